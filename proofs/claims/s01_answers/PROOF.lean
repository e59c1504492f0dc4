import PyProof.Rows.All
import Wide.All
import OpenK.AllK
import Wide.FinOn
import PyProof.EqAt
import PyProof.EqKinds
import PyProof.TupleCall
import KE.BitLaws
import Open.SpecLaws
import KE.OsHead
import KE.OsGo
import PyUe01
import PySem.Challenge.RW_piecehouse_s01_answers
set_option Elab.async false
set_option linter.all false
set_option maxRecDepth 100000
/-! THE HAND LAYER, for ints, bools, texts, own classes, lists, tuples, dicts, comprehensions, walks over dicts, enumerate, zip, reversed, texts, calls, loops. Paste it whole ahead of your own text; what your proof does not reach may be deleted. -/
namespace L2
open PySem PySem.Spec PyProof.Rows

/-- a key: an int or a str -/
abbrev Key := Sum Int Str
def keyIs : Key → Value → Bool
  | .inl k, v => Value.isInt k v
  | .inr x, v => Value.isStrOf x v
def keyH (w : World) : Key → Int
  | .inl k => hashInt k
  | .inr x => hashStr w x
theorem keyIs_shape : ∀ {k : Key} {v : Value}, keyIs k v = true → (∃ i t, k = Sum.inl i ∧ v = Value.int i t) ∨ (∃ x t, k = Sum.inr x ∧ v = Value.str x t)
  | .inl i, v, h => by
    obtain ⟨t, e⟩ := Value.isInt_shape (k := i) (v := v) h
    exact .inl ⟨i, t, rfl, e⟩
  | .inr x, v, h => by
    obtain ⟨t, e⟩ := Value.isStrOf_shape (x := x) (v := v) h
    exact .inr ⟨x, t, rfl, e⟩
theorem keyIs_int (i : Int) (t : Tok) : keyIs (.inl i) (.int i t) = true := by simp [keyIs, Value.isInt]
theorem keyIs_str (x : Str) (t : Tok) : keyIs (.inr x) (.str x t) = true := by simp [keyIs, Value.isStrOf]
theorem key_ll (a b : Int) : decide ((Sum.inl a : Key) = Sum.inl b) = (a == b) := by
  by_cases e : a = b
  · subst e; simp
  · have h : ¬ (Sum.inl a : Key) = Sum.inl b := fun q => e (Sum.inl.inj q)
    rw [decide_eq_false h]
    exact (beq_eq_false_iff_ne.mpr e).symm
theorem key_rr (a b : Str) : decide ((Sum.inr a : Key) = Sum.inr b) = decide (a = b) := by
  by_cases e : a = b
  · subst e; simp
  · have h : ¬ (Sum.inr a : Key) = Sum.inr b := fun q => e (Sum.inr.inj q)
    rw [decide_eq_false h, decide_eq_false e]
theorem key_lr (a : Int) (b : Str) : decide ((Sum.inl a : Key) = Sum.inr b) = false := decide_eq_false (fun q => nomatch q)
theorem key_rl (a : Str) (b : Int) : decide ((Sum.inr a : Key) = Sum.inl b) = false := decide_eq_false (fun q => nomatch q)

def mixKind (prog : Program) (w : World) : PySem.KeyKind prog w Key where
  is := keyIs
  hash := keyH w
  inj := fun v a b ha hb => by
    rcases keyIs_shape ha with ⟨i, t, rfl, rfl⟩ | ⟨x, t, rfl, rfl⟩
    · rcases keyIs_shape hb with ⟨j, u, rfl, e⟩ | ⟨y, u, rfl, e⟩
      · injection e with e1 _; rw [e1]
      · exact nomatch e
    · rcases keyIs_shape hb with ⟨j, u, rfl, e⟩ | ⟨y, u, rfl, e⟩
      · exact nomatch e
      · injection e with e1 _; rw [e1]
  byValue := fun k v h => by
    rcases keyIs_shape h with ⟨i, t, rfl, rfl⟩ | ⟨x, t, rfl, rfl⟩ <;> rfl
  pyHash := fun hv h => by
    rcases keyIs_shape hv with ⟨i, t, rfl, rfl⟩ | ⟨x, t, rfl, rfl⟩
    · exact wpAny_pyHash_int h
    · exact wpAny_pyHash_str h
  eqBool := fun hu hv h => by
    rcases keyIs_shape hu with ⟨i, t, rfl, rfl⟩ | ⟨x, t, rfl, rfl⟩
    · rcases keyIs_shape hv with ⟨j, u, rfl, rfl⟩ | ⟨y, u, rfl, rfl⟩
      · rw [key_ll] at h; exact wpAny_eqBool_int h
      · rw [key_lr] at h; exact SeqAt.EqAt.int_str i t y u _ _ _ _ h
    · rcases keyIs_shape hv with ⟨j, u, rfl, rfl⟩ | ⟨y, u, rfl, rfl⟩
      · rw [key_rl] at h; exact SeqAt.EqAt.str_int x t j u _ _ _ _ h
      · rw [key_rr] at h; exact wpAny_eqBool_str h
  «strs» := fun k x t v h => by
    rcases keyIs_shape h with ⟨i, u, rfl, e⟩ | ⟨y, u, rfl, e⟩
    · exact nomatch e
    · injection e with e1 _
      subst e1
      cases v <;> rfl

theorem mixKind_int (prog : Program) (w : World) (i : Int) (t : Tok) : (mixKind prog w).is (.inl i) (.int i t) = true := keyIs_int i t
theorem mixKind_str (prog : Program) (w : World) (x : Str) (t : Tok) : (mixKind prog w).is (.inr x) (.str x t) = true := keyIs_str x t
end L2

namespace L2
open PySem PySem.Spec PyProof.Rows

/-- a value, without the heap -/
inductive V where
  | non | bl (b : Bool) | int (i : Int) | str (x : Str) | byt (b : Array UInt8) | flt (b : UInt64) | ref (a : Addr) | ty (n : String)
  deriving DecidableEq

def RelV : V → Value → Prop
  | .non, u => u = Value.none
  | .bl b, u => u = Value.bool b
  | .int i, u => ∃ t, u = Value.int i t
  | .str x, u => ∃ t, u = Value.str x t
  | .byt b, u => ∃ t, u = Value.bytes b t
  | .flt b, u => ∃ t, u = Value.float b t
  | .ref a, u => u = Value.ref a
  | .ty n, u => u = Value.type n

abbrev Vals : List V → List Value → Prop := Paired RelV
theorem Vals.length {xs : List V} {us : List Value} (r : Vals xs us) : xs.length = us.length := Paired.length r
theorem Vals.get : ∀ {xs : List V} {us : List Value} {i : Nat} {x : V}, Vals xs us → xs[i]? = some x → ∃ u, us[i]? = some u ∧ RelV x u
  | _, _, _, _, .nil, e => by simp at e
  | _, _, 0, _, .cons r _, e => by simp at e; subst e; exact ⟨_, rfl, r⟩
  | _, _, i + 1, x, .cons _ t, e => by
    obtain ⟨u, h1, h2⟩ := Vals.get (i := i) (x := x) t (by simpa using e)
    exact ⟨u, by simpa using h1, h2⟩
theorem Vals.set {x : V} {u : Value} (r : RelV x u) : ∀ {xs : List V} {us : List Value} (i : Nat), Vals xs us → Vals (xs.set i x) (us.set i u)
  | _, _, _, .nil => .nil
  | _, _, 0, .cons _ t => .cons r t
  | _, _, i + 1, .cons q t => .cons q (Vals.set r i t)
theorem Vals.append : ∀ {xs ys : List V} {us ws : List Value}, Vals xs us → Vals ys ws → Vals (xs ++ ys) (us ++ ws)
  | _, _, _, _, .nil, s => s
  | _, _, _, _, .cons r t, s => .cons r (Vals.append t s)
theorem Vals.take : ∀ {xs : List V} {us : List Value} (n : Nat), Vals xs us → Vals (xs.take n) (us.take n)
  | _, _, 0, _ => .nil
  | _, _, _ + 1, .nil => .nil
  | _, _, n + 1, .cons r t => .cons r (Vals.take n t)
theorem Vals.drop : ∀ {xs : List V} {us : List Value} (n : Nat), Vals xs us → Vals (xs.drop n) (us.drop n)
  | _, _, 0, r => r
  | _, _, _ + 1, .nil => .nil
  | _, _, n + 1, .cons _ t => Vals.drop n t

def RelO : Option V → Option Value → Prop
  | some v, some u => RelV v u
  | none, none => True
  | _, _ => False
def KV {κ : Type} : List (κ × V) → List (κ × Value) → Prop := Paired fun (p : κ × V) (q : κ × Value) => p.1 = q.1 ∧ RelV p.2 q.2

/-- a key of a dict (00_mix): an int or a text -/
def kV : Key → V
  | .inl i => .int i
  | .inr x => .str x

/-- what stands at a tracked address -/
inductive HO where
  /-- a list -/
  | lst (xs : List V)
  /-- a tuple (never changes) -/
  | tup (xs : List V)
  /-- a dict whose keys are ints and texts; one whose keys are tuples of ints and texts (the empty one is both) -/
  | dK (kvs : List (Key × V)) | dT (kvs : List (List Key × V))
  /-- a set of ints: its members, its size -/
  | set (S : Int → Bool) (n : Nat)
  /-- an instance of the class at C, its dict at dx, its attributes -/
  | ins (C dx : Addr) (fs : List (Str × V))
  /-- the dict of the instance at x -/
  | own (x : Addr)
  /-- the dict of an exception -/
  | xd (fs : List (Str × V))
  /-- a bound method, f of x -/
  | met (f x : Addr)
  /-- a range object lo, lo + 1, .. below hi -/
  | rng (lo hi : Int)
  /-- a thing that is known to the object (the script; a dict while a loop walks it): read, never written while it is so -/
  | frz (o : Obj) (u : HO)
  /-- a code object's table -/
  | tbl (ps : Array Value)
  /-- any other thing, by what is true of its one object (a def of one's own: SetO a S n := HO.ext fun h => ..) -/
  | ext (φ : Heap → Prop)

abbrev Hp := Addr → Option HO
def upd (H : Hp) (a : Addr) (o : HO) : Hp := fun b => if b = a then some o else H b
theorem upd_same {H : Hp} {a : Addr} {o : HO} : upd H a o a = some o := by unfold upd; rw [if_pos rfl]
theorem upd_ne {H : Hp} {a b : Addr} {o : HO} (h : b ≠ a) : upd H a o b = H b := by unfold upd; rw [if_neg h]
theorem upd_upd {H : Hp} {a : Addr} {o u : HO} : upd (upd H a o) a u = upd H a u := by
  funext b; unfold upd; split <;> rfl
/-- two objects of different content stand apart -/
theorem ne_of {H : Hp} {a b : Addr} {o u : HO} (h : H a = some o) (h' : H b = some u) (d : o ≠ u) : a ≠ b := by
  intro e; subst e; rw [h] at h'; exact d (Option.some.inj h')
theorem ne_of_none {H : Hp} {a b : Addr} {o : HO} (h : H a = some o) (h' : H b = none) : a ≠ b := by
  intro e; subst e; rw [h] at h'; cases h'

/-- a tuple as the interpreter lays it: no dict, no slots -/
def IsTupX (h : Heap) (a : Addr) (its : Array Value) : Prop := ∃ n : Nat, h.get? a = some { cls := .type "tuple", data := .seq its n }
theorem IsTupX.tup {h : Heap} {a : Addr} {its : Array Value} (x : IsTupX h a its) : IsTup h a its := let ⟨n, e⟩ := x; ⟨_, e, rfl, n, rfl⟩
theorem IsTupX.lt {h : Heap} {a : Addr} {its : Array Value} (x : IsTupX h a its) : a < h.objs.size := let ⟨_, e⟩ := x; Heap.lt_size e
theorem IsTupX.new (h : Heap) (its : Array Value) : IsTupX (h.push { cls := .type "tuple", data := .seq its }) h.objs.size its := ⟨0, Heap.get?_push_size _ rfl⟩
section
variable (P : Program) (w : World)
def ObjOk (H : Hp) (h : Heap) (a : Addr) : HO → Prop
  | .lst xs => xs.length ≤ sizeLine ∧ ∃ (its : List Value) (n : Nat), Vals xs its ∧ h.get? a = some { cls := .type "list", data := .seq its.toArray n }
  | .tup xs => xs.length ≤ sizeLine ∧ ∃ its : List Value, Vals xs its ∧ IsTupX h a its.toArray
  | .dK kvs => kvs.length ≤ sizeLine ∧ (a == sysModules) = false ∧ ∃ vs, KV kvs vs ∧ h.DictOf (mixKind P w) a vs
  | .dT kvs => kvs.length ≤ sizeLine ∧ (a == sysModules) = false ∧ ∃ xs : List (List Key × Addr × Value),
      Paired (fun (p : List Key × V) (q : List Key × Addr × Value) => p.1 = q.1 ∧ H q.2.1 = some (.tup (p.1.map kV)) ∧ RelV p.2 q.2.2) kvs xs ∧
      ∃ o es ep, h.get? a = some o ∧ o.ExactDict ∧ o.data = .dict es ep ∧ es.toList = xs.map (entryOfKey (tupleKind (mixKind P w))) ∧ (xs.map (·.1)).Nodup
  | .set S n => h.SetOf (intKind P w) a S n
  | .ins C dx fs => H dx = some (.own a) ∧ fs.length ≤ 1000 ∧ dx ≠ a ∧ h.get? a = some (PySem.W.instObj C dx) ∧
      ∃ mA, h.Ns1 dx mA ∧ (∀ f, RelO (fs.lookup f) (mA f)) ∧ PySem.Within mA (fs.map (·.1))
  | .own _ => ∃ o, h.get? a = some o
  | .xd fs => ∃ mA, h.Ns1 a mA ∧ ∀ f, RelO (fs.lookup f) (mA f)
  | .rng lo hi => ∃ t u v, h.get? a = some { cls := .type "range", data := .fields #[.int lo t, .int hi u, .int 1 v] }
  | .frz o u => h.get? a = some o ∧ ObjOk H h a u
  | .tbl ps => h.get? a = some { cls := .none, data := .fields ps }
  | .met f x => h.get? a = some (PySem.W.methodObj (.ref f) (.ref x))
  | .ext φ => φ h ∧ (∃ o, h.get? a = some o) ∧ ∀ h1 h2 : Heap, φ h1 → (∀ o, h1.get? a = some o → h2.get? a = some o) → φ h2
/-- the abstract heap is held -/
def HOk (H : Hp) (h : Heap) : Prop := ∀ a o, H a = some o → ObjOk P w H h a o
end

section
variable {P : Program} {w : World} {H H' : Hp} {h h' : Heap} {a : Addr} {o : HO}
theorem ObjOk.lt (x : ObjOk P w H h a o) : a < h.objs.size := by
  cases o with
  | lst xs => obtain ⟨_, _, _, _, e⟩ := x; exact Heap.lt_size e
  | tup xs => obtain ⟨_, _, _, p⟩ := x; exact p.lt
  | dK kvs => obtain ⟨_, _, _, _, o, _, _, e, _⟩ := x; exact Heap.lt_size e
  | dT kvs => obtain ⟨_, _, _, _, o, _, _, e, _⟩ := x; exact Heap.lt_size e
  | set S n => obtain ⟨o, _, _, _, e, _⟩ := x; exact Heap.lt_size e
  | ins C dx fs => obtain ⟨_, _, _, e, _⟩ := x; exact Heap.lt_size e
  | own y => obtain ⟨_, e⟩ := x; exact Heap.lt_size e
  | xd fs => obtain ⟨_, ⟨_, _, _, e, _⟩, _⟩ := x; exact Heap.lt_size e
  | rng lo hi => obtain ⟨_, _, _, e⟩ := x; exact Heap.lt_size e
  | frz ob u => obtain ⟨e, _⟩ := x; exact Heap.lt_size e
  | tbl ps => exact Heap.lt_size (show h.get? a = some _ from x)
  | met f y => exact Heap.lt_size (show h.get? a = some _ from x)
  | ext φ => obtain ⟨_, ⟨_, e⟩, _⟩ := x; exact Heap.lt_size e
theorem Paired.mapP {α β : Type} {F G : α → β → Prop} : ∀ {l₁ : List α} {l₂ : List β}, Paired F l₁ l₂ → (∀ a b, F a b → G a b) → Paired G l₁ l₂
  | _, _, .nil, _ => .nil
  | _, _, .cons r t, f => .cons (f _ _ r) (Paired.mapP t f)
/-- what an object's description leans on: its own object, its own dict, the tuples -/
theorem ObjOk.stay (x : ObjOk P w H h a o) (k : ∀ b u, (b = a ∨ H b = some (.own a)) → h.get? b = some u → h'.get? b = some u)
    (ho : ∀ b, H b = some (.own a) → H' b = some (.own a)) (ht : ∀ b xs, H b = some (.tup xs) → H' b = some (.tup xs)) : ObjOk P w H' h' a o := by
  induction o with
  | lst xs => obtain ⟨z, its, n, r, e⟩ := x; exact ⟨z, its, n, r, k _ _ (.inl rfl) e⟩
  | tup xs => obtain ⟨z, its, r, ob, e⟩ := x; exact ⟨z, its, r, ob, k _ _ (.inl rfl) e⟩
  | dK kvs => obtain ⟨z, y, vs, r, ob, es, ep, e, c⟩ := x; exact ⟨z, y, vs, r, ob, es, ep, k _ _ (.inl rfl) e, c⟩
  | dT kvs =>
    obtain ⟨z, y, xs, r, ob, es, ep, e, c⟩ := x
    exact ⟨z, y, xs, Paired.mapP r fun p q z => ⟨z.1, ht _ _ z.2.1, z.2.2⟩, ob, es, ep, k _ _ (.inl rfl) e, c⟩
  | set S n => obtain ⟨ob, es, ep, t, e, c⟩ := x; exact ⟨ob, es, ep, t, k _ _ (.inl rfl) e, c⟩
  | ins C dx fs =>
    obtain ⟨d, z, ne, e, mA, ⟨od, es, ep, e2, c⟩, r⟩ := x
    exact ⟨ho _ d, z, ne, k _ _ (.inl rfl) e, mA, ⟨od, es, ep, k _ _ (.inr d) e2, c⟩, r⟩
  | own y => obtain ⟨ob, e⟩ := x; exact ⟨ob, k _ _ (.inl rfl) e⟩
  | xd fs => obtain ⟨mA, ⟨od, es, ep, e, c⟩, r⟩ := x; exact ⟨mA, ⟨od, es, ep, k _ _ (.inl rfl) e, c⟩, r⟩
  | rng lo hi => obtain ⟨t, u, v, e⟩ := x; exact ⟨t, u, v, k _ _ (.inl rfl) e⟩
  | frz ob u ih => obtain ⟨e, q⟩ := x; exact ⟨k _ _ (.inl rfl) e, ih q⟩
  | tbl ps =>
    have e : h.get? a = some { cls := .none, data := .fields ps } := x
    show h'.get? a = some { cls := .none, data := .fields ps }
    exact k a _ (.inl rfl) e
  | met f y =>
    have e : h.get? a = some (PySem.W.methodObj (.ref f) (.ref y)) := x
    show h'.get? a = some (PySem.W.methodObj (.ref f) (.ref y))
    exact k a _ (.inl rfl) e
  | ext φ => obtain ⟨p, ⟨o, e⟩, st⟩ := x; exact ⟨st _ _ p fun o q => k _ _ (.inl rfl) q, ⟨o, k _ _ (.inl rfl) e⟩, st⟩
theorem HOk.lt (x : HOk P w H h) (e : H a = some o) : a < h.objs.size := (x a o e).lt
theorem HOk.fresh (x : HOk P w H h) (e : h.objs.size ≤ a) : H a = none := by
  cases q : H a with
  | none => rfl
  | some u => exact absurd (Nat.lt_of_lt_of_le (x.lt q) e) (Nat.lt_irrefl _)
/-- every object of the heap is kept -/
theorem HOk.kept (x : HOk P w H h) (k : ∀ b u, h.get? b = some u → h'.get? b = some u) : HOk P w H h' := fun a o e =>
  (x a o e).stay (fun b u _ q => k b u q) (fun _ q => q) fun _ _ q => q
/-- a new object is laid and tracked -/
theorem HOk.laid (x : HOk P w H h) (k : ∀ b u, h.get? b = some u → h'.get? b = some u) (hp : h.objs.size ≤ a) (new : ObjOk P w (upd H a o) h' a o) : HOk P w (upd H a o) h' := fun b u e => by
  have hn := x.fresh hp
  by_cases hb : b = a
  · subst hb; rw [upd_same] at e; cases e; exact new
  · rw [upd_ne hb] at e
    exact (x b u e).stay (fun c v _ q => k c v q) (fun c q => by rw [upd_ne (ne_of_none q hn)]; exact q) fun c xs q => by rw [upd_ne (ne_of_none q hn)]; exact q
end

/-- what may be read as u: it is u, or a known u -/
def Rd (H : Hp) (a : Addr) (u : HO) : Prop := H a = some u ∨ ∃ o, H a = some (.frz o u)
theorem Rd.ok {P : Program} {w : World} {H : Hp} {h : Heap} {a : Addr} {u : HO} (r : Rd H a u) (x : HOk P w H h) : ObjOk P w H h a u := by
  rcases r with r | ⟨o, r⟩
  · exact x a u r
  · obtain ⟨_, q⟩ := x a _ r
    exact q
/-- what may be written -/
def Mut : Option HO → Prop
  | some (.lst _) => True
  | some (.dK _) => True
  | some (.dT _) => True
  | some (.set _ _) => True
  | some (.ins _ _ _) => True
  | some (.ext _) => True
  | _ => False
section
variable {P : Program} {w : World} {H : Hp} {h h' : Heap} {x e : Addr} {o' : HO}
/-- the object at e is changed: x itself, or the dict of the instance x -/
theorem HOk.write (ok : HOk P w H h) (mu : Mut (H x)) (he : e = x ∨ H e = some (.own x)) (k : ∀ b u, b ≠ e → h.get? b = some u → h'.get? b = some u) (heo : ∃ u, h'.get? e = some u)
    (new : ObjOk P w (upd H x o') h' x o') : HOk P w (upd H x o') h' := fun b u q => by
  have nown : ∀ c y, H c = some (.own y) → c ≠ x := fun c y r z => by subst z; rw [r] at mu; exact mu
  have ntup : ∀ c xs, H c = some (.tup xs) → c ≠ x := fun c xs r z => by subst z; rw [r] at mu; exact mu
  by_cases hb : b = x
  · subst hb; rw [upd_same] at q; cases q; exact new
  · rw [upd_ne hb] at q
    by_cases hbe : b = e
    · have q' : H b = some (.own x) := by
        rcases he with z | z
        · exact absurd (hbe.trans z) hb
        · rw [hbe]; exact z
      rw [q] at q'; cases q'
      obtain ⟨v, hv⟩ := heo
      exact ⟨v, by rw [hbe]; exact hv⟩
    · refine (ok b u q).stay (fun c v hc r => k c v ?_ r) (fun c r => by rw [upd_ne (nown c b r)]; exact r) fun c xs r => by rw [upd_ne (ntup c xs r)]; exact r
      rcases hc with rfl | hc
      · exact hbe
      · rintro rfl
        rcases he with z | z
        · exact nown c b hc z
        · rw [hc] at z; cases z; exact hb rfl
end

/-! ### kept unless tracked; of the frames at fs (the callers') the slots may change (an exception that passes writes there); of the records at ex (iterators) nothing is said -/
structure Un (fs ex : List Addr) (H H' : Hp) (h h' : Heap) : Prop where
  keep : ∀ b o, h.get? b = some o → H b = none → b ∉ fs → b ∉ ex → h'.get? b = some o
  slot : ∀ b o, h.get? b = some o → H b = none → b ∈ fs → b ∉ ex → ∃ sl, h'.get? b = some { o with slots := sl }
  free : ∀ b o, h.get? b = some o → H b = none → b ∉ ex → H' b = none
  there : ∀ b o, h.get? b = some o → b ∉ ex → ∃ o', h'.get? b = some o'
  tups : ∀ b xs, H b = some (.tup xs) → H' b = some (.tup xs)
  frzs : ∀ b o u, H b = some (.frz o u) → H' b = some (.frz o u)
  tbls : ∀ b ps, H b = some (.tbl ps) → ∃ more, H' b = some (.tbl (ps ++ more))
section
variable {fs fs' ex ex' : List Addr} {H H1 H2 : Hp} {h h1 h2 h' : Heap} {a x e : Addr} {o : HO}
theorem Un.any (u : Un fs ex H H1 h h1) {b : Addr} {ob : Obj} (q : h.get? b = some ob) (n : H b = none) (hx : b ∉ ex) : ∃ sl, h1.get? b = some { ob with slots := sl } := by
  by_cases hb : b ∈ fs
  · exact u.slot b ob q n hb hx
  · exact ⟨ob.slots, u.keep b ob q n hb hx⟩
theorem Un.kept (k : ∀ b u, h.get? b = some u → h'.get? b = some u) : Un fs ex H H h h' :=
  ⟨fun b ob q _ _ _ => k b ob q, fun b ob q _ _ _ => ⟨ob.slots, k b ob q⟩, fun _ _ _ n _ => n, fun b ob q _ => ⟨ob, k b ob q⟩, fun _ _ q => q, fun _ _ _ q => q, fun _ ps q => ⟨#[], by rw [q]; simp⟩⟩
theorem Un.refl : Un fs ex H H h h := Un.kept fun _ _ q => q
theorem Un.laid (k : ∀ b u, h.get? b = some u → h'.get? b = some u) (hp : h.objs.size ≤ a) (hn : H a = none) : Un fs ex H (upd H a o) h h' where
  keep := fun b u q _ _ _ => k b u q
  slot := fun b u q _ _ _ => ⟨u.slots, k b u q⟩
  free := fun b u q n _ => by rw [upd_ne (Nat.ne_of_lt (Nat.lt_of_lt_of_le (Heap.lt_size q) hp))]; exact n
  there := fun b u q _ => ⟨u, k b u q⟩
  tups := fun b xs q => by rw [upd_ne (ne_of_none q hn)]; exact q
  frzs := fun b u xs q => by rw [upd_ne (ne_of_none q hn)]; exact q
  tbls := fun b ps q => ⟨#[], by rw [upd_ne (ne_of_none q hn), q]; simp⟩
theorem Un.write (mu : Mut (H x)) (he : e = x ∨ H e = some (.own x)) (k : ∀ b u, b ≠ e → h.get? b = some u → h'.get? b = some u) (heo : ∃ u, h'.get? e = some u) : Un fs ex H (upd H x o) h h' := by
  have hx : ∀ b, H b = none → b ≠ x := fun b n z => by subst z; rw [n] at mu; exact mu
  have hb : ∀ b, H b = none → b ≠ e := fun b n z => by
    subst z
    rcases he with r | r
    · exact hx b n r
    · rw [n] at r; cases r
  have hm : ∀ b u, H b = some u → ¬ Mut (some u) → b ≠ x := fun b u q nm z => by subst z; rw [q] at mu; exact nm mu
  refine ⟨fun b u q n _ _ => k b u (hb b n) q, fun b u q n _ _ => ⟨u.slots, k b u (hb b n) q⟩, fun b u q n _ => by rw [upd_ne (hx b n)]; exact n, fun b u q _ => ?_,
    fun b xs q => by rw [upd_ne (hm b _ q fun z => z)]; exact q, fun b u xs q => by rw [upd_ne (hm b _ q fun z => z)]; exact q, fun b ps q => ⟨#[], by rw [upd_ne (hm b _ q fun z => z), q]; simp⟩⟩
  by_cases hbe : b = e
  · subst hbe; exact heo
  · exact ⟨u, k b u hbe q⟩
end

/-! ### the heap without what is tracked -/
def trk (h : Heap) (H : Hp) : List Addr := (List.range h.objs.size).filter fun a => (H a).isSome
def hidT (h : Heap) (H : Hp) : Heap := PySem.W.hideAll h (trk h H)
theorem hidT_size (h : Heap) (H : Hp) : (hidT h H).objs.size = h.objs.size := PySem.W.hideAll_size _ _
theorem hidT_get {h : Heap} {H : Hp} {b : Addr} {o : Obj} (e : h.get? b = some o) (n : H b = none) : (hidT h H).get? b = some o :=
  PySem.W.hideAll_get _ e fun hm => by
    have q : (H b).isSome = true := (List.mem_filter.mp hm).2
    rw [n] at q; simp at q
theorem of_hidT {h : Heap} {H : Hp} {b : Addr} {o : Obj} (e : (hidT h H).get? b = some o) : h.get? b = some o ∧ H b = none := by
  have e' : h.get? b = some o := PySem.W.of_hideAll (trk h H) e
  refine ⟨e', ?_⟩
  cases q : H b with
  | none => rfl
  | some x =>
    have hm : b ∈ trk h H := List.mem_filter.mpr ⟨List.mem_range.mpr (Heap.lt_size e'), by simp [q]⟩
    have z : (hidT h H).get? b = none := PySem.W.hideAll_none (trk h H) hm
    rw [z] at e; cases e

/-! ### OpenK's ledger, filled with every new object but one -/
end L2

namespace L2
open PySem PySem.Spec PyProof.Rows

/-- the module's facts, over the base: the heap at the law's entry without what is tracked there -/
structure Mod (K : PySem.W.Frag) (mg : Str → Option Value) (base : Heap) : Prop where
  kin : K.In base
  glob : base.Ns mainGlobals mg
  blt : ∃ mb, base.Ns builtinsNs mb ∧ ∀ x : Str, x ≠ "__name__" → mb x = bootBuiltins x
  nolimit : base.NoLimit

/-- the context: a def's body (or a comprehension's block) running. base: fixed through the whole law; s₀, H₀: the entry; outer: the frames whose slots others may change (a def's callers); stack: all frames that run;
   ex: iterators that were made ahead of the entry and are walked here (a comprehension's); fn: the names whose cells were made at the entry (a def: all; a comprehension's block: its own); calm: not within an except suite; pn: pins that every state bears; xe: what is wanted of an exception that leaves the code -/
structure Cx where
  prog : Program
  w : World
  K : PySem.W.Frag
  mg : Str → Option Value
  base : Heap
  A : Around
  N : List Str
  s_0 : Shared
  H_0 : Hp
  env : Env
  outer : List Env
  stack : List Env
  ex : List Addr
  fn : Str → Bool
  calm : Bool
  pn : List (Addr × Obj)
  xe : Value → Shared → Prop
/-- the callers' frames -/
def frs (l : List Env) : List Addr := l.filterMap (·.frame)
abbrev Cx.fs (X : Cx) : List Addr := frs X.outer

def Vis (sc : Scope) (x : Str) : Prop := sc.names.lookup x = some .local ∨ sc.names.lookup x = some .cell ∨ sc.names.lookup x = some .free
def Loc (sc : Scope) (x : Str) : Prop := sc.names.lookup x = some .local ∨ sc.names.lookup x = some .cell
def Look (env : Env) (h : Heap) (m : Str → Option Value) (x : Str) (u : Value) : Prop :=
  (env.kindOf x = some .local ∧ m x = some u) ∨ ((env.kindOf x = some .cell ∨ env.kindOf x = some .free) ∧ ∃ c, env.cells.lookup x = some c ∧ h.IsCell c (some u))

structure Cx.Ok (X : Cx) : Prop where
  mod : Mod X.K X.mg X.base
  kind : X.env.scope.kind = .function
  glob : X.env.globals = mainGlobals
  blt : X.env.builtins = builtinsNs
  above : X.s_0.heap.objs.size ≤ X.env.locals
  inj : ∀ x y c, X.env.cells.lookup x = some c → X.env.cells.lookup y = some c → x = y
  has : ∀ x, (X.env.kindOf x = some .cell ∨ X.env.kindOf x = some .free) → ∃ c, X.env.cells.lookup x = some c
  cab : ∀ x c, X.fn x = true → X.env.cells.lookup x = some c → X.s_0.heap.objs.size ≤ c
  hd : X.calm = true → X.A.handled = none
  frames : X.A.frames = some X.stack
  stk : X.stack = X.outer ∨ (X.stack = X.env :: X.outer ∧ X.env.frame = some X.env.locals)
  exf : ∀ b ∈ X.ex, b ≠ X.env.locals ∧ ∀ x c, X.env.cells.lookup x = some c → c ≠ b
  bs : ∀ b o, X.base.get? b = some o → X.s_0.heap.get? b = some o ∧ X.H_0 b = none
  bsz : X.base.objs.size ≤ X.s_0.heap.objs.size
  noex : ∀ b o, X.base.get? b = some o → b ∉ X.ex
  exfs : ∀ b ∈ X.ex, b ∉ X.fs
  funs : X.s_0.heap.FunFrames X.base X.outer
  frf : ∀ b ∈ X.fs, X.H_0 b = none

structure Inv (X : Cx) (pins : List (Addr × Obj)) (σ : List (Option V)) (H : Hp) (s : Shared) : Prop where
  ok : X.Ok
  os : s.os = X.s_0.os
  bare : AllBare s.gens
  base : Un X.fs X.ex X.H_0 H X.s_0.heap s.heap
  loc : ∃ m, s.heap.Ns X.env.locals m ∧ ∀ (i : Nat) (x : Str) (v : V), X.N[i]? = some x → σ[i]? = some (some v) → Vis X.env.scope x → ∃ u, RelV v u ∧ Look X.env s.heap m x u
  cell : ∀ x c, X.env.cells.lookup x = some c → ∃ v, s.heap.IsCell c v
  free : H X.env.locals = none
  freeC : ∀ x c, X.env.cells.lookup x = some c → H c = none
  pin : ∀ p ∈ X.pn ++ pins, s.heap.get? p.1 = some p.2 ∧ H p.1 = none ∧ p.1 ≠ X.env.locals ∧ p.1 ∉ X.fs ∧ ∀ v, p.2.data ≠ .cell v
  hok : HOk X.prog X.w H s.heap
  len : σ.length = X.N.length

section
variable {X : Cx} {pins : List (Addr × Obj)} {σ : List (Option V)} {H H' : Hp} {s : Shared} {h' : Heap}

theorem Cx.Ok.nofr (ok : X.Ok) {b : Addr} {o : Obj} (e : X.base.get? b = some o) : b ∉ X.fs := fun hb => by
  have := (ok.funs.mem hb).1
  rw [e] at this; cases this
theorem Inv.bs (I : Inv X pins σ H s) : ∀ b o, X.base.get? b = some o → s.heap.get? b = some o ∧ H b = none := fun b o e =>
  ⟨I.base.keep b o (I.ok.bs b o e).1 (I.ok.bs b o e).2 (I.ok.nofr e) (I.ok.noex b o e), I.base.free b o (I.ok.bs b o e).1 (I.ok.bs b o e).2 (I.ok.noex b o e)⟩
theorem Inv.bk (I : Inv X pins σ H s) : ∀ b o, X.base.get? b = some o → s.heap.get? b = some o := fun b o e => (I.bs b o e).1
theorem Inv.mod (I : Inv X pins σ H s) : Mod X.K X.mg X.base := I.ok.mod
theorem Inv.kIn (I : Inv X pins σ H s) : X.K.In s.heap := I.ok.mod.kin.keeps I.bk
theorem Inv.lt (I : Inv X pins σ H s) : X.env.locals < s.heap.objs.size := let ⟨_, hn, _⟩ := I.loc; hn.lt
theorem Inv.sz (I : Inv X pins σ H s) : X.s_0.heap.objs.size ≤ s.heap.objs.size := Nat.le_trans I.ok.above (Nat.le_of_lt I.lt)
theorem Inv.nofs (I : Inv X pins σ H s) {a : Addr} (h : s.heap.objs.size ≤ a) : a ∉ X.fs := fun hb => by
  obtain ⟨_, o, ho, _⟩ := I.ok.funs.mem hb
  exact absurd (Nat.lt_of_lt_of_le (Heap.lt_size ho) (Nat.le_trans I.sz h)) (Nat.lt_irrefl _)
theorem Inv.cne (I : Inv X pins σ H s) : ∀ x c, X.env.cells.lookup x = some c → c ≠ X.env.locals := fun x c e z => by
  obtain ⟨v, o, ho, hd⟩ := I.cell x c e
  obtain ⟨m, ⟨o', es, ep, ho', hd', _⟩, _⟩ := I.loc
  rw [z, ho'] at ho; cases ho; rw [hd'] at hd; cases hd
theorem Inv.funs (I : Inv X pins σ H s) : s.heap.FunFrames X.base X.outer := by
  have all : ∀ (l : List Env), (∀ b ∈ frs l, b ∈ X.fs) → X.s_0.heap.FunFrames X.base l → s.heap.FunFrames X.base l := by
    intro l
    induction l with
    | nil => intro _ _; trivial
    | cons env r ih =>
      intro hs hl
      obtain ⟨hk, ⟨L, o, hf, hn, ho, hd⟩, hr⟩ := hl
      have hL : L ∈ X.fs := hs L (by unfold frs; rw [List.filterMap_cons, hf]; exact List.mem_cons_self)
      obtain ⟨sl, e⟩ := I.base.slot L o ho (I.ok.frf L hL) hL fun z => I.ok.exfs L z hL
      exact ⟨hk, ⟨L, _, hf, hn, e, hd⟩, ih (fun b hb => hs b (by unfold frs; rw [List.filterMap_cons, hf]; exact List.mem_cons_of_mem _ hb)) hr⟩
  exact all X.outer (fun _ hb => hb) I.ok.funs

/-- the frames that run, for a call -/
theorem Inv.stack (I : Inv X pins σ H s) : s.heap.FunFrames X.base X.stack := by
  rcases I.ok.stk with e | ⟨e, hf⟩
  · rw [e]; exact I.funs
  · rw [e]
    obtain ⟨m, hn, _⟩ := I.loc
    refine .cons (by rw [I.ok.kind]; decide) hf hn ?_ I.funs
    exact Heap.get?_none_of_le (Nat.le_trans I.ok.bsz I.ok.above)
theorem Inv.stkSub (I : Inv X pins σ H s) : ∀ b ∈ frs X.stack, b ∈ X.env.locals :: X.fs := fun b hb => by
  rcases I.ok.stk with e | ⟨e, hf⟩
  · rw [e] at hb; exact List.mem_cons_of_mem _ hb
  · rw [e] at hb
    unfold frs at hb
    rw [List.filterMap_cons, hf] at hb
    exact hb
theorem Inv.stkFree (I : Inv X pins σ H s) : ∀ b ∈ frs X.stack, H b = none := fun b hb => by
  rcases List.mem_cons.mp (I.stkSub b hb) with e | hb
  · rw [e]; exact I.free
  · obtain ⟨_, o, ho, _⟩ := I.ok.funs.mem hb
    exact I.base.free b o ho (I.ok.frf b hb) fun z => I.ok.exfs b z hb

/-- THE STEP: the untracked objects but the frame and the records at ch are kept (the callers' frames up to slots), the frame's map is kept, the new abstract heap is held -/
theorem Inv.step {g' : Array GenState} {t' : Nat} {d' : Drawn} {ch : List Addr} (I : Inv X pins σ H s)
    (hch : ∀ b ∈ ch, (b ∈ X.ex ∨ X.s_0.heap.objs.size ≤ b) ∧ b ≠ X.env.locals ∧ (∀ x c, X.env.cells.lookup x = some c → c ≠ b) ∧ ∀ p ∈ X.pn ++ pins, p.1 ≠ b)
    (keep : ∀ b o, b ≠ X.env.locals → b ∉ X.fs → b ∉ ch → s.heap.get? b = some o → H b = none → h'.get? b = some o)
    (slot : ∀ b o, b ≠ X.env.locals → b ∈ X.fs → b ∉ ch → s.heap.get? b = some o → H b = none → ∃ sl, h'.get? b = some { o with slots := sl }) (free : ∀ b o, b ∉ ch → s.heap.get? b = some o → H b = none → H' b = none)
    (there : ∀ b o, b ∉ ch → s.heap.get? b = some o → ∃ o', h'.get? b = some o')
    (tups : ∀ b xs, H b = some (.tup xs) → H' b = some (.tup xs)) (frzs : ∀ b o u, H b = some (.frz o u) → H' b = some (.frz o u)) (tbls : ∀ b ps, H b = some (.tbl ps) → ∃ more, H' b = some (.tbl (ps ++ more)))
    (ns : ∀ m, s.heap.Ns X.env.locals m → h'.Ns X.env.locals m) (hok : HOk X.prog X.w H' h') (hg : AllBare g') :
    Inv X pins σ H' { s with heap := h', gens := g', drawn := d', toks := t' } := by
  have neL : ∀ b o, X.s_0.heap.get? b = some o → b ≠ X.env.locals := fun b o e => Nat.ne_of_lt (Nat.lt_of_lt_of_le (Heap.lt_size e) I.ok.above)
  have neC : ∀ b o, X.s_0.heap.get? b = some o → b ∉ X.ex → b ∉ ch := fun b o e hx hb => by
    rcases (hch b hb).1 with z | z
    · exact hx z
    · exact absurd (Nat.lt_of_lt_of_le (Heap.lt_size e) z) (Nat.lt_irrefl _)
  have cellK : ∀ x c, X.env.cells.lookup x = some c → ∀ v, s.heap.IsCell c v → h'.IsCell c v := fun x c e v ⟨o, ho, hd⟩ => by
    have nch : c ∉ ch := fun z => (hch c z).2.2.1 x c e rfl
    by_cases hc : c ∈ X.fs
    · obtain ⟨sl, q⟩ := slot c o (I.cne x c e) hc nch ho (I.freeC x c e)
      exact ⟨_, q, hd⟩
    · exact ⟨o, keep c o (I.cne x c e) hc nch ho (I.freeC x c e), hd⟩
  refine ⟨I.ok, I.os, hg, ⟨fun b o e n hb hx => ?_, fun b o e n hb hx => ?_, fun b o e n hx => ?_, fun b o e hx => ?_, fun b xs e => tups b xs (I.base.tups b xs e), fun b o xs e => frzs b o xs (I.base.frzs b o xs e), fun b ps e => ?_⟩, ?_, fun x c e => ?_, ?_, fun x c e => ?_, fun p hp => ?_, hok, I.len⟩
  · exact keep b o (neL b o e) hb (neC b o e hx) (I.base.keep b o e n hb hx) (I.base.free b o e n hx)
  · obtain ⟨sl, e1⟩ := I.base.slot b o e n hb hx
    obtain ⟨sl', e2⟩ := slot b _ (neL b o e) hb (neC b o e hx) e1 (I.base.free b o e n hx)
    exact ⟨sl', e2⟩
  · obtain ⟨o', e1⟩ := I.base.there b o e hx
    exact free b o' (neC b o e hx) e1 (I.base.free b o e n hx)
  · obtain ⟨o', e1⟩ := I.base.there b o e hx
    exact there b o' (neC b o e hx) e1
  · obtain ⟨m1, e1⟩ := I.base.tbls b ps e
    obtain ⟨m2, e2⟩ := tbls b _ e1
    exact ⟨m1 ++ m2, by rw [e2, Array.append_assoc]⟩
  · obtain ⟨m, hn, hl⟩ := I.loc
    refine ⟨m, ns m hn, fun i x v e1 e2 e3 => ?_⟩
    obtain ⟨u, r, l⟩ := hl i x v e1 e2 e3
    refine ⟨u, r, ?_⟩
    rcases l with l | ⟨k, c, e, z⟩
    · exact .inl l
    · exact .inr ⟨k, c, e, cellK x c e _ z⟩
  · obtain ⟨v, z⟩ := I.cell x c e
    exact ⟨v, cellK x c e v z⟩
  · obtain ⟨m, ⟨o, _, _, ho, _⟩, _⟩ := I.loc
    exact free _ o (fun z => (hch _ z).2.1 rfl) ho I.free
  · obtain ⟨v, o, ho, hd⟩ := I.cell x c e
    exact free c o (fun z => (hch c z).2.2.1 x c e rfl) ho (I.freeC x c e)
  · obtain ⟨e, n, ne, nf, d⟩ := I.pin p hp
    have nch : p.1 ∉ ch := fun z => (hch p.1 z).2.2.2 p hp rfl
    exact ⟨keep p.1 p.2 ne nf nch e n, free p.1 p.2 nch e n, ne, nf, d⟩
/-- .. where the frame's own object is kept too -/
theorem Inv.un {t' : Nat} (I : Inv X pins σ H s) (u : Un X.fs [] H H' s.heap h') (hok : HOk X.prog X.w H' h') : Inv X pins σ H' { s with heap := h', toks := t' } := by
  obtain ⟨m, ⟨o, es, ep, ho, r⟩, _⟩ := id I.loc
  obtain ⟨sl, hL⟩ := u.any ho I.free (by simp)
  exact I.step (g' := s.gens) (d' := s.drawn) (ch := []) (fun _ z => nomatch z) (fun b o _ hb _ e n => u.keep b o e n hb (by simp)) (fun b o _ hb _ e n => u.slot b o e n hb (by simp)) (fun b o _ e n => u.free b o e n (by simp)) (fun b o _ e => u.there b o e (by simp)) u.tups u.frzs u.tbls (fun m' hm => by
    obtain ⟨o', es', ep', ho', r'⟩ := hm
    rw [ho] at ho'; cases ho'
    exact ⟨_, es', ep', hL, r'⟩) hok I.bare
/-- behind a call (or a comprehension's block): the slots of this frame may have changed too, the records at ch may have turned -/
theorem Inv.call {g' : Array GenState} {t' : Nat} {d' : Drawn} {ch : List Addr} (I : Inv X pins σ H s) (u : Un (frs X.stack) ch H H' s.heap h') (hok : HOk X.prog X.w H' h') (hg : AllBare g')
    (hch : ∀ b ∈ ch, (b ∈ X.ex ∨ X.s_0.heap.objs.size ≤ b) ∧ b ≠ X.env.locals ∧ (∀ x c, X.env.cells.lookup x = some c → c ≠ b) ∧ ∀ p ∈ X.pn ++ pins, p.1 ≠ b) :
    Inv X pins σ H' { s with heap := h', gens := g', drawn := d', toks := t' } := by
  obtain ⟨m, ⟨o, es, ep, ho, r⟩, _⟩ := id I.loc
  obtain ⟨sl, hL⟩ := u.any ho I.free fun z => (hch _ z).2.1 rfl
  exact I.step (ch := ch) hch (fun b o hL hb hc e n => u.keep b o e n (fun z => (List.mem_cons.mp (I.stkSub b z)).elim hL hb) hc) (fun b o _ _ hc e n => u.any e n hc) (fun b o hc e n => u.free b o e n hc) (fun b o hc e => u.there b o e hc) u.tups u.frzs u.tbls (fun m' hm => by
    obtain ⟨o', es', ep', ho', r'⟩ := hm
    rw [ho] at ho'; cases ho'
    exact ⟨_, es', ep', hL, r'⟩) hok hg
/-- an untracked record of ours (an iterator) has turned -/
theorem Inv.turned {t' : Nat} {it : Addr} (I : Inv X pins σ H s) (k : ∀ b o, b ≠ it → s.heap.get? b = some o → h'.get? b = some o) (hn : H it = none) (hL : it ≠ X.env.locals)
    (h1 : it ∈ X.ex ∨ X.s_0.heap.objs.size ≤ it) (h2 : ∀ x c, X.env.cells.lookup x = some c → c ≠ it) (h3 : ∀ p ∈ X.pn ++ pins, p.1 ≠ it) : Inv X pins σ H { s with heap := h', toks := t' } := by
  have nit : ∀ b u, H b = some u → b ≠ it := fun b u e z => by rw [z, hn] at e; cases e
  refine I.step (g' := s.gens) (d' := s.drawn) (ch := [it]) (fun b hb => ?_) (fun b o _ _ hc e _ => k b o (fun z => hc (by simp [z])) e) (fun b o _ _ hc e _ => ⟨o.slots, k b o (fun z => hc (by simp [z])) e⟩) (fun _ _ _ _ n => n)
    (fun b o hc e => ⟨o, k b o (fun z => hc (by simp [z])) e⟩) (fun _ _ e => e) (fun _ _ _ e => e) (fun b ps e => ⟨#[], by rw [e]; simp⟩) (fun m hm => ?_) (fun b u e => ?_) I.bare
  · have e : b = it := by simpa using hb
    subst e
    exact ⟨h1, hL, h2, h3⟩
  · obtain ⟨o, es, ep, ho, r⟩ := hm
    exact ⟨o, es, ep, k _ o (Ne.symm hL) ho, r⟩
  · refine (I.hok b u e).stay (fun c v hc q => k c v ?_ q) (fun _ q => q) fun _ _ q => q
    rcases hc with z | z
    · rw [z]; exact nit b u e
    · exact nit c _ z
theorem Inv.tok (I : Inv X pins σ H s) (t : Nat) : Inv X pins σ H { s with toks := t } := I.un (h' := s.heap) (t' := t) Un.refl I.hok
/-- all objects kept -/
theorem Inv.kept {t' : Nat} (I : Inv X pins σ H s) (k : ∀ b u, s.heap.get? b = some u → h'.get? b = some u) : Inv X pins σ H { s with heap := h', toks := t' } := I.un (Un.kept k) (I.hok.kept k)
/-- a new object laid and tracked -/
theorem Inv.laid {a : Addr} {o : HO} {t' : Nat} (I : Inv X pins σ H s) (k : ∀ b u, s.heap.get? b = some u → h'.get? b = some u) (hp : s.heap.objs.size ≤ a) (new : ObjOk X.prog X.w (upd H a o) h' a o) :
    Inv X pins σ (upd H a o) { s with heap := h', toks := t' } := I.un (Un.laid k hp (I.hok.fresh hp)) (I.hok.laid k hp new)
/-- an object written -/
theorem Inv.write {x e : Addr} {o : HO} {t' : Nat} (I : Inv X pins σ H s) (mu : Mut (H x)) (he : e = x ∨ H e = some (.own x)) (k : ∀ b u, b ≠ e → s.heap.get? b = some u → h'.get? b = some u) (heo : ∃ u, h'.get? e = some u)
    (new : ObjOk X.prog X.w (upd H x o) h' x o) : Inv X pins σ (upd H x o) { s with heap := h', toks := t' } := I.un (Un.write mu he k heo) (I.hok.write mu he k heo new)
theorem Inv.pins_of {pins' : List (Addr × Obj)} (I : Inv X pins σ H s) (h : ∀ p ∈ pins', s.heap.get? p.1 = some p.2 ∧ H p.1 = none ∧ p.1 ≠ X.env.locals ∧ p.1 ∉ X.fs ∧ ∀ v, p.2.data ≠ .cell v) : Inv X pins' σ H s :=
  ⟨I.ok, I.os, I.bare, I.base, I.loc, I.cell, I.free, I.freeC, fun p hp => (List.mem_append.mp hp).elim (fun z => I.pin p (List.mem_append_left _ z)) (h p), I.hok, I.len⟩

theorem nodup_ix {N : List Str} (hN : N.Nodup) {i j : Nat} {x : Str} (a : N[i]? = some x) (b : N[j]? = some x) : i = j := by
  obtain ⟨h1, e1⟩ := List.getElem?_eq_some_iff.mp a
  obtain ⟨h2, e2⟩ := List.getElem?_eq_some_iff.mp b
  exact (List.getElem_inj hN).mp (e1.trans e2.symm)

/-- a name is stored; what changed -/
theorem store_ok2 {M : Model} {A : Around} {E : Value → Shared → Prop} {i : Nat} {x : Str} {v : V} {u : Value} {Q : Unit → Shared → Prop} (I : Inv X pins σ H s) (hN : X.N.Nodup) (hi : X.N[i]? = some x) (hx : Loc X.env.scope x) (r : RelV v u)
    (h : ∀ s', Inv X pins (σ.set i (some v)) H s' → (∃ a, Heap.SameBut a s.heap s'.heap ∧ (a = X.env.locals ∨ X.env.cells.lookup x = some a)) → Q () s') (hf : X.fn x = true ∨ X.env.scope.names.lookup x = some .local := by first | exact .inl rfl | exact .inr rfl | assumption) : wpAny M A (storeName X.env x u) Q E s := by
  obtain ⟨m, hn, hl⟩ := id I.loc
  have hcls : (X.env.scope.kind == .class || (X.env.scope.kind == .module && X.env.locals != X.env.globals)) = false := by rw [I.ok.kind]; rfl
  have hiσ : i < σ.length := by rw [I.len]; exact (List.getElem?_eq_some_iff.mp hi).1
  have cne := I.cne
  have tracked : ∀ {a : Addr} {h' : Heap}, (∃ o, s.heap.get? a = some o ∧ H a = none) → Heap.SameBut a s.heap h' → HOk X.prog X.w H h' := fun {a h'} ha hs b ob e => by
    obtain ⟨_, _, hfree⟩ := ha
    refine (I.hok b ob e).stay (fun c w' hc q => (hs.2 c ?_).trans q) (fun _ q => q) fun _ _ q => q
    rintro rfl
    rcases hc with rfl | hc
    · rw [hfree] at e; cases e
    · rw [hfree] at hc; cases hc
  rcases hx with hk | hk
  · refine wpAny_storeName_local hk hn (fun h' hn' hs => ?_) hcls
    obtain ⟨oL, _, _, hoL, _⟩ := id hn
    refine h _ ⟨I.ok, I.os, I.bare, ⟨fun b o e n hb hx => ?_, fun b o e n hb hx => ?_, I.base.free, fun b o e hx => ?_, I.base.tups, I.base.frzs, I.base.tbls⟩, ⟨_, hn', fun j y v' e1 e2 e3 => ?_⟩, fun y c e => ?_, I.free, I.freeC, fun p hp => ?_, tracked ⟨oL, hoL, I.free⟩ hs, by simpa using I.len⟩ ⟨_, hs, .inl rfl⟩
    · exact (hs.2 b (Nat.ne_of_lt (Nat.lt_of_lt_of_le (Heap.lt_size e) I.ok.above))).trans (I.base.keep b o e n hb hx)
    · obtain ⟨sl, e1⟩ := I.base.slot b o e n hb hx
      exact ⟨sl, (hs.2 b (Nat.ne_of_lt (Nat.lt_of_lt_of_le (Heap.lt_size e) I.ok.above))).trans e1⟩
    · obtain ⟨o', e1⟩ := I.base.there b o e hx
      exact ⟨o', (hs.2 b (Nat.ne_of_lt (Nat.lt_of_lt_of_le (Heap.lt_size e) I.ok.above))).trans e1⟩
    · by_cases hj : j = i
      · subst hj
        rw [hi] at e1; cases e1
        rw [List.getElem?_set_self hiσ] at e2
        cases e2
        exact ⟨u, r, .inl ⟨hk, by simp⟩⟩
      · rw [List.getElem?_set_ne (Ne.symm hj)] at e2
        obtain ⟨u', r', q⟩ := hl j y v' e1 e2 e3
        refine ⟨u', r', ?_⟩
        rcases q with ⟨k, e⟩ | ⟨k, c, e, z⟩
        · refine .inl ⟨k, ?_⟩
          have : y ≠ x := fun e => hj (nodup_ix hN e1 (e ▸ hi))
          simp [this, e]
        · exact .inr ⟨k, c, e, z.sameBut hs (cne y c e)⟩
    · obtain ⟨w', z⟩ := I.cell y c e
      exact ⟨w', z.sameBut hs (cne y c e)⟩
    · obtain ⟨e, n, ne, nf, d⟩ := I.pin p hp
      exact ⟨(hs.2 p.1 ne).trans e, n, ne, nf, d⟩
  · have hfn : X.fn x = true := by
      rcases hf with z | z
      · exact z
      · rw [z] at hk; cases hk
    obtain ⟨c, hc⟩ := I.ok.has x (.inl hk)
    obtain ⟨w', z⟩ := I.cell x c hc
    refine wpAny_storeName_cell I.ok.kind hk hc z (fun h' hc' hs => ?_)
    obtain ⟨oc, hoc, hocd⟩ := id z
    refine h { s with heap := h' } ⟨I.ok, I.os, I.bare, ⟨fun b o e n hb hx => ?_, fun b o e n hb hx => ?_, I.base.free, fun b o e hx => ?_, I.base.tups, I.base.frzs, I.base.tbls⟩, ⟨m, hn.sameBut hs (Ne.symm (cne x c hc)), fun j y v' e1 e2 e3 => ?_⟩, fun y c' e => ?_, I.free, I.freeC, fun p hp => ?_, tracked ⟨oc, hoc, I.freeC x c hc⟩ hs, by simpa using I.len⟩ ⟨c, hs, .inr hc⟩
    · exact (hs.2 b (Nat.ne_of_lt (Nat.lt_of_lt_of_le (Heap.lt_size e) (I.ok.cab x c hfn hc)))).trans (I.base.keep b o e n hb hx)
    · obtain ⟨sl, e1⟩ := I.base.slot b o e n hb hx
      exact ⟨sl, (hs.2 b (Nat.ne_of_lt (Nat.lt_of_lt_of_le (Heap.lt_size e) (I.ok.cab x c hfn hc)))).trans e1⟩
    · obtain ⟨o', e1⟩ := I.base.there b o e hx
      exact ⟨o', (hs.2 b (Nat.ne_of_lt (Nat.lt_of_lt_of_le (Heap.lt_size e) (I.ok.cab x c hfn hc)))).trans e1⟩
    · by_cases hj : j = i
      · subst hj
        rw [hi] at e1; cases e1
        rw [List.getElem?_set_self hiσ] at e2
        cases e2
        exact ⟨u, r, .inr ⟨.inl hk, c, hc, hc'⟩⟩
      · rw [List.getElem?_set_ne (Ne.symm hj)] at e2
        obtain ⟨u', r', q⟩ := hl j y v' e1 e2 e3
        refine ⟨u', r', ?_⟩
        rcases q with q | ⟨k, c', e, z'⟩
        · exact .inl q
        · refine .inr ⟨k, c', e, z'.sameBut hs ?_⟩
          rintro rfl
          exact hj (nodup_ix hN e1 (I.ok.inj _ _ _ e hc ▸ hi))
    · by_cases hcc : c' = c
      · subst hcc; exact ⟨_, hc'⟩
      · obtain ⟨w2, z2⟩ := I.cell y c' e
        exact ⟨w2, z2.sameBut hs hcc⟩
    · obtain ⟨e, n, ne, nf, d⟩ := I.pin p hp
      refine ⟨(hs.2 p.1 ?_).trans e, n, ne, nf, d⟩
      intro q
      rw [q, hoc] at e
      have q' : oc = p.2 := Option.some.inj e
      exact d w' (by rw [← q']; exact hocd)
theorem store_ok {M : Model} {A : Around} {E : Value → Shared → Prop} {i : Nat} {x : Str} {v : V} {u : Value} {Q : Unit → Shared → Prop} (I : Inv X pins σ H s) (hN : X.N.Nodup) (hi : X.N[i]? = some x) (hx : Loc X.env.scope x) (r : RelV v u)
    (h : ∀ s', Inv X pins (σ.set i (some v)) H s' → Q () s') (hf : X.fn x = true ∨ X.env.scope.names.lookup x = some .local := by first | exact .inl rfl | exact .inr rfl | assumption) : wpAny M A (storeName X.env x u) Q E s :=
  store_ok2 I hN hi hx r (fun s' I' _ => h s' I') hf
end

/-! ### the judgements -/
/-- an exception: its class, its own dict's address (where it has one), the abstract heap behind it -/
abbrev XK := Value → Option Addr → Hp → Prop
abbrev St := List (Option V)
abbrev VK := V → Hp → Prop
/-- an expression's reading; a test's; an argument list's -/
abbrev TE := St → Hp → VK → Prop
abbrev TT := St → Hp → (Bool → Hp → Prop) → Prop
abbrev TA := St → Hp → (List V → Hp → Prop) → Prop
/-- what is wanted behind a statement -/
structure Ends where
  nx : St → Hp → Prop
  rt : VK
  bk : St → Hp → Prop := fun _ _ => False
  ct : St → Hp → Prop := fun _ _ => False
abbrev TS := Ends → St → Hp → Prop

def EP (X : Cx) (pins : List (Addr × Obj)) (σ : St) (Q : VK) (u : Value) (s' : Shared) : Prop := ∃ v H', Inv X pins σ H' s' ∧ RelV v u ∧ Q v H'
def TP (X : Cx) (pins : List (Addr × Obj)) (σ : St) (Q : Bool → Hp → Prop) (b : Bool) (s' : Shared) : Prop := ∃ H', Inv X pins σ H' s' ∧ Q b H'
def AP (X : Cx) (pins : List (Addr × Obj)) (σ : St) (Q : List V → Hp → Prop) (us : List Value) (s' : Shared) : Prop := ∃ vs H', Inv X pins σ H' s' ∧ Vals vs us ∧ Q vs H'
def SP (X : Cx) (pins : List (Addr × Obj)) (D : Ends) (f : Flow) (s' : Shared) : Prop :=
  match f with
  | .next => ∃ σ' H', Inv X pins σ' H' s' ∧ D.nx σ' H'
  | .brk => ∃ σ' H', Inv X pins σ' H' s' ∧ D.bk σ' H'
  | .cont => ∃ σ' H', Inv X pins σ' H' s' ∧ D.ct σ' H'
  | .ret u => ∃ v σ' H', Inv X pins σ' H' s' ∧ RelV v u ∧ D.rt v H'

def PE (X : Cx) (e : Expr) (t : TE) : Prop :=
  ∀ (pins : List (Addr × Obj)) (s : Shared) (σ : St) (H : Hp) (Q : VK), Inv X pins σ H s → t σ H Q → wpAny (model X.prog X.w) X.A (eval e X.env) (EP X pins σ Q) X.xe s
def PT (X : Cx) (e : Expr) (t : TT) : Prop :=
  ∀ (pins : List (Addr × Obj)) (s : Shared) (σ : St) (H : Hp) (Q : Bool → Hp → Prop), Inv X pins σ H s → t σ H Q → wpAny (model X.prog X.w) X.A (isTrue e X.env (eval e X.env)) (TP X pins σ Q) X.xe s
/-- a test whatever its 'whole' is (and, or) -/
def PW (X : Cx) (e : Expr) (t : TT) : Prop :=
  ∀ (whole : Sem Value) (pins : List (Addr × Obj)) (s : Shared) (σ : St) (H : Hp) (Q : Bool → Hp → Prop), Inv X pins σ H s → t σ H Q → wpAny (model X.prog X.w) X.A (isTrue e X.env whole) (TP X pins σ Q) X.xe s
theorem PW.pt {X : Cx} {e : Expr} {t : TT} (h : PW X e t) : PT X e t := h _
/-- an argument list (no star), from the left -/
def PA (X : Cx) (es : List Expr) (t : TA) : Prop :=
  ∀ (pos : Pos) (pins : List (Addr × Obj)) (s : Shared) (σ : St) (H : Hp) (Q : List V → Hp → Prop), Inv X pins σ H s → t σ H Q → wpAny (model X.prog X.w) X.A (spliced (backTo pos (starEach es X.env))) (AP X pins σ Q) X.xe s
def PS (X : Cx) (st : Stmt) (t : TS) : Prop :=
  ∀ (pins : List (Addr × Obj)) (s : Shared) (σ : St) (H : Hp) (D : Ends), Inv X pins σ H s → t D σ H → wpAny (model X.prog X.w) X.A (exec st X.env) (SP X pins D) X.xe s
def PSs (X : Cx) (st : List Stmt) (t : TS) : Prop :=
  ∀ (pins : List (Addr × Obj)) (s : Shared) (σ : St) (H : Hp) (D : Ends), Inv X pins σ H s → t D σ H → wpAny (model X.prog X.w) X.A (execs st X.env) (SP X pins D) X.xe s
/-- weaken the end -/
theorem thn {α : Type} {t : Sem α} {Q Q' : α → Shared → Prop} {M : Model} {A : Around} {E : Value → Shared → Prop} {s : Shared} (h : wpAny M A t Q E s) (hQ : ∀ a s, Q a s → Q' a s) : wpAny M A t Q' E s := wpAny_mono h hQ fun _ _ x => x
end L2

namespace L2
open PySem PySem.Spec PyProof.Rows
section
variable {X : Cx}


/-! ### names and constants -/
def tVar (i : Nat) : TE := fun σ H Q => ∃ v, σ[i]? = some (some v) ∧ Q v H
def tC (v : V) : TE := fun _ H Q => Q v H
theorem pe_var {i : Nat} {x : Str} {pos : Pos} (hN : X.N[i]? = some x) (hv : Vis X.env.scope x) (hd : (x == ("__debug__" : Str)) = false := by decide) (hcd : (x == ("__classdict__" : Str)) = false := by decide) : PE X (.Name x pos) (tVar i) := by
  intro pins s σ H Q I h
  obtain ⟨v, e, h⟩ := h
  obtain ⟨m, hn, hl⟩ := I.loc
  obtain ⟨u, r, l⟩ := hl i x v hN e hv
  have fin : EP X pins σ Q u s := ⟨v, H, I, r, h⟩
  rcases l with ⟨hk, hm⟩ | ⟨hk, c, hc, hcell⟩
  · exact wpAny_Name (wpAny_loadName_local I.ok.kind hk hn hm fin) hd
  · rcases hk with hk | hk
    · exact wpAny_Name (wpAny_loadName_cell I.ok.kind hk hc hcell fin) hd
    · exact wpAny_Name (wpAny_loadName_free I.ok.kind hk hc hcell fin hcd) hd
theorem pe_int {i j pos} : PE X (.Constant (.int i) j pos) (tC (.int i)) := fun _ _ _ H _ I h => wpAny_Constant_int ⟨.int i, H, I.tok _, ⟨_, rfl⟩, h⟩
theorem pe_bl {b j pos} : PE X (.Constant (.bool b) j pos) (tC (.bl b)) := fun _ _ _ H _ I h => Constant_bool ⟨.bl b, H, I, rfl, h⟩
theorem pe_non {j pos} : PE X (.Constant .none j pos) (tC .non) := fun _ _ _ H _ I h => Constant_none ⟨.non, H, I, rfl, h⟩

/-- a global name of the def -/
def Gl (X : Cx) (x : Str) : Prop := X.env.kindOf x = some .globalImplicit
theorem ld_glob {E : Value → Shared → Prop} {pins : List (Addr × Obj)} {s : Shared} {σ : St} {H : Hp} {x : Str} {u : Value} {pos : Pos} {Q : Value → Shared → Prop} (I : Inv X pins σ H s) (hg : Gl X x) (hm : X.mg x = some u) (h : Q u s)
    (hd : (x == ("__debug__" : Str)) = false := by decide) : wpAny (model X.prog X.w) X.A (eval (.Name x pos) X.env) Q E s :=
  Calls.Name_function_global I.ok.kind hg (Calls.loadGlobal_global (by rw [I.ok.glob]; exact I.mod.glob.keeps I.bk) hm h) hd
theorem ld_blt {E : Value → Shared → Prop} {pins : List (Addr × Obj)} {s : Shared} {σ : St} {H : Hp} {x : Str} {u : Value} {pos : Pos} {Q : Value → Shared → Prop} (I : Inv X pins σ H s) (hg : Gl X x) (hm : X.mg x = none) (hv : bootBuiltins x = some u) (h : Q u s)
    (hn : x ≠ "__name__" := by decide) (hd : (x == ("__debug__" : Str)) = false := by decide) : wpAny (model X.prog X.w) X.A (eval (.Name x pos) X.env) Q E s := by
  obtain ⟨mb, h1, h2⟩ := I.mod.blt
  exact Calls.Name_function_global I.ok.kind hg (Calls.loadGlobal_builtin (by rw [I.ok.glob]; exact I.mod.glob.keeps I.bk) hm (by rw [I.ok.blt]; exact h1.keeps I.bk) ((h2 x hn).trans hv) h) hd
/-- a module's constant, a class, a function, as a value -/
theorem pe_glob {x : Str} {v : V} {u : Value} {pos : Pos} (hg : Gl X x) (hm : X.mg x = some u) (r : RelV v u) (hd : (x == ("__debug__" : Str)) = false := by decide) : PE X (.Name x pos) (tC v) :=
  fun _ _ _ H _ I h => ld_glob I hg hm ⟨v, H, I, r, h⟩ hd

/-! ### arithmetic -/
variable {a b : Expr} {ta tb : TE} {pos : Pos}

/-! ### comparisons -/
def PC (X : Cx) (op : CmpOp) (a b : Expr) (t : TE) : Prop :=
  ∀ (pins : List (Addr × Obj)) (s : Shared) (σ : St) (H : Hp) (Q : VK), Inv X pins σ H s → t σ H Q →
    wpAny (model X.prog X.w) X.A (eval a X.env) (fun v s₁ => wpAny (model X.prog X.w) X.A (eval b X.env) (fun u s₂ => wpAny (model X.prog X.w) X.A (compareOp op v u) (EP X pins σ Q) X.xe s₂) X.xe s₁) X.xe s
/-- a comparison as a value, as a test -/
def tB (t : TE) : TT := fun σ H Q => t σ H fun x H1 => ∃ c, x = .bl c ∧ Q c H1
theorem pt_cmp {op : CmpOp} {t : TE} (h : PC X op a b t) (h1 : behindInMarks op b = false := by first | exact nobehind _ (by decide) (by decide) | rfl) : PT X (.Compare a [op] [b] pos) (tB t) := by
  intro pins s σ H Q I hw
  refine wpAny_isTrue_Compare1 (thn (h pins s σ H _ I hw) fun v s1 h1 => thn h1 fun u s2 h2 => thn h2 fun c s3 ⟨x, H1, I1, r1, q1⟩ => ?_) h1
  obtain ⟨d, rfl, q⟩ := q1
  cases r1
  exact wpAny_truthy_bool ⟨H1, I1, q⟩
/-- an expression whose value is a bool, as a test -/
theorem pt_val {e : Expr} {t : TE} (h : PE X e t) (he : ∀ whole, isTrue e X.env whole = (do let v ← whole; standAt e.pos; holding [v] (truthy v)) := by intro _; rfl) : PT X e (tB t) := by
  intro pins s σ H Q I hw
  refine isTrue_plain (thn (h pins s σ H _ I hw) fun v s1 ⟨x, H1, I1, r1, q1⟩ => ?_) (he _)
  obtain ⟨d, rfl, q⟩ := q1
  cases r1
  exact wpAny_truthy_bool ⟨H1, I1, q⟩

/-! ### and, or, not -/
variable {tA tB' : TT} {rest : List Expr}
def tAnd (t u : TT) : TT := fun σ H Q => t σ H fun c H1 => if c = true then u σ H1 Q else Q false H1
def tOr (t u : TT) : TT := fun σ H Q => t σ H fun c H1 => if c = true then Q true H1 else u σ H1 Q
def tNot (t : TT) : TT := fun σ H Q => t σ H fun c H1 => Q (!c) H1
theorem pw_and1 (ha : PT X a tA) : PW X (.BoolOp .And [a] pos) tA := by
  intro wh pins s σ H Q I h
  refine isTrue_and (thn (ha pins s σ H Q I h) fun c s1 e => ?_)
  cases c with
  | true => exact isTrue_and_nil e
  | false => exact e
theorem pw_or1 (ha : PT X a tA) : PW X (.BoolOp .Or [a] pos) tA := by
  intro wh pins s σ H Q I h
  refine isTrue_or (thn (ha pins s σ H Q I h) fun c s1 e => ?_)
  cases c with
  | false => exact isTrue_or_nil e
  | true => exact e
theorem pw_and (ha : PT X a tA) (hb : PW X (.BoolOp .And (b :: rest) pos) tB') : PW X (.BoolOp .And (a :: b :: rest) pos) (tAnd tA tB') := by
  intro wh pins s σ H Q I h
  refine isTrue_and (thn (ha pins s σ H _ I h) fun c s1 ⟨H1, I1, q1⟩ => ?_)
  cases c with
  | true => exact hb wh pins s1 σ H1 Q I1 q1
  | false => exact ⟨H1, I1, q1⟩
theorem pw_or (ha : PT X a tA) (hb : PW X (.BoolOp .Or (b :: rest) pos) tB') : PW X (.BoolOp .Or (a :: b :: rest) pos) (tOr tA tB') := by
  intro wh pins s σ H Q I h
  refine isTrue_or (thn (ha pins s σ H _ I h) fun c s1 ⟨H1, I1, q1⟩ => ?_)
  cases c with
  | true => exact ⟨H1, I1, q1⟩
  | false => exact hb wh pins s1 σ H1 Q I1 q1
theorem pt_not (ha : PT X a tA) : PT X (.UnaryOp .Not a pos) (tNot tA) := by
  intro pins s σ H Q I h
  exact isTrue_not (ha pins s σ H (fun c H1 => Q (!c) H1) I h)
/-- .. as values (bools) -/
def tAndV (ta tb : TE) : TE := fun σ H Q => ta σ H fun x H1 => ∃ c, x = .bl c ∧ if c = true then tb σ H1 Q else Q (.bl false) H1
theorem pe_one {op} {t : TE} (h : PE X a t) : PE X (.BoolOp op [a] pos) t := fun pins s σ H Q I hw => BoolOp_one (h pins s σ H Q I hw)
theorem pe_and (ha : PE X a ta) (hb : PE X (.BoolOp .And (b :: rest) pos) tb) : PE X (.BoolOp .And (a :: b :: rest) pos) (tAndV ta tb) := by
  intro pins s σ H Q I h
  refine BoolOp_and (thn (ha pins s σ H _ I h) fun v s1 ⟨x, H1, I1, r1, q1⟩ => ?_)
  obtain ⟨c, rfl, q1⟩ := q1
  cases r1
  refine wpAny_truthy_bool ?_
  cases c with
  | true => exact hb pins s1 σ H1 Q I1 q1
  | false => exact ⟨.bl false, H1, I1, rfl, q1⟩
/-- a if t else b -/
def tIf (t : TT) (ta tb : TE) : TE := fun σ H Q => t σ H fun c H1 => if c = true then ta σ H1 Q else tb σ H1 Q
theorem pe_ifExp {c : Expr} (hc : PT X c tA) (ha : PE X a ta) (hb : PE X b tb) : PE X (.IfExp c a b pos) (tIf tA ta tb) := by
  intro pins s σ H Q I h
  refine wpAny_IfExp (thn (hc pins s σ H _ I h) fun d s1 ⟨H1, I1, q1⟩ => ?_)
  cases d with
  | true => exact ha pins s1 σ H1 Q I1 q1
  | false => exact hb pins s1 σ H1 Q I1 q1
end
end L2

namespace L2
open PySem PySem.Spec PyProof.Rows

/-! ### a list, a tuple that is read: tracked, frozen, or an object of the module -/
def SqL (K : PySem.W.Frag) (H : Hp) (a : Addr) (xs : List V) : Prop :=
  Rd H a (.lst xs) ∨
    ∃ (o : Obj) (its : Array Value) (n : Nat), K.lookup a = some o ∧ o.cls = .type "list" ∧ o.dict = none ∧ o.data = .seq its n ∧ its.size ≤ sizeLine ∧ Vals xs its.toList
def SqT (K : PySem.W.Frag) (H : Hp) (a : Addr) (xs : List V) : Prop :=
  Rd H a (.tup xs) ∨
    ∃ (o : Obj) (its : Array Value) (n : Nat), K.lookup a = some o ∧ o.cls = .type "tuple" ∧ o.data = .seq its n ∧ its.size ≤ sizeLine ∧ Vals xs its.toList
def absV : Value → Option V
  | .none => some .non
  | .bool b => some (.bl b)
  | .int i _ => some (.int i)
  | .str x _ => some (.str x)
  | .bytes b _ => some (.byt b)
  | .float b _ => some (.flt b)
  | .ref a => some (.ref a)
  | .type n => some (.ty n)
  | _ => none
theorem RelV.abs {x : V} {u : Value} (r : RelV x u) : absV u = some x := by
  cases x with
  | non => cases r; rfl
  | bl _ => cases r; rfl
  | int _ => obtain ⟨t, rfl⟩ := r; rfl
  | str _ => obtain ⟨t, rfl⟩ := r; rfl
  | byt _ => obtain ⟨t, rfl⟩ := r; rfl
  | flt _ => obtain ⟨t, rfl⟩ := r; rfl
  | ref _ => cases r; rfl
  | ty _ => cases r; rfl
theorem RelV.inj {x y : V} {u : Value} (r : RelV x u) (q : RelV y u) : x = y := Option.some.inj (r.abs.symm.trans q.abs)
theorem Vals.inj : ∀ {xs ys : List V} {us : List Value}, Vals xs us → Vals ys us → xs = ys
  | _, _, _, .nil, .nil => rfl
  | _, _, _, .cons r t, .cons r' t' => by rw [r.inj r', Vals.inj t t']
section
variable {X : Cx} {pins : List (Addr × Obj)} {σ : St} {H : Hp} {s : Shared} {a : Addr} {xs ys : List V}
theorem SqL.of {K : PySem.W.Frag} (h : H a = some (.lst xs)) : SqL K H a xs := .inl (.inl h)
theorem SqT.of {K : PySem.W.Frag} (h : H a = some (.tup xs)) : SqT K H a xs := .inl (.inl h)
theorem Inv.list (I : Inv X pins σ H s) (h : SqL X.K H a xs) : ∃ its : List Value, Vals xs its ∧ PlainL s.heap a its.toArray ∧ xs.length ≤ sizeLine := by
  rcases h with h | ⟨o, its, n, hk, hc, hd, hs, hz, r⟩
  · obtain ⟨z, its, n, r, e⟩ := h.ok I.hok
    exact ⟨its, r, ⟨_, n, e, rfl, rfl, rfl⟩, z⟩
  · refine ⟨its.toList, r, ⟨o, n, I.kIn a o hk, hc, hd, by simpa using hs⟩, ?_⟩
    have e := r.length
    simp only [Array.length_toList] at e
    omega
theorem Inv.tuple (I : Inv X pins σ H s) (h : SqT X.K H a xs) : ∃ its : List Value, Vals xs its ∧ IsTup s.heap a its.toArray ∧ xs.length ≤ sizeLine := by
  rcases h with h | ⟨o, its, n, hk, hc, hs, hz, r⟩
  · obtain ⟨z, its, r, p⟩ := h.ok I.hok
    exact ⟨its, r, p.tup, z⟩
  · refine ⟨its.toList, r, ⟨o, I.kIn a o hk, hc, n, by simpa using hs⟩, ?_⟩
    have e := r.length
    simp only [Array.length_toList] at e
    omega
theorem Inv.list_inj (I : Inv X pins σ H s) (h : SqL X.K H a xs) (h' : SqL X.K H a ys) : xs = ys := by
  obtain ⟨its, r, ⟨o, n, e, _, _, d⟩, _⟩ := I.list h
  obtain ⟨its', r', ⟨o', n', e', _, _, d'⟩, _⟩ := I.list h'
  rw [e] at e'; cases e'
  rw [d] at d'
  injection d' with d1 _
  have : its = its' := by simpa using congrArg Array.toList d1
  subst this
  exact r.inj r'
theorem Inv.tuple_inj (I : Inv X pins σ H s) (h : SqT X.K H a xs) (h' : SqT X.K H a ys) : xs = ys := by
  obtain ⟨its, r, ⟨o, e, _, n, d⟩, _⟩ := I.tuple h
  obtain ⟨its', r', ⟨o', e', _, n', d'⟩, _⟩ := I.tuple h'
  rw [e] at e'; cases e'
  rw [d] at d'
  injection d' with d1 _
  have : its = its' := by simpa using congrArg Array.toList d1
  subst this
  exact r.inj r'
end

/-! ### another wish about exceptions -/
abbrev Cx.wish (X : Cx) (E : Value → Shared → Prop) : Cx := { X with xe := E }
/-- no exception leaves -/
abbrev Cx.nox (X : Cx) : Cx := X.wish fun _ _ => False
theorem Cx.Ok.wish {X : Cx} (ok : X.Ok) (E : Value → Shared → Prop) : (X.wish E).Ok :=
  ⟨ok.mod, ok.kind, ok.glob, ok.blt, ok.above, ok.inj, ok.has, ok.cab, ok.hd, ok.frames, ok.stk, ok.exf, ok.bs, ok.bsz, ok.noex, ok.exfs, ok.funs, ok.frf⟩
theorem Cx.Ok.unwish {X : Cx} {E : Value → Shared → Prop} (ok : (X.wish E).Ok) : X.Ok :=
  ⟨ok.mod, ok.kind, ok.glob, ok.blt, ok.above, ok.inj, ok.has, ok.cab, ok.hd, ok.frames, ok.stk, ok.exf, ok.bs, ok.bsz, ok.noex, ok.exfs, ok.funs, ok.frf⟩
section
variable {X : Cx} {pins : List (Addr × Obj)} {σ : St} {H : Hp} {s : Shared} {E : Value → Shared → Prop}
theorem Inv.wish (I : Inv X pins σ H s) (E : Value → Shared → Prop) : Inv (X.wish E) pins σ H s := ⟨I.ok.wish E, I.os, I.bare, I.base, I.loc, I.cell, I.free, I.freeC, I.pin, I.hok, I.len⟩
theorem Inv.unwish (I : Inv (X.wish E) pins σ H s) : Inv X pins σ H s := ⟨I.ok.unwish, I.os, I.bare, I.base, I.loc, I.cell, I.free, I.freeC, I.pin, I.hok, I.len⟩
theorem SP.unwish {D : Ends} {f : Flow} {s' : Shared} (h : SP (X.wish E) pins D f s') : SP X pins D f s' := by
  cases f with
  | next => obtain ⟨σ', H', I, q⟩ := h; exact ⟨σ', H', I.unwish, q⟩
  | brk => obtain ⟨σ', H', I, q⟩ := h; exact ⟨σ', H', I.unwish, q⟩
  | cont => obtain ⟨σ', H', I, q⟩ := h; exact ⟨σ', H', I.unwish, q⟩
  | ret u => obtain ⟨v, σ', H', I, r, q⟩ := h; exact ⟨v, σ', H', I.unwish, r, q⟩
theorem PSs.nox {st : List Stmt} {t : TS} (h : PSs X.nox st t) : PSs X st t := fun pins s σ H D I hw =>
  wpAny_mono (h pins s σ H D (I.wish _) hw) (fun _ _ q => q.unwish) fun _ _ z => False.elim z
end

/-! ### blocks and small statements -/
section
variable {X : Cx} {st : Stmt} {rest : List Stmt} {t u : TS} {e : Expr} {te : TE} {pos : Pos}
def tNext : TS := fun D σ H => D.nx σ H
def tSeq (t u : TS) : TS := fun D σ H => t { D with nx := u D } σ H
theorem pss_nil : PSs X [] tNext := fun _ _ σ H _ I h => wpAny_execs_nil ⟨σ, H, I, h⟩
theorem pss_cons (h1 : PS X st t) (h2 : PSs X rest u) : PSs X (st :: rest) (tSeq t u) := by
  intro pins s σ H D I h
  refine wpAny_execs_cons (thn (h1 pins s σ H { D with nx := u D } I h) fun f s1 q => ?_)
  cases f with
  | next =>
    obtain ⟨σ', H', I', q⟩ := q
    exact h2 pins s1 σ' H' D I' q
  | ret v => exact q
  | brk => exact q
  | cont => exact q
theorem pss_one (h1 : PS X st t) : PSs X [st] t := by
  intro pins s σ H D I h
  refine wpAny_execs_cons (thn (h1 pins s σ H D I h) fun f s1 q => ?_)
  cases f with
  | next => exact wpAny_execs_nil q
  | ret v => exact q
  | brk => exact q
  | cont => exact q
def tCont : TS := fun D σ H => D.ct σ H
theorem ps_continue : PS X (.Continue pos) tCont := fun _ _ σ H _ I h => wpAny_Continue ⟨σ, H, I, h⟩
/-- in a def's body nothing is shown -/
theorem Inv.quiet {pins : List (Addr × Obj)} {σ : St} {H : Hp} {s : Shared} (I : Inv X pins σ H s) : interactive X.env = false := by simp [interactive, I.ok.kind]
/-- an expression whose value is dropped -/
def tDrop (te : TE) : TS := fun D σ H => te σ H fun _ H1 => D.nx σ H1
theorem ps_expr (he : PE X e te) (hs : swapsWith e none pos.line X.env = pure false := by rfl) : PS X (.Expr e pos) (tDrop te) := by
  intro pins s σ H D I h
  exact wpAny_Expr_any (thn (he pins s σ H _ I h) fun v s1 ⟨x, H1, I1, r1, q1⟩ => ⟨σ, H1, I1, q1⟩) I.quiet hs
def tRet (te : TE) : TS := fun D σ H => te σ H D.rt
theorem ps_ret (he : PE X e te) : PS X (.Return (some e) pos) (tRet te) := by
  intro pins s σ H D I h
  exact wpAny_Return_some (thn (he pins s σ H _ I h) fun v s1 ⟨x, H1, I1, r1, q1⟩ => ⟨x, σ, H1, I1, r1, q1⟩)
def tIfS (c : TT) (t u : TS) : TS := fun D σ H => c σ H fun b H1 => if b = true then t D σ H1 else u D σ H1
theorem ps_if {c : Expr} {a b : List Stmt} {tc : TT} (hc : PT X c tc) (ha : PSs X a t) (hb : PSs X b u) : PS X (.If c a b pos) (tIfS tc t u) := by
  intro pins s σ H D I h
  refine wpAny_If (thn (hc pins s σ H _ I h) fun d s1 ⟨H1, I1, q1⟩ => ?_)
  cases d with
  | true => exact ha pins s1 σ H1 D I1 q1
  | false => exact hb pins s1 σ H1 D I1 q1
end

/-! ### targets -/
abbrev TG := V → St → Hp → (St → Hp → Prop) → Prop
abbrev TGs := List V → St → Hp → (St → Hp → Prop) → Prop
def PG (X : Cx) (target : Expr) (t : TG) : Prop :=
  ∀ (pins : List (Addr × Obj)) (s : Shared) (σ : St) (H : Hp) (v : V) (u : Value) (Q : St → Hp → Prop), Inv X pins σ H s → RelV v u → t v σ H Q →
    wpAny (model X.prog X.w) X.A (assign target X.env u) (fun _ s' => ∃ σ' H', Inv X pins σ' H' s' ∧ Q σ' H') X.xe s
/-- several targets, one after another -/
def PGs (X : Cx) (ts : List Expr) (t : TGs) : Prop :=
  ∀ (pins : List (Addr × Obj)) (s : Shared) (σ : St) (H : Hp) (vs : List V) (us : List Value) (Q : St → Hp → Prop), Inv X pins σ H s → Vals vs us → t vs σ H Q →
    wpAny (model X.prog X.w) X.A (assignInOrder ((assignEach ts X.env).map (·.2)) us) (fun _ s' => ∃ σ' H', Inv X pins σ' H' s' ∧ Q σ' H') X.xe s
/-- o[i] = v, by values -/
abbrev TSet := V → V → V → Hp → (Hp → Prop) → Prop
def PSet (X : Cx) (t : TSet) : Prop :=
  ∀ (pins : List (Addr × Obj)) (s : Shared) (σ : St) (H : Hp) (o i v : V) (ov iv u : Value) (Q : Hp → Prop), Inv X pins σ H s → RelV o ov → RelV i iv → RelV v u → t o i v H Q →
    wpAny (model X.prog X.w) X.A (setItem ov iv u) (fun _ s' => ∃ H', Inv X pins σ H' s' ∧ Q H') X.xe s
/-- a op= b, by values -/
abbrev TIp := V → V → Hp → VK → Prop
def PIp (X : Cx) (op : Operator) (t : TIp) : Prop :=
  ∀ (pins : List (Addr × Obj)) (s : Shared) (σ : St) (H : Hp) (x y : V) (v u : Value) (Q : VK), Inv X pins σ H s → RelV x v → RelV y u → t x y H Q →
    wpAny (model X.prog X.w) X.A (inplaceOp op v u) (EP X pins σ Q) X.xe s
section
variable {X : Cx} {pos : Pos}
def gName (i : Nat) : TG := fun v σ H Q => Q (σ.set i (some v)) H
theorem pg_name {i : Nat} {x : Str} (hN : X.N.Nodup) (hi : X.N[i]? = some x) (hx : Loc X.env.scope x) (hf : X.fn x = true ∨ X.env.scope.names.lookup x = some .local := by first | exact .inl rfl | exact .inr rfl | assumption) : PG X (.Name x pos) (gName i) := by
  intro pins s σ H v u Q I r h
  exact wpAny_assign_Name (store_ok I hN hi hx r (fun s' I' => ⟨_, H, I', h⟩) hf)
def gNil : TGs := fun vs σ H Q => vs = [] ∧ Q σ H
def gCons (t : TG) (u : TGs) : TGs := fun vs σ H Q => ∃ v r, vs = v :: r ∧ t v σ H fun σ' H' => u r σ' H' Q
theorem pgs_nil : PGs X [] gNil := by
  intro pins s σ H vs us Q I r h
  obtain ⟨e, h⟩ := h
  subst e
  cases r
  exact assignInOrder_nil ⟨σ, H, I, h⟩
theorem pgs_cons {e : Expr} {es : List Expr} {t : TG} {u : TGs} (h1 : PG X e t) (h2 : PGs X es u)
    (hs : (assignEach (e :: es) X.env).map (·.2) = assign e X.env :: (assignEach es X.env).map (·.2) := by rfl) : PGs X (e :: es) (gCons t u) := by
  intro pins s σ H vs us Q I r h
  obtain ⟨v, vr, e1, h⟩ := h
  subst e1
  cases r with
  | cons r rr =>
    rw [hs]
    refine assignInOrder_cons (thn (h1 pins s σ H _ _ _ I r h) fun _ s1 ⟨σ1, H1, I1, q1⟩ => ?_)
    exact h2 pins s1 σ1 H1 _ _ Q I1 rr q1
/-- (a, b, ..) = a tuple of that length -/
def gTup (K : PySem.W.Frag) (n : Nat) (t : TGs) : TG := fun v σ H Q => ∃ a xs, v = .ref a ∧ SqT K H a xs ∧ xs.length = n ∧ t xs σ H Q
theorem pg_tup {es : List Expr} {k : Nat} {t : TGs} {n : Nat} (hc : X.calm = true) (h : PGs X es t)
    (hn : (assignEach es X.env).length = n := by rfl) (hst : (assignEach es X.env).findIdx? (·.1) = none := by rfl) : PG X (.Tuple es k pos) (gTup X.K n t) := by
  intro pins s σ H v u Q I r hw
  obtain ⟨a, xs, e1, hq, hl, hw⟩ := hw
  subst e1
  cases r
  obtain ⟨its, rv, ht, hz⟩ := I.tuple hq
  refine assign_Tuple_tuple (I.ok.hd hc) ht (by simp [hn, ← hl, rv.length]) hst fun h' hx => ?_
  have I1 : Inv X pins σ H { s with heap := h' } := I.kept (t' := s.toks) fun b o e => hx b o (Nat.ne_of_lt (Heap.lt_size e)) e
  exact h pins _ σ H xs _ Q I1 (by simpa using rv) hw
/-- target = value -/
def tAsg (te : TE) (g : TG) : TS := fun D σ H => te σ H fun x H1 => g x σ H1 D.nx
/-- name = value -/
theorem ps_set {i : Nat} {x : Str} {e : Expr} {te : TE} {pos' : Pos} (hN : X.N.Nodup) (hi : X.N[i]? = some x) (hx : Loc X.env.scope x) (he : PE X e te) (hs : swapsWith e (some (.Name x pos')) pos.line X.env = pure false := by rfl) (hf : X.fn x = true ∨ X.env.scope.names.lookup x = some .local := by first | exact .inl rfl | exact .inr rfl | assumption) :
    PS X (.Assign [.Name x pos'] e pos) (tAsg te (gName i)) := by
  intro pins s σ H D I h
  refine wpAny_Assign_Name (thn (he pins s σ H _ I h) fun v s1 ⟨y, H1, I1, r1, q1⟩ => ?_) hs
  exact store_ok I1 hN hi hx r1 (fun s2 I2 => ⟨_, H1, I2, q1⟩) hf
/-- name op= e -/
def tAug (i : Nat) (te : TE) (ti : TIp) : TS := fun D σ H => ∃ x, σ[i]? = some (some x) ∧ te σ H fun y H1 => ti x y H1 fun z H2 => D.nx (σ.set i (some z)) H2
theorem ps_aug {i : Nat} {x : Str} {e : Expr} {te : TE} {op : Operator} {ti : TIp} {pos' : Pos} (hN : X.N.Nodup) (hi : X.N[i]? = some x) (hx : Loc X.env.scope x) (he : PE X e te) (ho : PIp X op ti) (hf : X.fn x = true ∨ X.env.scope.names.lookup x = some .local := by first | exact .inl rfl | exact .inr rfl | assumption) :
    PS X (.AugAssign (.Name x pos') op e pos) (tAug i te ti) := by
  intro pins s σ H D I h
  obtain ⟨v, e1, h⟩ := h
  obtain ⟨m, hn, hl⟩ := I.loc
  have vis : Vis X.env.scope x := by rcases hx with k | k; exact .inl k; exact .inr (.inl k)
  obtain ⟨u, r, l⟩ := hl i x v hi e1 vis
  refine wpAny_AugAssign_Name ?_
  have go : wpAny (model X.prog X.w) X.A (eval e X.env) (fun w s₂ => wpAny (model X.prog X.w) X.A (inplaceOp op u w) (fun r s₃ => wpAny (model X.prog X.w) X.A (storeName X.env x r) (fun _ => SP X pins D .next) X.xe s₃) X.xe s₂) X.xe s := by
    refine thn (he pins s σ H _ I h) fun w s1 ⟨y, H1, I1, r1, q1⟩ => ?_
    refine thn (ho pins s1 σ H1 v y u w _ I1 r r1 q1) fun z s2 ⟨zv, H2, I2, r2, q2⟩ => ?_
    exact store_ok I2 hN hi hx r2 (fun s3 I3 => ⟨_, H2, I3, q2⟩) hf
  rcases l with ⟨hk, hm⟩ | ⟨hk, c, hc, hcell⟩
  · exact wpAny_loadName_local I.ok.kind hk hn hm go
  · rcases hk with hk | hk
    · exact wpAny_loadName_cell I.ok.kind hk hc hcell go
    · rcases hx with k | k
      · have : X.env.scope.names.lookup x = some .free := hk
        rw [k] at this; cases this
      · have : X.env.scope.names.lookup x = some .free := hk
        rw [k] at this; cases this
/-- o[i] op= e -/
def tAugS (to ti te : TE) (tget : V → V → Hp → VK → Prop) (tip : TIp) (tset : TSet) : TS := fun D σ H => to σ H fun o H1 => ti σ H1 fun i H2 => tget o i H2 fun x H3 => te σ H3 fun y H4 => tip x y H4 fun z H5 => tset o i z H5 fun H6 => D.nx σ H6
/-- o[i], by values -/
def PGet (X : Cx) (t : V → V → Hp → VK → Prop) : Prop :=
  ∀ (pins : List (Addr × Obj)) (s : Shared) (σ : St) (H : Hp) (o i : V) (ov iv : Value) (Q : VK), Inv X pins σ H s → RelV o ov → RelV i iv → t o i H Q →
    wpAny (model X.prog X.w) X.A (getItem ov iv) (EP X pins σ Q) X.xe s
theorem ps_augS {o i e : Expr} {to ti te : TE} {tget : V → V → Hp → VK → Prop} {tip : TIp} {tset : TSet} {op : Operator} {tpos : Pos} (ho : PE X o to) (hi : PE X i ti) (hg : PGet X tget) (he : PE X e te) (hp : PIp X op tip) (hs : PSet X tset)
    (ha : ∀ ov iv new, augStore i ov iv new = (do holding [new, ov, iv] (setItem ov iv new); release [new, ov, iv] []; pure .next) := by intros; rfl) : PS X (.AugAssign (.Subscript o i tpos) op e pos) (tAugS to ti te tget tip tset) := by
  intro pins s σ H D I h
  refine wpAny_AugAssign_SubscriptAny (thn (ho pins s σ H _ I h) fun ov s1 ⟨x1, H1, I1, r1, q1⟩ => ?_) ha
  refine thn (hi pins s1 σ H1 _ I1 q1) fun iv s2 ⟨x2, H2, I2, r2, q2⟩ => ?_
  refine thn (hg pins s2 σ H2 x1 x2 ov iv _ I2 r1 r2 q2) fun old s3 ⟨x3, H3, I3, r3, q3⟩ => ?_
  refine thn (he pins s3 σ H3 _ I3 q3) fun v s4 ⟨x4, H4, I4, r4, q4⟩ => ?_
  refine thn (hp pins s4 σ H4 x3 x4 old v _ I4 r3 r4 q4) fun new s5 ⟨x5, H5, I5, r5, q5⟩ => ?_
  exact thn (hs pins s5 σ H5 x1 x2 x5 ov iv new _ I5 r1 r2 r5 q5) fun _ s6 ⟨H6, I6, q6⟩ => ⟨σ, H6, I6, q6⟩
/-- ints -/
def ipI (f : Int → Int → Int) : TIp := fun x y H Q => ∃ i j, x = .int i ∧ y = .int j ∧ Q (.int (f i j)) H
theorem ip_add : PIp X .Add (ipI fun i j => i + j) := by
  intro pins s σ H x y v u Q I r1 r2 h
  obtain ⟨i, j, e1, e2, q⟩ := h
  subst e1; subst e2
  obtain ⟨t, rfl⟩ := r1
  obtain ⟨t', rfl⟩ := r2
  exact iadd_int ⟨.int _, H, I.tok _, ⟨_, rfl⟩, q⟩
theorem ip_sub : PIp X .Sub (ipI fun i j => i - j) := by
  intro pins s σ H x y v u Q I r1 r2 h
  obtain ⟨i, j, e1, e2, q⟩ := h
  subst e1; subst e2
  obtain ⟨t, rfl⟩ := r1
  obtain ⟨t', rfl⟩ := r2
  exact isub_int ⟨.int _, H, I.tok _, ⟨_, rfl⟩, q⟩
end

/-! ### while -/
section
variable {X : Cx} {pos : Pos}
/-- the invariant W with its measure -/
def tWhile (c : TT) (tb : TS) : TS := fun D σ H => ∃ W : Nat → St → Hp → Prop, (∃ m, W m σ H) ∧ ∀ m σ H, W m σ H →
  c σ H fun b H1 => if b = true then ∃ N : St → Hp → Prop, (∀ σ' H', N σ' H' → ∃ m', m' < m ∧ W m' σ' H') ∧ tb { D with nx := N, ct := N, bk := D.nx } σ H1 else D.nx σ H1
theorem ps_while {c : Expr} {body : List Stmt} {tc : TT} {tb : TS} (hp : PassesOwn (model X.prog X.w) X.A X.env X.xe) (hc : PT X c tc) (hb : PSs X body tb) : PS X (.While c body [] pos) (tWhile tc tb) := by
  intro pins s σ H D I h
  obtain ⟨W, ⟨m0, w0⟩, turn⟩ := h
  refine wpAny_While (codeAny_whileLoop (fun n s' => ∃ σ' H', Inv X pins σ' H' s' ∧ W n σ' H') ?_ m0 ⟨σ, H, I, w0⟩)
  rintro n s1 ⟨σ1, H1, I1, w1⟩
  refine wpAny_passesOwn hp (thn (hc pins s1 σ1 H1 _ I1 (turn n σ1 H1 w1)) fun b s2 ⟨H2, I2, q2⟩ => ?_)
  cases b with
  | true =>
    obtain ⟨N, hN, q2⟩ := q2
    rw [if_pos rfl]
    refine wpAny_passesOwn hp (thn (hb pins s2 σ1 H2 _ I2 q2) fun f s3 q3 => ?_)
    cases f with
    | next =>
      obtain ⟨σ3, H3, I3, n3⟩ := q3
      obtain ⟨m', hm, w3⟩ := hN σ3 H3 n3
      exact ⟨m', hm, σ3, H3, I3, w3⟩
    | cont =>
      obtain ⟨σ3, H3, I3, n3⟩ := q3
      obtain ⟨m', hm, w3⟩ := hN σ3 H3 n3
      exact ⟨m', hm, σ3, H3, I3, w3⟩
    | brk => exact q3
    | ret v => exact q3
  | false =>
    rw [if_neg Bool.false_ne_true]
    exact wpAny_execs_nil ⟨σ1, H2, I2, q2⟩
end

/-! ### what a loop or a comprehension walks -/
/-- at turn i: it yields x (the heap may grow), or it stops -/
structure It where
  go : Nat → Hp → Prop
  yld : Nat → Hp → V → Hp → Prop
  stop : Nat → Hp → Prop
/-- the iterator's own objects may turn: they are not the frame's, not pinned, younger than the entry (or a comprehension's own) -/
def FpOk (X : Cx) (pins : List (Addr × Obj)) (H : Hp) (b : Addr) : Prop :=
  H b = none ∧ b ≠ X.env.locals ∧ b ∉ X.fs ∧ (b ∈ X.ex ∨ X.s_0.heap.objs.size ≤ b) ∧ (∀ x c, X.env.cells.lookup x = some c → c ≠ b) ∧ ∀ p ∈ X.pn ++ pins, p.1 ≠ b
theorem Inv.fpOk {X : Cx} {pins : List (Addr × Obj)} {σ : St} {H H' : Hp} {s : Shared} {b : Addr} (I : Inv X pins σ H s) (hb : s.heap.objs.size ≤ b) (hn : H' b = none) : FpOk X pins H' b := by
  refine ⟨hn, Nat.ne_of_gt (Nat.lt_of_lt_of_le I.lt hb), I.nofs hb, .inr (Nat.le_trans I.sz hb), fun x c e z => ?_, fun p hp z => ?_⟩
  · obtain ⟨v, q⟩ := I.cell x c e
    exact absurd (Nat.lt_of_lt_of_le q.lt (by rw [z]; exact hb)) (Nat.lt_irrefl _)
  · exact absurd (Nat.lt_of_lt_of_le (Heap.lt_size (I.pin p hp).1) (by rw [z]; exact hb)) (Nat.lt_irrefl _)
structure Turn (P : Program) (w : World) (K : PySem.W.Frag) (tg : Expr) (J : It) (fp : List Addr) (it : Addr) (tn : Nat → Heap → Prop) : Prop where
  mem : it ∈ fp
  obj : ∀ i h, tn i h → ∀ b ∈ fp, ∃ o, h.get? b = some o ∧ ∀ v, o.data ≠ .cell v
  keep : ∀ i h h', tn i h → (∀ b ∈ fp, ∀ o, h.get? b = some o → h'.get? b = some o) → tn i h'
  item : ∀ (X : Cx), X.prog = P → X.w = w → X.K = K → X.calm = true → ∀ (i : Nat) (pins : List (Addr × Obj)) (s : Shared) (σ : St) (H : Hp) (E : Value → Shared → Prop), Inv X pins σ H s → (∀ b ∈ fp, FpOk X pins H b) → tn i s.heap → J.go i H →
    wpAny (model P w) X.A (pyNext (.ref it)) (fun r s1 => ∃ u, r = some u ∧
      wpAny (model P w) X.A (letOwnedTupleGo tg (.ref it) u) (fun _ s2 => ∃ x H', Inv X pins σ H' s2 ∧ RelV x u ∧ J.yld i H x H' ∧ tn (i + 1) s2.heap ∧ ∀ b ∈ fp, H' b = none) E s1) E s
  done : ∀ (X : Cx), X.prog = P → X.w = w → X.K = K → X.calm = true → ∀ (i : Nat) (pins : List (Addr × Obj)) (s : Shared) (σ : St) (H : Hp) (E : Value → Shared → Prop), Inv X pins σ H s → (∀ b ∈ fp, FpOk X pins H b) → tn i s.heap → J.stop i H →
    wpAny (model P w) X.A (pyNext (.ref it)) (fun r s1 => r = none ∧ Inv X pins σ H s1) E s
  self : ∀ (A : Around) (i : Nat) (s : Shared) (Q : Value → Shared → Prop) (E : Value → Shared → Prop), tn i s.heap → Q (.ref it) s → wpAny (model P w) A (pyIter (.ref it)) Q E s
abbrev TI := St → Hp → (It → Hp → Prop) → Prop
/-- an iterator has come -/
def PIE (X : Cx) (pins : List (Addr × Obj)) (σ : St) (tg : Expr) (R : It → Hp → Prop) (itv : Value) (s2 : Shared) : Prop :=
  ∃ (it : Addr) (fp : List Addr) (tn : Nat → Heap → Prop) (J : It) (H' : Hp), itv = .ref it ∧ Inv X pins σ H' s2 ∧ Turn X.prog X.w X.K tg J fp it tn ∧ tn 0 s2.heap ∧ (∀ b ∈ fp, FpOk X pins H' b) ∧ R J H'
def PI (X : Cx) (tg iter : Expr) (wi : TI) : Prop :=
  ∀ (pins : List (Addr × Obj)) (s : Shared) (σ : St) (H : Hp) (R : It → Hp → Prop), Inv X pins σ H s → wi σ H R →
    wpAny (model X.prog X.w) X.A (eval iter X.env) (fun v s1 => wpAny (model X.prog X.w) X.A (pyIter v) (PIE X pins σ tg R) X.xe s1) X.xe s

/-- the step ahead of the store is nothing for an iterator that keeps no tuple -/
theorem go_of {M : Model} {A : Around} {E : Value → Shared → Prop} {s : Shared} {tg : Expr} {it : Addr} {u : Value} {o : Obj} {n : String} {vs : Array Value} {Q : Unit → Shared → Prop} (ho : s.heap.get? it = some o) (hc : o.cls = .type n) (hd : o.data = .fields vs)
    (hn : ["enumerate", "zip", "dict_itemiterator", "dict_reverseitemiterator", "odict_iterator", "itertools.zip_longest", "itertools.pairwise"].contains n = false) (hQ : Q () s) : wpAny M A (letOwnedTupleGo tg (.ref it) u) Q E s := by
  unfold letOwnedTupleGo
  cases tg <;> first
    | exact wpAny_pure hQ
    | (cases u <;> first
        | exact wpAny_pure hQ
        | (refine wpAny_bind (wpAny_load ho ?_)
           rw [hc, hd]
           show wpAny M A (if (["enumerate", "zip", "dict_itemiterator", "dict_reverseitemiterator", "odict_iterator", "itertools.zip_longest", "itertools.pairwise"].contains n && vs[0]? == some (rawInt _)) = true then _ else _) Q E s
           rw [if_neg (by intro h; rw [hn, Bool.false_and] at h; cases h)]
           exact wpAny_pure hQ))

def Itt (K : PySem.W.Frag) (a : Addr) : It :=
  ⟨fun i H => ∃ xs x, SqT K H a xs ∧ xs[i]? = some x, fun i H x H' => H' = H ∧ ∀ xs, SqT K H a xs → xs[i]? = some x, fun i H => ∃ xs, SqT K H a xs ∧ xs.length ≤ i⟩
theorem turn_tuple {P : Program} {w : World} {K : PySem.W.Frag} {tg : Expr} (a it : Addr) : Turn P w K tg (Itt K a) [it] it (fun i h => h.IsTupleIter it a i) where
  mem := by simp
  obj := fun i h st b hb => by
    have e : b = it := by simpa using hb
    subst e
    obtain ⟨o, e, c, d⟩ := st
    exact ⟨o, e, fun v z => by rw [d] at z; cases z⟩
  keep := fun i h h' st k => st.at fun o e => k it (by simp) o e
  item := by
    intro X hP hw hK hc i pins s σ H E I hf st hg
    subst hP hw hK
    obtain ⟨xs, x, hq, hx⟩ := hg
    obtain ⟨its, rv, p, hz⟩ := I.tuple hq
    obtain ⟨u, hu, ru⟩ := rv.get hx
    obtain ⟨f0, f1, f2, f3, f4, f5⟩ := hf it (by simp)
    refine wpAny_pyNext_tuple_item st (show s.heap.IsTuple a its.toArray from p) (x := u) (by simpa using hu) fun h' st' sb => ?_
    have I1 : Inv X pins σ H { s with heap := h' } := I.turned (t' := s.toks) (fun b o hb e => (sb.2 b hb).trans e) f0 f1 f3 f4 f5
    obtain ⟨o, e, c, d⟩ := id st'
    exact ⟨u, rfl, go_of (s := { s with heap := h' }) e c d (by decide) ⟨x, H, I1, ru, ⟨rfl, fun ys hy => by rw [I.tuple_inj hy hq]; exact hx⟩, st', fun b hb => (hf b hb).1⟩⟩
  done := by
    intro X hP hw hK hc i pins s σ H E I hf st hg
    subst hP hw hK
    obtain ⟨xs, hq, hx⟩ := hg
    obtain ⟨its, rv, p, hz⟩ := I.tuple hq
    obtain ⟨f0, f1, f2, f3, f4, f5⟩ := hf it (by simp)
    have hl := rv.length
    exact wpAny_pyNext_tuple_end (I.ok.hd hc) st (show s.heap.IsTuple a its.toArray from p) (by simp; omega) fun h' eb => ⟨rfl, I.turned (t' := s.toks) (fun b o hb e => eb b o hb e) f0 f1 f3 f4 f5⟩
  self := fun _ _ _ _ _ st h => wpAny_pyIter_tupleiter st h
end L2

namespace L2
open PySem PySem.Spec PyProof.Rows
section
variable {X : Cx} {tg : Expr}
def iTup (K : PySem.W.Frag) (tl : TE) : TI := fun σ H R => tl σ H fun x H1 => ∃ a, x = .ref a ∧ (∃ xs, SqT K H1 a xs) ∧ R (Itt K a) H1
theorem pi_tup {l : Expr} {tl : TE} (hl : PE X l tl) : PI X tg l (iTup X.K tl) := by
  intro pins s σ H R I h
  refine thn (hl pins s σ H _ I h) fun v s1 ⟨x, H1, I1, r1, q1⟩ => ?_
  obtain ⟨a, e, ⟨xs, hq⟩, q⟩ := q1
  subst e
  cases r1
  obtain ⟨its, rv, p, hz⟩ := I1.tuple hq
  refine wpAny_pyIter_tuple (show s1.heap.IsTuple a its.toArray from p) ?_
  refine ⟨s1.heap.objs.size, [s1.heap.objs.size], _, _, H1, rfl, I1.kept (t' := s1.toks) fun b o e => Heap.get?_push_of_some _ e, turn_tuple a _, ⟨_, Heap.get?_push_size _ rfl, rfl, rfl⟩, fun b hb => ?_, q⟩
  have e : b = s1.heap.objs.size := by simpa using hb
  subst e
  exact I1.fpOk (Nat.le_refl _) (I1.hok.fresh (Nat.le_refl _))

/-! ### for -/
/-- W: the invariant by the turn and a measure; N: what the body is to reach -/
def tFor (wi : TI) (g : TG) (tb : TS) : TS := fun D σ H => wi σ H fun J H1 => ∃ W : Nat → Nat → St → Hp → Prop, (∃ m, W 0 m σ H1) ∧ ∀ i m σ H, W i m σ H →
  (J.stop i H ∧ D.nx σ H) ∨ (J.go i H ∧ ∃ N : St → Hp → Prop, (∀ σ' H', N σ' H' → ∃ m', m' < m ∧ W (i + 1) m' σ' H') ∧ ∀ x H', J.yld i H x H' → g x σ H' fun σ2 H2 => tb { D with nx := N, ct := N, bk := D.nx } σ2 H2)
/-- the records at fp as they stand -/
def pinsAt (fp : List Addr) (h : Heap) : List (Addr × Obj) := fp.filterMap fun b => (h.get? b).map fun o => (b, o)
theorem mem_pinsAt {fp : List Addr} {h : Heap} {b : Addr} {o : Obj} (hb : b ∈ fp) (e : h.get? b = some o) : (b, o) ∈ pinsAt fp h := List.mem_filterMap.mpr ⟨b, hb, by rw [e]; rfl⟩
theorem of_pinsAt {fp : List Addr} {h : Heap} {p : Addr × Obj} (hp : p ∈ pinsAt fp h) : p.1 ∈ fp ∧ h.get? p.1 = some p.2 := by
  obtain ⟨b, hb, e⟩ := List.mem_filterMap.mp hp
  cases q : h.get? b with
  | none => rw [q] at e; cases e
  | some o =>
    rw [q] at e
    have e' : (b, o) = p := Option.some.inj e
    subst e'
    exact ⟨hb, q⟩
theorem Inv.pinned {pins : List (Addr × Obj)} {σ : St} {H : Hp} {s : Shared} {fp : List Addr} (I : Inv X pins σ H s) (hf : ∀ b ∈ fp, FpOk X pins H b) (ho : ∀ b ∈ fp, ∃ o, s.heap.get? b = some o ∧ ∀ v, o.data ≠ .cell v) : Inv X (pins ++ pinsAt fp s.heap) σ H s :=
  I.pins_of fun p hp => (List.mem_append.mp hp).elim (fun z => I.pin p (List.mem_append_right _ z)) fun z => by
    obtain ⟨hb, e⟩ := of_pinsAt z
    obtain ⟨f0, f1, f2, _⟩ := hf p.1 hb
    obtain ⟨o, e', d⟩ := ho p.1 hb
    rw [e] at e'; cases e'
    exact ⟨e, f0, f1, f2, d⟩
theorem Inv.unpinned {pins pl : List (Addr × Obj)} {σ : St} {H : Hp} {s : Shared} (I : Inv X (pins ++ pl) σ H s) : Inv X pins σ H s := I.pins_of fun p hp => I.pin p (List.mem_append_right _ (List.mem_append_left _ hp))
theorem ps_for {iter : Expr} {body : List Stmt} {wi : TI} {g : TG} {tb : TS} {pos : Pos} (hp : PassesOwn (model X.prog X.w) X.A X.env X.xe) (hc : X.calm = true) (hi : PI X tg iter wi) (hg : PG X tg g) (hb : PSs X body tb)
    (hs : ∀ x, foldedSetIterable iter X.env x = pure x := by intro _; rfl) : PS X (.For tg iter body [] pos) (tFor wi g tb) := by
  intro pins s σ H D I h
  refine wpAny_For (thn (hi pins s σ H _ I h) fun v s1 h1 => thn h1 fun itv s2 h2 => ?_) hs
  obtain ⟨it, fp, tn, J, H2, e, I2, T, st2, f2, W, ⟨m0, w0⟩, turn⟩ := h2
  subst e
  -- what stays true of the iterator's objects through the loop
  have stat : ∀ {H' : Hp}, (∀ b ∈ fp, H' b = none) → ∀ b ∈ fp, FpOk X pins H' b := fun hn b hb => ⟨hn b hb, (f2 b hb).2⟩
  refine codeAny_forLoop_any (fun n s' => ∃ i σ' H', Inv X pins σ' H' s' ∧ tn i s'.heap ∧ (∀ b ∈ fp, H' b = none) ∧ W i n σ' H') ?_ m0 ⟨0, σ, H2, I2, st2, fun b hb => (f2 b hb).1, w0⟩
  rintro n s3 ⟨i, σ3, H3, I3, st3, fr3, w3⟩
  rcases turn i n σ3 H3 w3 with ⟨stop, qn⟩ | ⟨go, N, hN, step⟩
  · refine wpAny_passesOwn hp (thn (T.done X rfl rfl rfl hc i pins s3 σ3 H3 X.xe I3 (stat fr3) st3 stop) fun r s4 ⟨hr, I4⟩ => ?_)
    subst hr
    exact wpAny_execs_nil ⟨σ3, H3, I4, qn⟩
  · refine wpAny_passesOwn hp (thn (T.item X rfl rfl rfl hc i pins s3 σ3 H3 X.xe I3 (stat fr3) st3 go) fun r s4 ⟨u, hr, h4⟩ => ?_)
    subst hr
    refine wpAny_passesOwn hp (thn h4 fun _ s5 ⟨x, H5, I5, r5, y5, st5, fr5⟩ => ?_)
    have I5' := I5.pinned (stat fr5) (T.obj _ _ st5)
    refine wpAny_passesOwn hp (thn (hg _ s5 σ3 H5 x u _ I5' r5 (step x H5 y5)) fun _ s6 ⟨σ6, H6, I6, q6⟩ => ?_)
    refine wpAny_passesOwn hp (thn (hb _ s6 σ6 H6 _ I6 q6) fun f s7 q7 => ?_)
    have again : ∀ {σ7 : St} {H7 : Hp}, Inv X (pins ++ pinsAt fp s5.heap) σ7 H7 s7 → N σ7 H7 → ∃ m, m < n ∧ ∃ i σ' H', Inv X pins σ' H' s7 ∧ tn i s7.heap ∧ (∀ b ∈ fp, H' b = none) ∧ W i m σ' H' := fun {σ7 H7} I7 n7 => by
      obtain ⟨m', hm, w7⟩ := hN σ7 H7 n7
      refine ⟨m', hm, i + 1, σ7, H7, I7.unpinned, T.keep _ _ _ st5 fun b hb o e => (I7.pin (b, o) (List.mem_append_right _ (List.mem_append_right _ (mem_pinsAt hb e)))).1, fun b hb => ?_, w7⟩
      obtain ⟨o, e, d⟩ := T.obj _ _ st5 b hb
      exact (I7.pin (b, o) (List.mem_append_right _ (List.mem_append_right _ (mem_pinsAt hb e)))).2.1
    cases f with
    | next => obtain ⟨σ7, H7, I7, n7⟩ := q7; exact again I7 n7
    | cont => obtain ⟨σ7, H7, I7, n7⟩ := q7; exact again I7 n7
    | brk => obtain ⟨σ7, H7, I7, q7⟩ := q7; exact ⟨σ7, H7, I7.unpinned, q7⟩
    | ret v => obtain ⟨x7, σ7, H7, I7, r7, q7⟩ := q7; exact ⟨x7, σ7, H7, I7.unpinned, r7, q7⟩
end

/-! ### the forms one uses -/
theorem for_tup {K : PySem.W.Frag} {a : Addr} {xs : List V} {g : TG} {tb : TS} {D : Ends} {σ : St} {H : Hp} (Pv : Nat → St → Hp → Prop) (h0 : Pv 0 σ H) (hl : ∀ i σ H, i ≤ xs.length → Pv i σ H → SqT K H a xs)
    (hs : ∀ i x σ H, xs[i]? = some x → Pv i σ H → g x σ H fun σ2 H2 => tb { D with nx := Pv (i + 1), ct := Pv (i + 1), bk := D.nx } σ2 H2) (hd : ∀ σ H, Pv xs.length σ H → D.nx σ H) :
    ∃ W : Nat → Nat → St → Hp → Prop, (∃ m, W 0 m σ H) ∧ ∀ i m σ H, W i m σ H →
      ((Itt K a).stop i H ∧ D.nx σ H) ∨ ((Itt K a).go i H ∧ ∃ N : St → Hp → Prop, (∀ σ' H', N σ' H' → ∃ m', m' < m ∧ W (i + 1) m' σ' H') ∧ ∀ x H', (Itt K a).yld i H x H' → g x σ H' fun σ2 H2 => tb { D with nx := N, ct := N, bk := D.nx } σ2 H2) := by
  refine ⟨fun i m σ H => m = xs.length - i ∧ i ≤ xs.length ∧ Pv i σ H, ⟨xs.length, by simp, Nat.zero_le _, h0⟩, ?_⟩
  rintro i m σ H ⟨rfl, hi, p⟩
  have q := hl i σ H hi p
  by_cases hlt : i < xs.length
  · refine .inr ⟨⟨xs, xs[i], q, by simp [hlt]⟩, Pv (i + 1), fun σ' H' p' => ⟨xs.length - (i + 1), by omega, rfl, hlt, p'⟩, fun x H' y => ?_⟩
    obtain ⟨e, y⟩ := y
    subst e
    exact hs i x σ _ (y xs q) p
  · have e : i = xs.length := by omega
    subst e
    exact .inl ⟨⟨xs, q, Nat.le_refl _⟩, hd σ H p⟩
end L2

namespace L2
open PySem PySem.Spec PyProof.Rows

abbrev R2 := V → V → Hp → VK → Prop
/-- a two-place operation on values: f is binaryOp op, inplaceOp op or compareOp op -/
def OpR (X : Cx) (f : Value → Value → Sem Value) (r : R2) : Prop :=
  ∀ (pins : List (Addr × Obj)) (s : Shared) (σ : St) (H : Hp) (x y : V) (v u : Value) (Q : VK), Inv X pins σ H s → RelV x v → RelV y u → r x y H Q →
    wpAny (model X.prog X.w) X.A (f v u) (EP X pins σ Q) X.xe s
/-- a one-place operation -/
def UnR (X : Cx) (f : Value → Sem Value) (r : V → Hp → VK → Prop) : Prop :=
  ∀ (pins : List (Addr × Obj)) (s : Shared) (σ : St) (H : Hp) (x : V) (v : Value) (Q : VK), Inv X pins σ H s → RelV x v → r x H Q →
    wpAny (model X.prog X.w) X.A (f v) (EP X pins σ Q) X.xe s
/-- a call of a value that is known (a builtin, a type) with values -/
def CallR (X : Cx) (f : Value) (r : List V → Hp → VK → Prop) : Prop :=
  ∀ (pins : List (Addr × Obj)) (s : Shared) (σ : St) (H : Hp) (xs : List V) (us : List Value) (Q : VK), Inv X pins σ H s → Vals xs us → r xs H Q →
    wpAny (model X.prog X.w) X.A (call f us) (EP X pins σ Q) X.xe s

def tOp (r : R2) (ta tb : TE) : TE := fun σ H Q => ta σ H fun x H1 => tb σ H1 fun y H2 => r x y H2 Q
def tUn (r : V → Hp → VK → Prop) (ta : TE) : TE := fun σ H Q => ta σ H fun x H1 => r x H1 Q
def rI0 (g : Int → Int → V) : R2 := fun x y H Q => ∃ i j, x = .int i ∧ y = .int j ∧ Q (g i j) H
def rU (g : Int → V) : V → Hp → VK → Prop := fun x H Q => ∃ i, x = .int i ∧ Q (g i) H

section
variable {X : Cx} {a b c : Expr} {ta tb tc : TE} {pos : Pos}

theorem binT (ha : PE X a ta) (hb : PE X b tb) {pins : List (Addr × Obj)} {s : Shared} {σ : St} {H : Hp} {R : V → V → Hp → Prop} (I : Inv X pins σ H s)
    (h : ta σ H fun x H1 => tb σ H1 fun y H2 => R x y H2) {Q : Value → Shared → Prop} {f : Value → Value → Sem Value}
    (hf : ∀ v u s2 x y H2, Inv X pins σ H2 s2 → RelV x v → RelV y u → R x y H2 → wpAny (model X.prog X.w) X.A (f v u) Q X.xe s2) :
    wpAny (model X.prog X.w) X.A (eval a X.env) (fun v s₁ => wpAny (model X.prog X.w) X.A (eval b X.env) (fun u s₂ => wpAny (model X.prog X.w) X.A (f v u) Q X.xe s₂) X.xe s₁) X.xe s := by
  refine thn (ha pins s σ H _ I h) fun v s1 ⟨x, H1, I1, r1, q1⟩ => ?_
  refine thn (hb pins s1 σ H1 _ I1 q1) fun u s2 ⟨y, H2, I2, r2, q2⟩ => ?_
  exact hf v u s2 x y H2 I2 r1 r2 q2

theorem pe_op {op : Operator} {r : R2} (ho : OpR X (binaryOp op) r) (ha : PE X a ta) (hb : PE X b tb) : PE X (.BinOp a op b pos) (tOp r ta tb) := by
  intro pins s σ H Q I h
  exact wpAny_BinOp (binT ha hb I h fun v u s2 x y H2 I2 rx ry q => ho pins s2 σ H2 x y v u Q I2 rx ry q)
theorem pe_un {op : UnaryOp} {r : V → Hp → VK → Prop} (ho : UnR X (unaryOp op) r) (ha : PE X a ta) : PE X (.UnaryOp op a pos) (tUn r ta) := by
  intro pins s σ H Q I h
  exact UnaryOp_ (thn (ha pins s σ H _ I h) fun v s1 ⟨x, H1, I1, r1, q1⟩ => ho pins s1 σ H1 x v Q I1 r1 q1)

/-! ### ints -/
theorem opI0 {f : Value → Value → Sem Value} {g : Int → Int → Int}
    (rule : ∀ (i j : Int) (t u : Tok) (s : Shared) (Q : Value → Shared → Prop) (E : Value → Shared → Prop), Q (.int (g i j) s.toks) { s with toks := s.toks + 1 } → wpAny (model X.prog X.w) X.A (f (.int i t) (.int j u)) Q E s) :
    OpR X f (rI0 fun i j => .int (g i j)) := by
  intro pins s σ H x y v u Q I rx ry h
  obtain ⟨i, j, rfl, rfl, q⟩ := h
  obtain ⟨t, rfl⟩ := rx
  obtain ⟨t', rfl⟩ := ry
  exact rule i j t t' s _ _ ⟨.int (g i j), H, I.tok _, ⟨_, rfl⟩, q⟩
theorem opB0 {f : Value → Value → Sem Value} {g : Int → Int → Bool}
    (rule : ∀ (i j : Int) (t u : Tok) (s : Shared) (Q : Value → Shared → Prop) (E : Value → Shared → Prop), Q (.bool (g i j)) s → wpAny (model X.prog X.w) X.A (f (.int i t) (.int j u)) Q E s) :
    OpR X f (rI0 fun i j => .bl (g i j)) := by
  intro pins s σ H x y v u Q I rx ry h
  obtain ⟨i, j, rfl, rfl, q⟩ := h
  obtain ⟨t, rfl⟩ := rx
  obtain ⟨t', rfl⟩ := ry
  exact rule i j t t' s _ _ ⟨.bl (g i j), H, I, rfl, q⟩


theorem op_add : OpR X (binaryOp .Add) (rI0 fun i j => .int (i + j)) := opI0 fun _ _ _ _ _ _ _ q => add_int q
theorem op_sub : OpR X (binaryOp .Sub) (rI0 fun i j => .int (i - j)) := opI0 fun _ _ _ _ _ _ _ q => sub_int q


theorem unI {f : Value → Sem Value} {g : Int → Int}
    (rule : ∀ (i : Int) (t : Tok) (s : Shared) (Q : Value → Shared → Prop) (E : Value → Shared → Prop), Q (.int (g i) s.toks) { s with toks := s.toks + 1 } → wpAny (model X.prog X.w) X.A (f (.int i t)) Q E s) :
    UnR X f (rU fun i => .int (g i)) := by
  intro pins s σ H x v Q I rx h
  obtain ⟨i, rfl, q⟩ := h
  obtain ⟨t, rfl⟩ := rx
  exact rule i t s _ _ ⟨.int (g i), H, I.tok _, ⟨_, rfl⟩, q⟩
theorem un_neg : UnR X (unaryOp .USub) (rU fun i => .int (-i)) := unI fun _ _ _ _ _ q => neg_int q

/-! ### bools among ints: n += (a < b) -/
end

/-! ### comparisons -/
/-- the scalars that == tells apart as data does -/
def scal : V → V → Bool
  | .non, .non => true | .non, .int _ => true | .int _, .non => true | .non, .bl _ => true | .bl _, .non => true | .non, .str _ => true | .str _, .non => true
  | .int _, .int _ => true | .bl _, .bl _ => true | .str _, .str _ => true | .byt _, .byt _ => true
  | .int _, .str _ => true | .str _, .int _ => true | .bl _, .str _ => true | .str _, .bl _ => true
  | _, _ => false
def rEq : R2 := fun x y H Q => scal x y = true ∧ Q (.bl (decide (x = y))) H

theorem dec_int {i j : Int} : decide (V.int i = V.int j) = (i == j) := by
  rw [Bool.eq_iff_iff]
  simp
theorem dec_bl {i j : Bool} : decide (V.bl i = V.bl j) = (i == j) := by
  rw [Bool.eq_iff_iff]
  simp
theorem dec_str {i j : Str} : decide (V.str i = V.str j) = (i == j) := by
  rw [Bool.eq_iff_iff]
  simp
theorem dec_byt {i j : Array UInt8} : decide (V.byt i = V.byt j) = (i.toList == j.toList) := by
  rw [Bool.eq_iff_iff]
  cases i
  cases j
  simp

section
variable {X : Cx} {a b c : Expr} {ta tb tc : TE} {pos : Pos}
theorem fin_bl {pins : List (Addr × Obj)} {σ : St} {H : Hp} {s : Shared} {Q : VK} {k k' : Bool} (I : Inv X pins σ H s) (q : Q (.bl k) H) (e : k = k') : EP X pins σ Q (.bool k') s := by
  subst e
  exact ⟨.bl k, H, I, rfl, q⟩
theorem op_eq : OpR X (compareOp .Eq) rEq := by
  intro pins s σ H x y v u Q I rx ry h
  obtain ⟨hs, q⟩ := h
  cases x with
  | non =>
    cases rx
    cases y with
    | non => cases ry; exact PySem.EqNone.eq_none_none (fin_bl I q (by simp))
    | bl j => cases ry; exact PySem.EqNone.eq_none_bool (fin_bl I q (by simp))
    | int j => obtain ⟨t', rfl⟩ := ry; exact PySem.EqNone.eq_none_int (fin_bl I q (by simp))
    | str j => obtain ⟨t', rfl⟩ := ry; exact PySem.EqNone.eq_none_str (fin_bl I q (by simp))
    | _ => exact absurd (show false = true from hs) Bool.false_ne_true
  | bl i =>
    cases rx
    cases y with
    | non => cases ry; exact PySem.EqNone.eq_bool_none (fin_bl I q (by simp))
    | bl j => cases ry; exact eq_bool (fin_bl I q dec_bl)
    | str j => obtain ⟨t', rfl⟩ := ry; exact PySem.EqMixed.eq_bool_str (fin_bl I q (by simp))
    | _ => exact absurd (show false = true from hs) Bool.false_ne_true
  | int i =>
    obtain ⟨t, rfl⟩ := rx
    cases y with
    | non => cases ry; exact PySem.EqNone.eq_int_none (fin_bl I q (by simp))
    | int j => obtain ⟨t', rfl⟩ := ry; exact eq_int (fin_bl I q dec_int)
    | str j => obtain ⟨t', rfl⟩ := ry; exact PySem.EqMixed.eq_int_str (fin_bl I q (by simp))
    | _ => exact absurd (show false = true from hs) Bool.false_ne_true
  | str i =>
    obtain ⟨t, rfl⟩ := rx
    cases y with
    | non => cases ry; exact PySem.EqNone.eq_str_none (fin_bl I q (by simp))
    | bl j => cases ry; exact PySem.EqMixed.eq_str_bool (fin_bl I q (by simp))
    | int j => obtain ⟨t', rfl⟩ := ry; exact PySem.EqMixed.eq_str_int (fin_bl I q (by simp))
    | str j => obtain ⟨t', rfl⟩ := ry; exact eq_str (fin_bl I q dec_str)
    | _ => exact absurd (show false = true from hs) Bool.false_ne_true
  | byt i =>
    obtain ⟨t, rfl⟩ := rx
    cases y with
    | byt j => obtain ⟨t', rfl⟩ := ry; exact PySem.W.eq_bytes (fin_bl I q dec_byt)
    | _ => exact absurd (show false = true from hs) Bool.false_ne_true
  | _ => cases y <;> exact absurd (show false = true from hs) Bool.false_ne_true

theorem op_lt : OpR X (compareOp .Lt) (rI0 fun i j => .bl (decide (i < j))) := opB0 fun _ _ _ _ _ _ _ q => lt_int q
theorem op_le : OpR X (compareOp .LtE) (rI0 fun i j => .bl (decide (i ≤ j))) := opB0 fun _ _ _ _ _ _ _ q => le_int q
theorem op_gt : OpR X (compareOp .Gt) (rI0 fun i j => .bl (decide (j < i))) := opB0 fun _ _ _ _ _ _ _ q => gt_int q
theorem op_ge : OpR X (compareOp .GtE) (rI0 fun i j => .bl (decide (j ≤ i))) := opB0 fun _ _ _ _ _ _ _ q => ge_int q

/-- is None, is not None: the right side a value none -/
theorem op_isN : OpR X (compareOp .Is) (fun x y H Q => y = .non ∧ Q (.bl (decide (x = .non))) H) := by
  intro pins s σ H x y v u Q I rx ry h
  obtain ⟨rfl, q⟩ := h
  cases ry
  refine is_none_gen (fin_bl I q ?_)
  cases x <;> first
    | (cases rx; rfl)
    | (obtain ⟨t, rfl⟩ := rx; rfl)



theorem nomark (b : Expr) {op : CmpOp} (h : op ≠ .In := by decide) (h2 : op ≠ .NotIn := by decide) : behindInMarks op b = false := by
  have e1 : (op == CmpOp.In) = false := by cases op <;> first | rfl | exact absurd rfl h
  have e2 : (op == CmpOp.NotIn) = false := by cases op <;> first | rfl | exact absurd rfl h2
  cases b <;> simp [behindInMarks, e1, e2]
/-- a comparison as a value; hm: nomark b, or (for in, not in) by with_unfolding_all rfl -/
theorem pe_cmpR {op : CmpOp} {r : R2} (ho : OpR X (compareOp op) r) (ha : PE X a ta) (hb : PE X b tb) (hm : behindInMarks op b = false) : PE X (.Compare a [op] [b] pos) (tOp r ta tb) := by
  intro pins s σ H Q I h
  exact wpAny_Compare1 (binT ha hb I h fun v u s2 x y H2 I2 rx ry q => ho pins s2 σ H2 x y v u Q I2 rx ry q) hm
/-- a reading of a value as a test -/
def tTest (t : TE) : TT := fun σ H Q => t σ H fun x H' => ∃ k, x = .bl k ∧ Q k H'
theorem pt_cmpR {op : CmpOp} {r : R2} (ho : OpR X (compareOp op) r) (ha : PE X a ta) (hb : PE X b tb) (hm : behindInMarks op b = false) : PT X (.Compare a [op] [b] pos) (tTest (tOp r ta tb)) := by
  intro pins s σ H Q I h
  refine wpAny_isTrue_Compare1 (thn (ha pins s σ H _ I h) fun v s1 ⟨x, H1, I1, r1, q1⟩ => thn (hb pins s1 σ H1 _ I1 q1) fun u s2 ⟨y, H2, I2, r2, q2⟩ =>
    thn (ho pins s2 σ H2 x y v u _ I2 r1 r2 q2) fun c s3 ⟨z, H3, I3, r3, k, e, q3⟩ => ?_) hm
  subst e
  cases r3
  exact wpAny_truthy_bool ⟨H3, I3, q3⟩

/-! ### truth -/
theorem line63 : (sizeLine : Nat) < 2 ^ 63 := by rw [sizeLine_eq]; decide

/-! ### strs and bytes -/


/-! ### scalar builtins, by CallR -/
theorem vals1 {x : V} {us : List Value} (r : Vals [x] us) : ∃ u, us = [u] ∧ RelV x u := by
  cases r with
  | cons r1 r2 => cases r2; exact ⟨_, rfl, r1⟩
theorem vals2 {x y : V} {us : List Value} (r : Vals [x, y] us) : ∃ u w', us = [u, w'] ∧ RelV x u ∧ RelV y w' := by
  cases r with
  | cons r1 r2 =>
    cases r2 with
    | cons r3 r4 => cases r4; exact ⟨_, _, rfl, r1, r3⟩
theorem call_abs : CallR X (.builtin "abs") (fun xs H Q => ∃ i, xs = [.int i] ∧ Q (.int (if i < 0 then -i else i)) H) := by
  intro pins s σ H xs us Q I r h
  obtain ⟨i, rfl, q⟩ := h
  obtain ⟨u, rfl, t, rfl⟩ := vals1 r
  exact call_abs_int fun u tk => ⟨.int (if i < 0 then -i else i), H, I.tok _, ⟨_, rfl⟩, q⟩
theorem call_max2 (hc : X.calm = true) : CallR X (.builtin "max") (fun xs H Q => ∃ i j, xs = [.int i, .int j] ∧ Q (.int (if j > i then j else i)) H) := by
  intro pins s σ H xs us Q I r h
  obtain ⟨i, j, rfl, q⟩ := h
  obtain ⟨u, w', rfl, ⟨t, rfl⟩, ⟨t', rfl⟩⟩ := vals2 r
  refine max_two_ints (I.ok.hd hc) fun h' tk k => ⟨_, H, I.kept k, ?_, q⟩
  by_cases hj : j > i
  · rw [if_pos hj, if_pos hj]; exact ⟨_, rfl⟩
  · rw [if_neg hj, if_neg hj]; exact ⟨_, rfl⟩
end
end L2

namespace L2
open PySem PySem.Spec PyProof.Rows

/-! ### an instance, its attributes a map -/
structure ObjM (h : Heap) (x dx C : Addr) (mA : Str → Option Value) : Prop where
  obj : h.get? x = some (PySem.W.instObj C dx)
  ns : h.Ns1 dx mA
  ne : dx ≠ x

theorem lookIn_ns {h : Heap} {dx : Addr} {mA : Str → Option Value} (n : h.Ns1 dx mA) : ∃ od, h.get? dx = some od ∧ ∀ name, PySem.W.lookIn name od = some (mA name) := by
  obtain ⟨o, es, ep, ho, hd, hk, _, hm⟩ := n
  refine ⟨o, ho, fun name => ?_⟩
  have e := hm name
  unfold nsFind findBy at e
  rw [← Array.find?_toList] at e
  unfold PySem.W.lookIn
  rw [hd]
  dsimp only
  split
  · rename_i y q
    rw [q] at e
    exact congrArg some e
  · rename_i q
    rw [q] at e
    have a : es.toList.any (·.refKey) = false := by
      rw [List.any_eq_false]
      intro y hy
      obtain ⟨z, t, hkey⟩ := hk y (Array.mem_toList_iff.mp hy)
      simp [DictEntry.refKey, hkey]
    have a' : ¬ es.toList.any (·.refKey) = true := by rw [a]; exact Bool.false_ne_true
    rw [if_neg a']
    exact congrArg some e

theorem ObjM.look {h : Heap} {x dx C : Addr} {mA : Str → Option Value} (I : ObjM h x dx C mA) : ∃ od, PySem.W.InstAt h x (PySem.W.instObj C dx) C (some od) ∧ ∀ name, PySem.W.lookIn name od = some (mA name) :=
  let ⟨od, ho, hl⟩ := lookIn_ns I.ns
  ⟨od, ⟨I.obj, rfl, rfl, ho⟩, hl⟩

section
variable {prog : Program} {w : World} {A : Around} {E : Value → Shared → Prop} {s : Shared} {K : PySem.W.Frag} {x dx C f : Addr} {mA : Str → Option Value} {name : Str} {v : Value}

theorem get_map {expr : Bool} {Q : Value → Shared → Prop} (X : K.In s.heap) (I : ObjM s.heap x dx C mA) (hg : PySem.W.plainGet K C name = true) (hh : PySem.W.hasDictIn K C = true)
    (ha : PySem.W.findIn K (.ref C) name = some none) (hv : mA name = some v) (hv' : PySem.W.handedIn v = true) (h : Q v { s with toks := s.toks + 1 }) :
    wpAny (model prog w) A (getAttr (.ref x) name expr) Q E s := by
  obtain ⟨od, J, hl⟩ := I.look
  exact PySem.W.get_value X J (PySem.W.plainGet_of hg).1 (PySem.W.findObj_own hh ha rfl (by rw [hl, hv])) hv' h


theorem get_meth {pl : Sem Bool} {Q : Value × List Value → Shared → Prop} (X : K.In s.heap) (I : ObjM s.heap x dx C mA) (hg : PySem.W.plainGet K C name = true)
    (hf : PySem.W.findIn K (.ref C) name = some (some (.ref f))) (ht : PySem.W.isFn K (.ref f) = true) (hv : mA name = none) (h : Q (.ref f, [.ref x]) s) :
    wpAny (model prog w) A (getMethod (.ref x) name pl) Q E s := by
  obtain ⟨od, J, hl⟩ := I.look
  exact PySem.W.method_fn X J (PySem.W.plainGet_of hg).1 (PySem.W.plainGet_of hg).2 hf (beq_iff_eq.mp ht) (by show (PySem.W.lookIn name od).map (·.isSome) = some false; rw [hl, hv]; rfl) h

theorem set_map {ns : List Str} {Q : Unit → Shared → Prop} (X : K.In s.heap) (I : ObjM s.heap x dx C mA)
    (hs : PySem.W.findIn K (.ref C) "__setattr__" = some (some (.builtin "object.__setattr__"))) (hp : PySem.W.plainOver K C = true) (ht : PySem.W.takerIn K C name = some none) (hh : PySem.W.hasDictIn K C = true)
    (hw : PySem.Within mA ns) (hsz : ns.length ≤ sizeLine)
    (h : ∀ h', ObjM h' x dx C (fun y => if y = name then some v else mA y) → Heap.SameBut dx s.heap h' → Q () { s with heap := h', toks := s.toks + 2 }) :
    wpAny (model prog w) A (setAttr (.ref x) name v) Q E s := by
  obtain ⟨od, J, hl⟩ := I.look
  refine PySem.W.set_plain X J hs (PySem.W.osa_open (s := { s with toks := s.toks + 1 }) (r := none) X J hp ht fun b => ?_)
  obtain ⟨cd, hc, hd'⟩ := PySem.W.any_some hh
  have hx : s.heap.get? x = some ⟨.ref C, some dx, .plain, #[]⟩ := I.obj
  refine wpAny_bind (wpAny_pure (wpAny_bind (wpAny_bind (wpAny_loadPart hx (wpAny_bind (PySem.W.Looks.here (s := { s with toks := s.toks + 1 }) (PySem.W.looks_clsIn X hc) ?_))))))
  rw [hd']
  refine wpAny_pure (a := some dx) (wpAny_bind (wpAny_pure (wpAny_bind ?_)))
  refine wpAny_nsSet1 (s := { s with toks := s.toks + 1 }) I.ns fun h' hn2 hs2 => ?_
  obtain ⟨oD, esD, epD, hoD, hdD, hcD⟩ := hn2.count (PySem.Within.cons name v hw)
  refine wpAny_bind (wpAny_lookBehind hoD (by rw [hdD]; exact pastItsLine_dict (Nat.le_trans hcD (by rw [List.length_cons]; omega))) ?_)
  exact wpAny_pure (h _ ⟨(hs2.2 _ (Ne.symm I.ne)).trans I.obj, hn2, I.ne⟩ hs2)

/-- C(..): the dict at the heap's end, the instance behind it; then its __init__ -/
theorem make_map {R : Result → Shared → Prop} {vs : List Value} {kw : List (Str × Value)} (X : K.In s.heap) (hm : PySem.W.makesIn K C = true)
    (hi : PySem.W.findIn K (.ref C) "__init__" = some (some (.ref f))) (hf : PySem.W.typeIn K (.ref f) = some (.type "function"))
    (h : codeAny (model prog w) (A.under (.builtin "type.__call__" ⟨.ref C :: vs, kw⟩)) (.call (.ref f) ⟨.ref (s.heap.objs.size + 1) :: vs, kw⟩) (PySem.W.InitBack (s.heap.objs.size + 1) R)
      { s with heap := (s.heap.push PySem.W.emptyDict).push (PySem.W.instObj C s.heap.objs.size) }) :
    codeAny (model prog w) A (.call (.ref C) ⟨vs, kw⟩) R s := by
  obtain ⟨hh, g, d, t, os⟩ := s
  exact PySem.W.make_core (PySem.W.makes_of X hm) (PySem.W.looks_findIn X hi) (fun self => PySem.W.bind_fn X self hf) (.inl rfl) h
end

/-! ### the attributes as a list of pairs -/
def putF (f : Str) (v : V) : List (Str × V) → List (Str × V)
  | [] => [(f, v)]
  | (g, x) :: r => if g = f then (g, v) :: r else (g, x) :: putF f v r
theorem lookup_putF (f g : Str) (v : V) : ∀ fs : List (Str × V), (putF f v fs).lookup g = if g = f then some v else fs.lookup g
  | [] => by
    show List.lookup g [(f, v)] = _
    by_cases h : g = f
    · have hb : (g == f) = true := beq_iff_eq.mpr h
      simp only [List.lookup, hb, if_pos h]
    · have hb : (g == f) = false := beq_eq_false_iff_ne.mpr h
      simp only [List.lookup, hb, if_neg h]
  | (k, x) :: r => by
    have ih := lookup_putF f g v r
    rw [show putF f v ((k, x) :: r) = (if k = f then (k, v) :: r else (k, x) :: putF f v r) from rfl]
    by_cases hk : k = f
    · rw [if_pos hk]
      by_cases h : g = k
      · have hb : (g == k) = true := beq_iff_eq.mpr h
        simp only [List.lookup, hb, if_pos (h.trans hk)]
      · have hb : (g == k) = false := beq_eq_false_iff_ne.mpr h
        simp only [List.lookup, hb, if_neg (fun e : g = f => h (e.trans hk.symm))]
    · rw [if_neg hk]
      by_cases h : g = k
      · have hb : (g == k) = true := beq_iff_eq.mpr h
        simp only [List.lookup, hb, if_neg (fun e : g = f => hk (h.symm.trans e))]
      · have hb : (g == k) = false := beq_eq_false_iff_ne.mpr h
        simp only [List.lookup, hb]
        exact ih
theorem keys_putF (f : Str) (v : V) : ∀ fs : List (Str × V), f ∈ (putF f v fs).map (·.1) ∧ ∀ g, g ∈ fs.map (·.1) → g ∈ (putF f v fs).map (·.1)
  | [] => ⟨by simp [putF], fun g h => by simp at h⟩
  | (k, x) :: r => by
    obtain ⟨i1, i2⟩ := keys_putF f v r
    rw [show putF f v ((k, x) :: r) = (if k = f then (k, v) :: r else (k, x) :: putF f v r) from rfl]
    by_cases hk : k = f
    · rw [if_pos hk]
      subst hk
      exact ⟨by simp, fun g h => by simpa using h⟩
    · rw [if_neg hk]
      refine ⟨?_, fun g h => ?_⟩
      · rw [List.map_cons]
        exact List.mem_cons_of_mem _ i1
      · rw [List.map_cons] at h ⊢
        rcases List.mem_cons.mp h with e | e
        · exact List.mem_cons.mpr (.inl e)
        · exact List.mem_cons_of_mem _ (i2 g e)
theorem length_putF (f : Str) (v : V) : ∀ fs : List (Str × V), (putF f v fs).length ≤ fs.length + 1
  | [] => by simp [putF]
  | (k, x) :: r => by
    have ih := length_putF f v r
    rw [show putF f v ((k, x) :: r) = (if k = f then (k, v) :: r else (k, x) :: putF f v r) from rfl]
    by_cases hk : k = f
    · rw [if_pos hk, List.length_cons, List.length_cons]; omega
    · rw [if_neg hk, List.length_cons, List.length_cons]; omega

theorem RelO.some_of {v : V} {o : Option Value} (r : RelO (some v) o) : ∃ u, o = some u ∧ RelV v u := by
  cases o with
  | none => exact (show False from r).elim
  | some u => exact ⟨u, rfl, r⟩
theorem RelO.none_of {o : Option Value} (r : RelO none o) : o = none := by
  cases o with
  | none => rfl
  | some u => exact (show False from r).elim
theorem handed_of {v : V} {u : Value} (r : RelV v u) : PySem.W.handedIn u = true := by
  cases v with
  | non => cases (show u = Value.none from r); rfl
  | bl b => cases (show u = Value.bool b from r); rfl
  | int i => obtain ⟨t, e⟩ := (show ∃ t, u = Value.int i t from r); cases e; rfl
  | str x => obtain ⟨t, e⟩ := (show ∃ t, u = Value.str x t from r); cases e; rfl
  | byt b => obtain ⟨t, e⟩ := (show ∃ t, u = Value.bytes b t from r); cases e; rfl
  | flt b => obtain ⟨t, e⟩ := (show ∃ t, u = Value.float b t from r); cases e; rfl
  | ref a => cases (show u = Value.ref a from r); rfl
  | ty n => cases (show u = Value.type n from r); rfl

section
variable {P : Program} {w : World} {H H' : Hp} {h h' : Heap} {a C dx : Addr} {fs fs' : List (Str × V)}
theorem ins_get (hok : HOk P w H h) (e : H a = some (.ins C dx fs)) : ∃ mA, ObjM h a dx C mA ∧ (∀ f, RelO (fs.lookup f) (mA f)) ∧ PySem.Within mA (fs.map (·.1)) ∧ fs.length ≤ 1000 ∧ H dx = some (.own a) := by
  obtain ⟨d, z, ne, ob, mA, n, r, q⟩ := (show ObjOk P w H h a (.ins C dx fs) from hok a _ e)
  exact ⟨mA, ⟨ob, n, ne⟩, r, q, z, d⟩
end

/-! ### what of the text a class must have -/
structure Cls (K : PySem.W.Frag) (C : Addr) : Prop where
  pg : PySem.W.plainGet K C Str.empty = true
  hd : PySem.W.hasDictIn K C = true
  po : PySem.W.plainOver K C = true
  sa : PySem.W.findIn K (.ref C) "__setattr__" = some (some (.builtin "object.__setattr__"))
theorem Cls.get {K : PySem.W.Frag} {C : Addr} (c : Cls K C) (f : Str) : PySem.W.plainGet K C f = true := c.pg
/-- no class of it has the name -/
def NoAttr (K : PySem.W.Frag) (C : Addr) (f : Str) : Prop := PySem.W.findIn K (.ref C) f = some none
theorem NoAttr.taker {K : PySem.W.Frag} {C : Addr} {f : Str} (n : NoAttr K C f) : PySem.W.takerIn K C f = some none := by
  unfold PySem.W.takerIn
  rw [show PySem.W.findIn K (.ref C) f = some none from n]
  rfl
/-- a method: a plain def of the class or of one above it -/
structure Meth (K : PySem.W.Frag) (C : Addr) (m : Str) (f : Addr) : Prop where
  at_ : PySem.W.findIn K (.ref C) m = some (some (.ref f))
  fn : PySem.W.isFn K (.ref f) = true
  kp : PySem.W.keepIn K (.ref f) = true

section
variable {X : Cx} {pins : List (Addr × Obj)} {σ : St} {H : Hp} {s : Shared} {a C dx : Addr} {fs : List (Str × V)} {f : Str} {v : V} {A : Around} {E : Value → Shared → Prop}

theorem getattr_ok {b : Bool} {Q : Value → Shared → Prop} (I : Inv X pins σ H s) (e : H a = some (.ins C dx fs)) (c : Cls X.K C) (n : NoAttr X.K C f) (l : fs.lookup f = some v)
    (h : ∀ u s', Inv X pins σ H s' → RelV v u → Q u s') : wpAny (model X.prog X.w) A (getAttr (.ref a) f b) Q E s := by
  obtain ⟨mA, O, r, _, _, _⟩ := ins_get I.hok e
  obtain ⟨u, hu, ru⟩ := RelO.some_of (v := v) (o := mA f) (by rw [← l]; exact r f)
  exact get_map I.kIn O (c.get f) c.hd n hu (handed_of ru) (h u _ (I.tok _) ru)


theorem getmeth_ok {m : Str} {g : Addr} {pl : Sem Bool} {Q : Value × List Value → Shared → Prop} (I : Inv X pins σ H s) (e : H a = some (.ins C dx fs)) (c : Cls X.K C) (k : Meth X.K C m g) (l : fs.lookup m = none)
    (h : Q (.ref g, [.ref a]) s) : wpAny (model X.prog X.w) A (getMethod (.ref a) m pl) Q E s := by
  obtain ⟨mA, O, r, _, _, _⟩ := ins_get I.hok e
  have hn : mA m = none := RelO.none_of (by rw [← l]; exact r m)
  exact get_meth I.kIn O (c.get m) k.at_ k.fn hn h

theorem setattr_ok {y : V} {u : Value} {Q : Unit → Shared → Prop} (I : Inv X pins σ H s) (e : H a = some (.ins C dx fs)) (c : Cls X.K C) (n : NoAttr X.K C f) (hl : fs.length < 1000) (ry : RelV y u)
    (h : ∀ s', Inv X pins σ (upd H a (.ins C dx (putF f y fs))) s' → Q () s') : wpAny (model X.prog X.w) A (setAttr (.ref a) f u) Q E s := by
  obtain ⟨mA, O, r, wi, _, ho⟩ := ins_get I.hok e
  have hz : (fs.map (·.1)).length ≤ sizeLine := by rw [List.length_map, sizeLine_eq]; omega
  refine set_map I.kIn O c.sa c.po n.taker c.hd wi hz fun h' O' sb => h _ ?_
  have hd : ∃ o, h'.get? dx = some o := let ⟨o, _, _, e', _⟩ := O'.ns; ⟨o, e'⟩
  refine I.write (x := a) (e := dx) (by rw [e]; exact True.intro) (.inr ho) (fun b q hb z => (sb.2 b hb).trans z) hd ?_
  refine ⟨by rw [upd_ne O.ne]; exact ho, ?_, O.ne, O'.obj, _, O'.ns, fun g => ?_, fun g hg => ?_⟩
  · have := length_putF f y fs; omega
  · show RelO ((putF f y fs).lookup g) (if g = f then some u else mA g)
    rw [lookup_putF]
    by_cases q : g = f
    · rw [if_pos q, if_pos q]; exact ry
    · rw [if_neg q, if_neg q]; exact r g
  · by_cases q : g = f
    · rw [q]; exact (keys_putF f y fs).1
    · refine (keys_putF f y fs).2 g (wi g fun z => hg ?_)
      show (if g = f then some u else mA g) = none
      rw [if_neg q]; exact z

/-- a new instance, tracked, without attributes -/
theorem Inv.made (I : Inv X pins σ H s) : Inv X pins σ (upd (upd H s.heap.objs.size (.own (s.heap.objs.size + 1))) (s.heap.objs.size + 1) (.ins C s.heap.objs.size []))
    { s with heap := (s.heap.push PySem.W.emptyDict).push (PySem.W.instObj C s.heap.objs.size) } := by
  have e1 : (s.heap.push PySem.W.emptyDict).get? s.heap.objs.size = some PySem.W.emptyDict := Heap.get?_push_size s.heap rfl
  have e2 : ((s.heap.push PySem.W.emptyDict).push (PySem.W.instObj C s.heap.objs.size)).get? (s.heap.objs.size + 1) = some (PySem.W.instObj C s.heap.objs.size) := by
    have := Heap.get?_push_size (s.heap.push PySem.W.emptyDict) (o := PySem.W.instObj C s.heap.objs.size) rfl
    rwa [Heap.size_push] at this
  have e3 : (s.heap.push PySem.W.emptyDict).Ns s.heap.objs.size (fun _ => none) := ⟨PySem.W.emptyDict, #[], _, e1, rfl, (fun e he => absurd he (by simp)), fun _ => rfl⟩
  have I1 := I.laid (a := s.heap.objs.size) (o := .own (s.heap.objs.size + 1)) (h' := s.heap.push PySem.W.emptyDict) (t' := s.toks) (fun b u q => Heap.get?_push_of_some _ q) (Nat.le_refl _) ⟨_, e1⟩
  refine I1.laid (a := s.heap.objs.size + 1) (o := .ins C s.heap.objs.size []) (t' := s.toks) (fun b u q => Heap.get?_push_of_some _ q) (Nat.le_of_eq (Heap.size_push _ _)) ?_
  have ne : s.heap.objs.size ≠ s.heap.objs.size + 1 := Nat.ne_of_lt (Nat.lt_succ_self _)
  refine ⟨by rw [upd_ne ne, upd_same], Nat.zero_le _, ne, e2, fun _ => none, (Heap.Ns1.of_empty e3).at fun o q => Heap.get?_push_of_some _ q, fun _ => True.intro, fun y hy => absurd rfl hy⟩

/-- e.f where nothing but the object is asked: through attributeBase (super) and the last hold -/
theorem attr_of {prog : Program} {w : World} {env : Env} {e : Expr} {f : Str} {pos : Pos} {s : Shared} {Q : Value → Shared → Prop} (hb : attributeBase e f env (eval e env) = eval e env)
    (h : wpAny (model prog w) A (eval e env) (fun o s₁ => wpAny (model prog w) A (getAttr o f true) Q E s₁) E s) : wpAny (model prog w) A (eval (.Attribute e f pos) env) Q E s :=
  Attribute_any_ h (by rw [arm_eval_Attribute, hb])
end

/-! ### readings and rules -/
/-- e.f, an attribute of the instance -/
def tFld (K : PySem.W.Frag) (ta : TE) (f : Str) : TE := fun σ H Q => ta σ H fun x H1 => ∃ a C dx fs v, x = .ref a ∧ H1 a = some (.ins C dx fs) ∧ Cls K C ∧ NoAttr K C f ∧ fs.lookup f = some v ∧ Q v H1
/-- e.f = value -/
def sFld (K : PySem.W.Frag) (ta tv : TE) (f : Str) : TS := fun D σ H => tv σ H fun y H1 => ta σ H1 fun x H2 => ∃ a C dx fs, x = .ref a ∧ H2 a = some (.ins C dx fs) ∧ Cls K C ∧ NoAttr K C f ∧ fs.length < 1000 ∧
  D.nx σ (upd H2 a (.ins C dx (putF f y fs)))
/-- an augmented operator on two values -/
def InOp (X : Cx) (op : Operator) (rd : V → V → Hp → VK → Prop) : Prop :=
  ∀ (pins : List (Addr × Obj)) (s : Shared) (σ : St) (H : Hp) (x y : V) (u v : Value) (Q : VK), Inv X pins σ H s → RelV x u → RelV y v → rd x y H Q → wpAny (model X.prog X.w) X.A (inplaceOp op u v) (EP X pins σ Q) X.xe s
/-- e.f op= value -/
def sFldAug (K : PySem.W.Frag) (ta tv : TE) (rd : V → V → Hp → VK → Prop) (f : Str) : TS := fun D σ H => ta σ H fun x H1 => ∃ a C dx fs v, x = .ref a ∧ H1 a = some (.ins C dx fs) ∧ Cls K C ∧ NoAttr K C f ∧ fs.lookup f = some v ∧
  tv σ H1 fun y H2 => rd v y H2 fun z H3 => ∃ dx' fs', H3 a = some (.ins C dx' fs') ∧ fs'.length < 1000 ∧ D.nx σ (upd H3 a (.ins C dx' (putF f z fs')))

section
variable {X : Cx} {o e value : Expr} {f : Str} {pos pos' tpos : Pos} {ta tv : TE}
theorem pe_fld (he : PE X e ta) (hb : attributeBase e f X.env (eval e X.env) = eval e X.env) : PE X (.Attribute e f pos) (tFld X.K ta f) := by
  intro pins s σ H Q I h
  refine attr_of hb (thn (he pins s σ H _ I h) fun u s1 ⟨x, H1, I1, rx, a, C, dx, fs, v, ex, ea, c, n, l, q⟩ => ?_)
  subst ex
  obtain rfl : u = Value.ref a := rx
  exact getattr_ok I1 ea c n l fun u' s2 I2 ru => ⟨v, H1, I2, ru, q⟩
theorem ps_fld (ha : PE X o ta) (hv : PE X value tv) (hs : swapsWith value (some (.Attribute o f pos')) pos.line X.env = pure false) : PS X (.Assign [.Attribute o f pos'] value pos) (sFld X.K ta tv f) := by
  intro pins s σ H D I h
  refine plainObj_wpAny_Assign_Attribute (thn (hv pins s σ H _ I h) fun u s1 ⟨y, H1, I1, ry, q⟩ => thn (ha pins s1 σ H1 _ I1 q) fun ov s2 ⟨x, H2, I2, rx, a, C, dx, fs, ex, ea, c, n, l, q2⟩ => ?_) hs
  subst ex
  obtain rfl : ov = Value.ref a := rx
  exact setattr_ok I2 ea c n l ry fun s3 I3 => ⟨σ, _, I3, q2⟩
theorem ps_fldaug {op : Operator} {rd : V → V → Hp → VK → Prop} (ha : PE X o ta) (hv : PE X value tv) (hop : InOp X op rd) : PS X (.AugAssign (.Attribute o f tpos) op value pos) (sFldAug X.K ta tv rd f) := by
  intro pins s σ H D I h
  refine wpAny_AugAssign_AttributeAny (thn (ha pins s σ H _ I h) fun ov s1 ⟨x, H1, I1, rx, a, C, dx, fs, v, ex, ea, c, n, l, q⟩ => ?_)
  subst ex
  obtain rfl : ov = Value.ref a := rx
  refine getattr_ok I1 ea c n l fun u s2 I2 ru => thn (hv pins s2 σ H1 _ I2 q) fun w3 s3 ⟨y, H2, I3, ry, q3⟩ => thn (hop pins s3 σ H2 v y u w3 _ I3 ru ry q3) fun w4 s4 ⟨z, H3, I4, rz, dx', fs', ea', l', q4⟩ => ?_
  exact setattr_ok I4 ea' c n l' rz fun s5 I5 => ⟨σ, _, I5, q4⟩
def rAdd : V → V → Hp → VK → Prop := fun x y H Q => ∃ i j, x = .int i ∧ y = .int j ∧ Q (.int (i + j)) H
theorem in_add : InOp X .Add rAdd := by
  rintro pins s σ H x y u v Q I rx ry ⟨i, j, rfl, rfl, q⟩
  obtain ⟨t, rfl⟩ := (show ∃ t, u = Value.int i t from rx)
  obtain ⟨t', rfl⟩ := (show ∃ t', v = Value.int j t' from ry)
  exact PyProof.Rows.iadd_int ⟨.int (i + j), H, I.tok _, ⟨_, rfl⟩, q⟩

end

/-! ### isinstance -/
section
variable {X : Cx} {pins : List (Addr × Obj)} {σ : St} {H : Hp} {s : Shared} {A : Around} {E : Value → Shared → Prop} {Q : Value → Shared → Prop} {c : Value} {b : Bool}
end
end L2

namespace L2
open PySem PySem.Spec PyProof.Rows

/-! ### room -/
structure Room (k : Nat) (A : Around) : Prop where
  hd : A.handled = none
  dp : A.depth + 3 * k + 5 < recursionLimit
  un : A.units + 16 * k + 200 < cLine
theorem Room.mono {j k : Nat} {A : Around} (r : Room k A) (h : j ≤ k) : Room j A := ⟨r.hd, by have := r.dp; omega, by have := r.un; omega⟩
theorem Room.deeper {k : Nat} {A : Around} (r : Room (k + 1) A) (env : Env) : Room k (A.deeper env) :=
  ⟨r.hd, by have := r.dp; show A.depth + 1 + 3 * k + 5 < _; omega, by have := r.un; show A.units + 3 + 16 * k + 200 < _; omega⟩
theorem make_depth {A : Around} {C : Addr} {us : List Value} {kw : List (Str × Value)} : (A.under (.builtin "type.__call__" ⟨.ref C :: us, kw⟩)).depth = A.depth + 1 := by
  first | rfl | simp [Around.under, Code.weight, Code.isCreation, Code.isGuard, Code.isCaller, Code.frames, Code.isFrame, guardIds]
theorem make_units {A : Around} {C : Addr} {us : List Value} {kw : List (Str × Value)} : (A.under (.builtin "type.__call__" ⟨.ref C :: us, kw⟩)).units = A.units + 1 := by
  first | rfl | simp [Around.under, Code.cUnits, Code.frames, Code.isFrame]
theorem Room.make {k : Nat} {A : Around} (r : Room (k + 1) A) (C : Addr) (us : List Value) (kw : List (Str × Value)) : Room k (A.under (.builtin "type.__call__" ⟨.ref C :: us, kw⟩)) :=
  ⟨r.hd, by have := r.dp; rw [make_depth]; omega, by have := r.un; rw [make_units]; omega⟩
theorem Room.depth {k : Nat} {A : Around} (r : Room k A) : A.depth < recursionLimit := by have := r.dp; omega
theorem Room.units {k : Nat} {A : Around} (r : Room k A) : A.units + 64 < cLine := by have := r.un; omega

/-! ### argument lists and displays -/
def tNil : TA := fun _ H Q => Q [] H
def tCons (ta : TE) (tr : TA) : TA := fun σ H Q => ta σ H fun x H1 => tr σ H1 fun xs H2 => Q (x :: xs) H2
section
variable {X : Cx} {e : Expr} {es : List Expr} {te : TE} {t : TA} {pos : Pos}
theorem pa_nil : PA X [] tNil := fun _ _ _ _ H Q I h => Calls.spliced_nil ⟨[], H, I, .nil, h⟩
theorem pa_cons (ha : PE X e te) (hr : PA X es t) (hs : starEach (e :: es) X.env = (false, eval e X.env) :: starEach es X.env := by rfl) : PA X (e :: es) (tCons te t) := by
  intro pos pins s σ H Q I h
  rw [hs]
  show wpAny _ _ (spliced ((false, eval e X.env) :: backTo pos (starEach es X.env))) _ _ s
  refine Calls.spliced_cons (thn (ha pins s σ H _ I h) fun u s1 ⟨x, H1, I1, r1, q1⟩ => ?_)
  exact thn (hr pos pins s1 σ H1 _ I1 q1) fun us s2 ⟨xs, H2, I2, r2, q2⟩ => ⟨x :: xs, H2, I2, .cons r1 r2, q2⟩

/-- a tuple, a list of written items -/
def tTup (t : TA) : TE := fun σ H Q => t σ H fun xs H1 => xs.length ≤ sizeLine ∧ ∀ p, H1 p = none → Q (.ref p) (upd H1 p (.tup xs))
def tLst (t : TA) : TE := fun σ H Q => t σ H fun xs H1 => xs.length ≤ sizeLine ∧ ∀ p, H1 p = none → Q (.ref p) (upd H1 p (.lst xs))
theorem pe_tup {x1} (h : PA X es t) : PE X (.Tuple es x1 pos) (tTup t) := by
  intro pins s σ H Q I hq
  refine wpAny_Tuple_spliced (thn (h pos pins s σ H _ I hq) fun us s1 ⟨xs, H1, I1, r, z, q⟩ => ⟨by rw [← r.length]; exact z, ?_⟩)
  have hf : H1 s1.heap.objs.size = none := I1.hok.fresh (Nat.le_refl _)
  refine ⟨.ref s1.heap.objs.size, upd H1 s1.heap.objs.size (.tup xs), I1.laid (t' := s1.toks) (fun b u e => Heap.get?_push_of_some _ e) (Nat.le_refl _) ?_, rfl, q _ hf⟩
  exact ⟨z, us, r, 0, Heap.get?_push_size _ rfl⟩
theorem pe_lst (h : PA X es t) : PE X (.List es pos) (tLst t) := by
  intro pins s σ H Q I hq
  refine wpAny_List_spliced (thn (h pos pins s σ H _ I hq) fun us s1 ⟨xs, H1, I1, r, z, q⟩ => ⟨by rw [← r.length]; exact z, ?_⟩)
  have hf : H1 s1.heap.objs.size = none := I1.hok.fresh (Nat.le_refl _)
  refine ⟨.ref s1.heap.objs.size, upd H1 s1.heap.objs.size (.lst xs), I1.laid (t' := s1.toks) (fun b u e => Heap.get?_push_of_some _ e) (Nat.le_refl _) ?_, rfl, q _ hf⟩
  exact ⟨z, us, 0, r, Heap.get?_push_size _ rfl⟩
end

/-! ### what a def promises -/
/-- a def's promise: the bound arguments in the parameters' order, the heap, the wanted end, the wanted exception -/
abbrev Sp := List V → Hp → VK → XK → Prop
/-- how an exception lies behind a call (file 08 gives it): the callers' frames, abstract heap and state ahead of the call, the wish, the exception, the state -/
abbrev CXT := List Env → Hp → Shared → XK → Value → Shared → Prop

/-- the state at a call -/
structure Env0 (P : Program) (w : World) (K : PySem.W.Frag) (mg : Str → Option Value) (base : Heap) (A : Around) (outer : List Env) (s : Shared) (H : Hp) : Prop where
  frames : A.frames = some outer
  mod : Mod K mg base
  bs : ∀ b o, base.get? b = some o → s.heap.get? b = some o ∧ H b = none
  bsz : base.objs.size ≤ s.heap.objs.size
  funs : s.heap.FunFrames base outer
  frf : ∀ b ∈ frs outer, H b = none
  hok : HOk P w H s.heap
  bare : AllBare s.gens
/-- a call's end -/
def CE (outer : List Env) (P : Program) (w : World) (H : Hp) (s : Shared) (Q : VK) (u : Value) (s' : Shared) : Prop :=
  ∃ v H', s'.os = s.os ∧ AllBare s'.gens ∧ Un (frs outer) [] H H' s.heap s'.heap ∧ HOk P w H' s'.heap ∧ RelV v u ∧ Q v H'
def CR (CX : CXT) (outer : List Env) (P : Program) (w : World) (H : Hp) (s : Shared) (Q : VK) (E : XK) (r : Result) (s' : Shared) : Prop :=
  match r with
  | .ok (.ret u) => CE outer P w H s Q u s'
  | .ok _ => False
  | .error e => CX outer H s E e s'
structure FnOk (P : Program) (w : World) (K : PySem.W.Frag) (mg : Str → Option Value) (base : Heap) (CX : CXT) (k : Nat) (f : Addr) (fd : FuncData) (ps : List Str) (sp : Sp) : Prop where
  len : ∀ vs H Q E, sp vs H Q E → vs.length = ps.length
  run : ∀ (A : Around) (outer : List Env) (s : Shared) (H : Hp) (args : Args) (us : List Value) (vs : List V) (Q : VK) (E : XK), Room k A → Env0 P w K mg base A outer s H → BindsTo s fd args (ps.zip us) → Vals vs us → sp vs H Q E →
    codeAny (model P w) A (.call (.ref f) args) (CR CX outer P w H s Q E) s

theorem Env0.make {P : Program} {w : World} {K : PySem.W.Frag} {mg : Str → Option Value} {base : Heap} {A : Around} {outer : List Env} {s : Shared} {H : Hp} (e : Env0 P w K mg base A outer s H) (C : Addr) (us : List Value) (kw : List (Str × Value)) :
    Env0 P w K mg base (A.under (.builtin "type.__call__" ⟨.ref C :: us, kw⟩)) outer s H := ⟨by first | exact e.frames | (simpa [Around.under, Code.envs, Code.isFrame, pushEnvs] using e.frames), e.mod, e.bs, e.bsz, e.funs, e.frf, e.hok, e.bare⟩

section
variable {X : Cx} {pins : List (Addr × Obj)} {σ : St} {H : Hp} {s s' : Shared}
/-- from a body: what a callee wants -/
theorem Inv.env0 (I : Inv X pins σ H s) : Env0 X.prog X.w X.K X.mg X.base X.A X.stack s H :=
  ⟨I.ok.frames, I.ok.mod, I.bs, Nat.le_trans I.ok.bsz I.sz, I.stack, I.stkFree, I.hok, I.bare⟩
/-- behind a call -/
theorem Inv.after {Q : VK} {u : Value} (I : Inv X pins σ H s) (h : CE X.stack X.prog X.w H s Q u s') : EP X pins σ Q u s' := by
  obtain ⟨v, H', os, bare, un, hok, r, q⟩ := h
  obtain ⟨hh, g, d, t, os'⟩ := s'
  obtain rfl : os' = s.os := os
  exact ⟨v, H', I.call (h' := hh) (g' := g) (d' := d) (t' := t) (ch := []) un hok bare (fun b z => absurd z (by simp)), r, q⟩
end

/-! ### calls -/
/-- f(..): the written arguments, then the defaults dvs; E: what is wanted of an exception -/
def tCall (sp : Sp) (dvs : List V) (E : XK) (t : TA) : TE := fun σ H Q => t σ H fun vs H1 => sp (vs ++ dvs) H1 Q E
/-- o.m(..) of an instance of the class at C -/
def tMeth (C : Addr) (m : Str) (sp : Sp) (dvs : List V) (E : XK) (ta : TE) (t : TA) : TE := fun σ H Q => ta σ H fun x H1 => ∃ a dx fs, x = .ref a ∧ H1 a = some (.ins C dx fs) ∧ fs.lookup m = none ∧
  t σ H1 fun vs H2 => sp (x :: (vs ++ dvs)) H2 Q E
/-- C(..): a new instance and its dict, then __init__ -/
def tMake (C : Addr) (sp : Sp) (dvs : List V) (E : XK) (t : TA) : TE := fun σ H Q => t σ H fun vs H1 => ∀ x dx, H1 x = none → H1 dx = none → dx ≠ x →
  sp (.ref x :: (vs ++ dvs)) (upd (upd H1 dx (.own x)) x (.ins C dx [])) (fun v H2 => v = .non ∧ Q (.ref x) H2) E

/-- how the parameters are bound: us the positional arguments, kw the keywords' values by name, ds the defaults that fill up -/
def Binds (K : PySem.W.Frag) (fd : FuncData) (ps : List Str) (ds : List Value) : Prop :=
  ∀ (s : Shared) (us : List Value), K.In s.heap → (us ++ ds).length = ps.length → BindsTo s fd ⟨us, []⟩ (ps.zip (us ++ ds))
/-- every parameter is given -/
theorem Binds.all {K : PySem.W.Frag} {fd : FuncData} {ps : List Str} (h : ∀ us : List Value, us.length = ps.length → bindArgs fd ⟨us, []⟩ = pure (ps.zip us)) : Binds K fd ps [] := fun s us _ hl => by
  rw [List.append_nil] at hl ⊢
  exact .of_eq (h us hl)

/-- an exception of a callee reaches what this body wants of exceptions -/
def Passes (CX : CXT) (X : Cx) (E : XK) : Prop := ∀ (pins : List (Addr × Obj)) (σ : St) (H : Hp) (s : Shared) (e : Value) (s' : Shared), Inv X pins σ H s → CX X.stack H s E e s' → X.xe e s'

section
variable {X : Cx} {CX : CXT} {k : Nat} {f C : Addr} {fd : FuncData} {ps : List Str} {sp : Sp} {dvs : List V} {ds : List Value} {E : XK} {x m : Str} {p pos apos : Pos} {e o : Expr} {es : List Expr} {ta : TE} {t : TA}

/-- the callee runs -/
theorem run_fn {pins : List (Addr × Obj)} {σ : St} {H : Hp} {s : Shared} {Q : VK} {us : List Value} {vs : List V} (F : FnOk X.prog X.w X.K X.mg X.base CX k f fd ps sp) (hr : Room k X.A) (hb : Binds X.K fd ps ds) (hd : Vals dvs ds) (hx : Passes CX X E)
    (I : Inv X pins σ H s) (r : Vals vs us) (h : sp (vs ++ dvs) H Q E) : wpAny (model X.prog X.w) X.A (call (.ref f) us) (EP X pins σ Q) X.xe s := by
  have r2 : Vals (vs ++ dvs) (us ++ ds) := r.append hd
  have hl : (us ++ ds).length = ps.length := by rw [← r2.length]; exact F.len _ _ _ _ h
  refine wpAny_call (codeAny_mono (F.run X.A X.stack s H ⟨us, []⟩ (us ++ ds) (vs ++ dvs) Q E hr I.env0 (hb s us I.kIn hl) r2 h) fun r s' hq => ?_)
  cases r with
  | error e => exact hx pins σ H s e s' I hq
  | ok fl =>
    cases fl with
    | ret u => exact I.after hq
    | next => exact False.elim hq
    | brk => exact False.elim hq
    | cont => exact False.elim hq

theorem pe_call (F : FnOk X.prog X.w X.K X.mg X.base CX k f fd ps sp) (hr : Room k X.A) (hg : Gl X x) (hm : X.mg x = some (.ref f)) (hk : PySem.W.keepIn X.K (.ref f) = true) (hb : Binds X.K fd ps ds) (hd : Vals dvs ds) (hx : Passes CX X E)
    (ha : PA X (e :: es) t) (hdb : (x == ("__debug__" : Str)) = false := by decide) (he : starEach (e :: es) X.env = (false, eval e X.env) :: starEach es X.env := by rfl) (hpl : (backTo pos (starEach es X.env)).any (·.1) = false := by rfl) :
    PE X (.Call (.Name x p) (e :: es) [] pos) (tCall sp dvs E t) := by
  intro pins s σ H Q I h
  refine wpAny_Call_Name_kw (ld_glob I hg hm ?_ hdb)
  refine PySem.W.callWith_K (h₀ := X.base) I.ok.mod.kin hk (thn (ha pos pins s σ H _ I h) fun us s1 ⟨vs, H1, I1, r, q⟩ => ⟨I1.kIn, ?_⟩) he hpl
  exact run_fn F hr hb hd hx I1 r q

/-- o.m(e, ..) -/
theorem pe_meth {pl : Sem Bool} (he : PE X o ta) (c : Cls X.K C) (hm : Meth X.K C m f) (F : FnOk X.prog X.w X.K X.mg X.base CX k f fd ps sp) (hr : Room k X.A) (hb : Binds X.K fd ps ds) (hd : Vals dvs ds) (hx : Passes CX X E) (ha : PA X (e :: es) t)
    (hst : starEach (e :: es) X.env = (false, eval e X.env) :: starEach es X.env := by rfl) (hpl : (backTo pos (starEach es X.env)).any (·.1) = false := by rfl)
    (ht : eval (.Call (.Attribute o m apos) (e :: es) [] pos) X.env = (do
      let ov ← eval o X.env
      standAt apos.atName
      let (f, first) ← holding [ov] (getMethod ov m pl)
      callWith pos f first (backTo pos (starEach (e :: es) X.env)) (backToKw pos (keywordEach [] X.env))) := by rfl) :
    PE X (.Call (.Attribute o m apos) (e :: es) [] pos) (tMeth C m sp dvs E ta t) := by
  intro pins s σ H Q I h
  refine PySem.W.methodCall_KW (pl := pl) (thn (he pins s σ H _ I h) fun u s1 ⟨x, H1, I1, rx, a, dx, fs, ex, ea, l, q⟩ => ?_) ht
  subst ex
  obtain rfl : u = Value.ref a := rx
  refine getmeth_ok I1 ea c hm l ?_
  refine PySem.W.callWith_K (first := [.ref a]) (h₀ := X.base) I.ok.mod.kin hm.kp (thn (ha pos pins s1 σ H1 _ I1 q) fun us s2 ⟨vs, H2, I2, r, q2⟩ => ⟨I2.kIn, ?_⟩) hst hpl
  exact run_fn (us := .ref a :: us) (vs := .ref a :: vs) F hr hb hd hx I2 (.cons rfl r) q2
/-- o.m() -/
theorem pe_meth0 {pl : Sem Bool} (he : PE X o ta) (c : Cls X.K C) (hm : Meth X.K C m f) (F : FnOk X.prog X.w X.K X.mg X.base CX k f fd ps sp) (hr : Room k X.A) (hb : Binds X.K fd ps ds) (hd : Vals dvs ds) (hx : Passes CX X E)
    (ht : eval (.Call (.Attribute o m apos) [] [] pos) X.env = (do
      let ov ← eval o X.env
      standAt apos.atName
      let (f, first) ← holding [ov] (getMethod ov m pl)
      callWith pos f first (backTo pos (starEach [] X.env)) (backToKw pos (keywordEach [] X.env))) := by rfl) :
    PE X (.Call (.Attribute o m apos) [] [] pos) (tMeth C m sp dvs E ta tNil) := by
  intro pins s σ H Q I h
  refine PySem.W.methodCall_KW (pl := pl) (thn (he pins s σ H _ I h) fun u s1 ⟨x, H1, I1, rx, a, dx, fs, ex, ea, l, q⟩ => ?_) ht
  subst ex
  obtain rfl : u = Value.ref a := rx
  refine getmeth_ok I1 ea c hm l ?_
  exact PySem.W.callWith_K0 (first := [.ref a]) I1.kIn hm.kp (run_fn (us := [.ref a]) (vs := [.ref a]) F hr hb hd hx I1 (.cons rfl .nil) q)

/-- what a class must have to be made -/
structure Mk (K : PySem.W.Frag) (C f : Addr) : Prop where
  makes : PySem.W.makesIn K C = true
  init : PySem.W.findIn K (.ref C) "__init__" = some (some (.ref f))
  fn : PySem.W.isFn K (.ref f) = true
  kp : PySem.W.keepIn K (.ref C) = true

theorem run_make {pins : List (Addr × Obj)} {σ : St} {H : Hp} {s : Shared} {Q : VK} {us : List Value} {vs : List V} (M : Mk X.K C f) (F : FnOk X.prog X.w X.K X.mg X.base CX k f fd ps sp) (hr : Room (k + 1) X.A) (hb : Binds X.K fd ps ds) (hd : Vals dvs ds)
    (hx : Passes CX X E) (I : Inv X pins σ H s) (r : Vals vs us)
    (h : ∀ x dx, H x = none → H dx = none → dx ≠ x → sp (.ref x :: (vs ++ dvs)) (upd (upd H dx (.own x)) x (.ins C dx [])) (fun v H2 => v = .non ∧ Q (.ref x) H2) E) :
    wpAny (model X.prog X.w) X.A (call (.ref C) us) (EP X pins σ Q) X.xe s := by
  have hq := h (s.heap.objs.size + 1) s.heap.objs.size (I.hok.fresh (Nat.le_succ _)) (I.hok.fresh (Nat.le_refl _)) (Nat.ne_of_lt (Nat.lt_succ_self _))
  have I2 := Inv.made (C := C) I
  have r2 : Vals (V.ref (s.heap.objs.size + 1) :: (vs ++ dvs)) (Value.ref (s.heap.objs.size + 1) :: (us ++ ds)) := .cons rfl (r.append hd)
  have hl : (Value.ref (s.heap.objs.size + 1) :: us ++ ds).length = ps.length := by
    have e := r2.length
    rw [F.len _ _ _ _ hq] at e
    exact e.symm
  refine wpAny_call (make_map (f := f) I.kIn M.makes M.init (beq_iff_eq.mp M.fn) (codeAny_mono (F.run _ X.stack _ _ ⟨Value.ref (s.heap.objs.size + 1) :: us, []⟩ (Value.ref (s.heap.objs.size + 1) :: (us ++ ds)) _ _ E (hr.make C us [])
    (I2.env0.make C us []) (hb _ (Value.ref (s.heap.objs.size + 1) :: us) I2.kIn hl) r2 hq) fun r s' hq' => ?_))
  cases r with
  | error e => exact hx pins σ _ _ e s' I2 hq'
  | ok fl =>
    cases fl with
    | ret u =>
      obtain ⟨v, H', I3, rv, ev, q3⟩ := I2.after hq'
      subst ev
      exact ⟨rv, ⟨V.ref (s.heap.objs.size + 1), H', I3, rfl, q3⟩⟩
    | next => exact False.elim hq'
    | brk => exact False.elim hq'
    | cont => exact False.elim hq'
theorem pe_make (M : Mk X.K C f) (F : FnOk X.prog X.w X.K X.mg X.base CX k f fd ps sp) (hr : Room (k + 1) X.A) (hg : Gl X x) (hm : X.mg x = some (.ref C)) (hb : Binds X.K fd ps ds) (hd : Vals dvs ds) (hx : Passes CX X E)
    (ha : PA X (e :: es) t) (hdb : (x == ("__debug__" : Str)) = false := by decide) (he : starEach (e :: es) X.env = (false, eval e X.env) :: starEach es X.env := by rfl) (hpl : (backTo pos (starEach es X.env)).any (·.1) = false := by rfl) :
    PE X (.Call (.Name x p) (e :: es) [] pos) (tMake C sp dvs E t) := by
  intro pins s σ H Q I h
  refine wpAny_Call_Name_kw (ld_glob I hg hm ?_ hdb)
  refine PySem.W.callWith_K (h₀ := X.base) I.ok.mod.kin M.kp (thn (ha pos pins s σ H _ I h) fun us s1 ⟨vs, H1, I1, r, q⟩ => ⟨I1.kIn, ?_⟩) he hpl
  exact run_make M F hr hb hd hx I1 r q
theorem pe_make0 (M : Mk X.K C f) (F : FnOk X.prog X.w X.K X.mg X.base CX k f fd ps sp) (hr : Room (k + 1) X.A) (hg : Gl X x) (hm : X.mg x = some (.ref C)) (hb : Binds X.K fd ps ds) (hd : Vals dvs ds) (hx : Passes CX X E)
    (hdb : (x == ("__debug__" : Str)) = false := by decide) : PE X (.Call (.Name x p) [] [] pos) (tMake C sp dvs E tNil) := by
  intro pins s σ H Q I h
  refine wpAny_Call_Name_kw (ld_glob I hg hm ?_ hdb)
  exact PySem.W.callWith_K0 I.kIn M.kp (run_make (us := []) M F hr hb hd hx I .nil h)
end

/-! ### keywords -/
/-- the values of the keywords, from the left -/
def PK (X : Cx) (kws : List Keyword) (t : TA) : Prop :=
  ∀ (pos : Pos) (pins : List (Addr × Obj)) (s : Shared) (σ : St) (H : Hp) (Q : List V → Hp → Prop), Inv X pins σ H s → t σ H Q → wpAny (model X.prog X.w) X.A (evalAll ((backToKw pos (keywordEach kws X.env)).map (·.2))) (AP X pins σ Q) X.xe s
section
variable {X : Cx} {CX : CXT} {k : Nat} {f C : Addr} {fd : FuncData} {ps ks : List Str} {sp : Sp} {E : XK} {x m : Str} {p pos apos kpos : Pos} {e o : Expr} {es : List Expr} {kws : List Keyword} {te ta : TE} {t tk : TA} {nm : Option Str}
theorem pk_nil : PK X [] tNil := fun _ _ _ _ H Q I h => wpAny_evalAll_nil ⟨[], H, I, .nil, h⟩
theorem pk_cons (ha : PE X e te) (hr : PK X kws t) : PK X (⟨nm, e, kpos⟩ :: kws) (tCons te t) := by
  intro pos pins s σ H Q I h
  show wpAny _ _ (evalAll ((do let v ← eval e X.env; standAt pos; pure v) :: (backToKw pos (keywordEach kws X.env)).map (·.2))) _ _ s
  refine wpAny_evalAll_cons (wpAny_bind (thn (ha pins s σ H _ I h) fun u s1 ⟨x, H1, I1, r1, q1⟩ => wpAny_bind (wpAny_standAt (wpAny_pure ?_))))
  exact thn (hr pos pins s1 σ H1 _ I1 q1) fun us s2 ⟨xs, H2, I2, r2, q2⟩ => ⟨x :: xs, H2, I2, .cons r1 r2, q2⟩

variable {g : List Value → List Value → List Value} {gV : List V → List V → List V}
end

/-! ### a def's body keeps its promise -/
/-- names: the parameters first -/
structure FnScope (N P : List Str) (sc : Scope) : Prop where
  kind : sc.kind = .function
  co : sc.isCoroutine = false
  gen : sc.isGenerator = false
  nd : N.Nodup
  pre : N.take P.length = P
  par : ∀ x ∈ P, sc.names.lookup x = some .local ∨ sc.names.lookup x = some .cell
  nofree : ∀ y ∈ sc.names, y.2 ≠ .free

theorem bindL_out {kindOf : Str → Option NameKind} {x : Str} : ∀ {binds : List (Str × Value)} {m : Str → Option Value}, (∀ v, (x, v) ∉ binds) → bindL kindOf binds m x = m x
  | [], _, _ => rfl
  | (n, v) :: r, m, h => by
    unfold bindL
    rw [bindL_out fun w hw => h w (List.mem_cons_of_mem _ hw)]
    split
    · have : x ≠ n := by rintro rfl; exact h v List.mem_cons_self
      simp [this]
    · rfl
theorem bindC_out {kindOf : Str → Option NameKind} {x : Str} : ∀ {binds : List (Str × Value)} {m : Str → Option Value}, (∀ v, (x, v) ∉ binds) → bindC kindOf binds m x = m x
  | [], _, _ => rfl
  | (n, v) :: r, m, h => by
    unfold bindC
    rw [bindC_out fun w hw => h w (List.mem_cons_of_mem _ hw)]
    split
    · rfl
    · have : x ≠ n := by rintro rfl; exact h v List.mem_cons_self
      simp [this]
theorem bindL_get {kindOf : Str → Option NameKind} {x : Str} {v : Value} : ∀ {P : List Str} {vs : List Value} {i : Nat} {m : Str → Option Value}, P.Nodup → P[i]? = some x → vs[i]? = some v → kindOf x = some .local →
    bindL kindOf (P.zip vs) m x = some v
  | [], _, _, _, _, h, _, _ => by simp at h
  | _ :: _, [], _, _, _, _, h, _ => by simp at h
  | p :: P, w :: vs, 0, m, nd, h1, h2, hk => by
    simp at h1 h2; subst h1; subst h2
    show bindL kindOf ((p, w) :: P.zip vs) m p = _
    unfold bindL
    rw [bindL_out fun v hv => (List.nodup_cons.mp nd).1 (List.of_mem_zip hv).1, if_pos hk]
    simp
  | p :: P, w :: vs, i + 1, m, nd, h1, h2, hk => by
    show bindL kindOf ((p, w) :: P.zip vs) m x = _
    unfold bindL
    exact bindL_get (i := i) (List.nodup_cons.mp nd).2 (by simpa using h1) (by simpa using h2) hk
theorem bindC_get {kindOf : Str → Option NameKind} {x : Str} {v : Value} : ∀ {P : List Str} {vs : List Value} {i : Nat} {m : Str → Option Value}, P.Nodup → P[i]? = some x → vs[i]? = some v → kindOf x ≠ some .local →
    bindC kindOf (P.zip vs) m x = some v
  | [], _, _, _, _, h, _, _ => by simp at h
  | _ :: _, [], _, _, _, _, h, _ => by simp at h
  | p :: P, w :: vs, 0, m, nd, h1, h2, hk => by
    simp at h1 h2; subst h1; subst h2
    show bindC kindOf ((p, w) :: P.zip vs) m p = _
    unfold bindC
    rw [bindC_out fun v hv => (List.nodup_cons.mp nd).1 (List.of_mem_zip hv).1, if_neg hk]
    simp
  | p :: P, w :: vs, i + 1, m, nd, h1, h2, hk => by
    show bindC kindOf ((p, w) :: P.zip vs) m x = _
    unfold bindC
    exact bindC_get (i := i) (List.nodup_cons.mp nd).2 (by simpa using h1) (by simpa using h2) hk

/-- the names' values at the entry -/
def start (N : List Str) (vs : List V) : St := vs.map some ++ List.replicate (N.length - vs.length) none

/-- the context of a def's body, at its entry; an exception leaves the frame, then lies as CX says -/
def cxOf (CX : CXT) (P : Program) (w : World) (K : PySem.W.Frag) (mg : Str → Option Value) (base : Heap) (N : List Str) (qual : Str) (scope : Scope) (f : Addr) (cd : Value) (A : Around) (outer : List Env) (s : Shared) (H : Hp) (E : XK) : Cx where
  prog := P
  w := w
  K := K
  mg := mg
  base := base
  A := A.deeper (envOfC qual scope s.heap.objs.size f cd)
  N := N
  s_0 := s
  H_0 := H
  env := envOfC qual scope s.heap.objs.size f cd
  outer := outer
  stack := envOfC qual scope s.heap.objs.size f cd :: outer
  ex := []
  calm := true
  fn := fun _ => true
  pn := []
  xe := fun e s' => wpAny (model P w) (A.deeper (envOfC qual scope s.heap.objs.size f cd)) (leaving (envOfC qual scope s.heap.objs.size f cd) e) (fun _ s'' => CX outer H s E e s'') (fun e' s'' => CX outer H s E e' s'') s'

theorem cell_has {sc : Scope} {n : Nat} {x : Str} (h : sc.names.lookup x = some .cell) : ∃ c, (cellsFrom n sc.names []).lookup x = some c := by
  have q := PySem.W.cellsFrom_some sc.names n [] (.inl h)
  exact Option.isSome_iff_exists.mp q

theorem inv_start {CX : CXT} {P : Program} {w : World} {K : PySem.W.Frag} {mg : Str → Option Value} {base : Heap} {N ps : List Str} {qual : Str} {scope : Scope} {f : Addr} {cd : Value} {A : Around} {outer : List Env} {s s1 : Shared} {H : Hp} {E : XK} {us : List Value} {vs : List V}
    (S : FnScope N ps scope) (hd : A.handled = none) (e0 : Env0 P w K mg base A outer s H) (hl : vs.length = ps.length) (r : Vals vs us)
    (x : InCallC s s.heap.objs.size (bindL (envOfC qual scope s.heap.objs.size f cd).kindOf (ps.zip us) fun _ => none) (cellsFrom (s.heap.objs.size + 1) scope.names []) (bindC (envOfC qual scope s.heap.objs.size f cd).kindOf (ps.zip us) fun _ => none) s1) :
    Inv (cxOf CX P w K mg base N qual scope f cd A outer s H E) [] (start N vs) H s1 := by
  have hpl : ps.length ≤ N.length := by have := congrArg List.length S.pre; rw [List.length_take] at this; omega
  obtain ⟨h1, tk, rfl, hk⟩ := x.done
  have noA : ∀ b : Addr, b ∉ (cxOf CX P w K mg base N qual scope f cd A outer s H E).ex := fun b z => absurd (show b ∈ ([] : List Addr) from z) (by simp)
  refine ⟨⟨e0.mod, S.kind, rfl, rfl, Nat.le_refl _, fun y z c h1 h2 => ?_, fun y hy => ?_, fun y c _ h => ?_, fun _ => hd, Around.frames_deeper e0.frames, .inr ⟨rfl, rfl⟩, fun b z => absurd z (noA b), e0.bs, e0.bsz, fun b _ _ => noA b, fun b z => absurd z (noA b), e0.funs, e0.frf⟩,
    rfl, e0.bare, Un.kept hk, ⟨_, x.toInCall.ns, fun i y v h1 h2 h3 => ?_⟩, fun y c h => ⟨_, x.cell y c h⟩, e0.hok.fresh (Nat.le_refl _), fun y c h => ?_, fun p hp => absurd (show p ∈ ([] : List (Addr × Obj)) from hp) (by simp), e0.hok.kept hk, ?_⟩
  · exact name_of_addr x.apart (PySem.mem_of_lookup h1) (PySem.mem_of_lookup h2)
  · have hy : scope.names.lookup y = some .cell ∨ scope.names.lookup y = some .free := hy
    rcases hy with hy | hy
    · exact cell_has hy
    · exact absurd rfl (S.nofree _ (PySem.mem_of_lookup hy))
  · exact Nat.le_of_lt (x.above y c (PySem.mem_of_lookup h))
  · have hi : i < vs.length := by
      unfold start at h2
      by_cases hi : i < vs.length
      · exact hi
      · rw [List.getElem?_append_right (by simpa using hi)] at h2
        rw [List.getElem?_replicate] at h2
        split at h2 <;> cases h2
    have ha : vs[i]? = some v := by
      unfold start at h2
      rw [List.getElem?_append_left (by simpa using hi), List.getElem?_map] at h2
      cases e : vs[i]? with
      | none => rw [e] at h2; cases h2
      | some a => rw [e] at h2; cases h2; rfl
    obtain ⟨u, hu, rv⟩ := r.get ha
    have hp : ps[i]? = some y := by
      rw [← S.pre, List.getElem?_take_of_lt (by omega)]; exact h1
    have ndP : ps.Nodup := by rw [← S.pre]; exact S.nd.sublist (List.take_sublist _ _)
    refine ⟨u, rv, ?_⟩
    rcases S.par y (List.mem_of_getElem? hp) with k | k
    · exact .inl ⟨k, bindL_get ndP hp hu k⟩
    · obtain ⟨c, e⟩ := cell_has (n := s.heap.objs.size + 1) k
      refine .inr ⟨.inl k, c, e, ?_⟩
      have q := x.cell y c e
      rw [bindC_get ndP hp hu (by show scope.names.lookup y ≠ _; rw [k]; decide)] at q
      exact q
  · exact e0.hok.fresh (Nat.le_of_lt (x.above y c (PySem.mem_of_lookup h)))
  · unfold start
    show _ = N.length
    rw [List.length_append, List.length_map, List.length_replicate]
    omega

/-- THE RULE: a def (or a method) of the text, by its body. The body's reading t is chosen for each entry; it is run at the parameters' values -/
theorem fn_of {CX : CXT} {P : Program} {w : World} {K : PySem.W.Frag} {mg : Str → Option Value} {base : Heap} {k : Nat} {f : Addr} {name qual : Str} {params : Arguments} {body : List Stmt} {scope : Scope} {dV kV doc pm cdv ct oc : Value} {an od : Option Addr}
    {osl : Array (Option Value)} {N ps : List Str} {sp : Sp} (lk : K.lookup f = some ⟨oc, od, .func (PySem.W.fnOf name qual params body scope dV kV doc pm an cdv ct), osl⟩) (hcd : PySem.W.codeIn K cdv qual = true) (S : FnScope N ps scope)
    (len : ∀ vs H Q E, sp vs H Q E → vs.length = ps.length)
    (hbody : ∀ (A : Around) (outer : List Env) (s : Shared) (H : Hp) (vs : List V) (Q : VK) (E : XK), Room k (A.deeper (envOfC qual scope s.heap.objs.size f cdv)) → sp vs H Q E →
      ∃ t, PSs (cxOf CX P w K mg base N qual scope f cdv A outer s H E) body t ∧ t { nx := fun _ H' => Q .non H', rt := Q } (start N vs) H) :
    FnOk P w K mg base CX (k + 1) f (PySem.W.fnOf name qual params body scope dV kV doc pm an cdv ct) ps sp := by
  refine ⟨len, fun A outer s H args us vs Q E hr e0 hb r hsp => ?_⟩
  have hl := len _ _ _ _ hsp
  have KX : K.In s.heap := e0.mod.kin.keeps fun b o e => (e0.bs b o e).1
  have lim : s.heap.NoLimit := e0.mod.nolimit.keeps fun b o e => (e0.bs b o e).1
  have hkind : ∀ y ∈ ps.zip us, scope.names.lookup y.1 = some .local ∨ (scope.names.lookup y.1 = some .cell ∧ ((cellsFrom (s.heap.objs.size + 1) scope.names []).lookup y.1).isSome = true) := fun ⟨n, v⟩ hy => by
    rcases S.par n (List.of_mem_zip hy).1 with q | q
    · exact .inl q
    · exact .inr ⟨q, PySem.W.cellsFrom_some _ _ _ (.inl q)⟩
  refine codeAny_call_function hr.depth (KX _ _ lk) rfl S.co S.gen rfl (PySem.W.codeRec_of KX hcd) (hb _ _ _ _ ?_)
  refine wpAny_newFunctionEnv_cells S.kind hkind fun env he s1 x => ?_
  subst he
  refine ⟨lim.keeps x.toInCall.keep, codeAny_func ?_⟩
  obtain ⟨t, ht, hq⟩ := hbody A outer s H vs Q E (hr.deeper _) hsp
  have I : Inv (cxOf CX P w K mg base N qual scope f cdv A outer s H E) [] (start N vs) H s1 := inv_start S hr.hd e0 hl r x
  refine wpAny_mono (ht [] s1 (start N vs) H _ I hq) (fun fl s' hs => ?_) fun e s' hs => hs
  have fin : ∀ {σ' : St} {H' : Hp} {v : V} {u : Value}, Inv (cxOf CX P w K mg base N qual scope f cdv A outer s H E) [] σ' H' s' → RelV v u → Q v H' → CE outer P w H s Q u s' :=
    fun {σ' H' v u} J rv q => ⟨v, H', J.os, J.bare, J.base, J.hok, rv, q⟩
  cases fl with
  | ret u =>
    obtain ⟨v, σ', H', J, rv, q⟩ := hs
    exact fin J rv q
  | next =>
    obtain ⟨σ', H', J, q⟩ := hs
    exact fin (v := V.non) (u := Value.none) J rfl q
  | brk =>
    obtain ⟨_, _, _, q⟩ := hs
    exact False.elim q
  | cont =>
    obtain ⟨_, _, _, q⟩ := hs
    exact False.elim q
end L2

namespace L2
open PySem PySem.Spec PyProof.Rows
section
variable {X : Cx} {x : Str} {p pos : Pos} {e : Expr} {es : List Expr} {t : TA} {id T : String} {r : List V → Hp → VK → Prop}

def tCB (r : List V → Hp → VK → Prop) (t : TA) : TE := fun σ H Q => t σ H fun vs H1 => r vs H1 Q
/-- f(e, ..), f a built-in function -/
theorem pe_callB (hc : CallR X (.builtin id) r) (hg : Gl X x) (hm : X.mg x = none) (hv : bootBuiltins x = some (.builtin id)) (ha : PA X (e :: es) t) (hn : x ≠ "__name__" := by decide) (hdb : (x == ("__debug__" : Str)) = false := by decide)
    (he : starEach (e :: es) X.env = (false, eval e X.env) :: starEach es X.env := by rfl) (hpl : (backTo pos (starEach es X.env)).any (·.1) = false := by rfl) : PE X (.Call (.Name x p) (e :: es) [] pos) (tCB r t) := by
  intro pins s σ H Q I h
  refine wpAny_Call_Name_kw (ld_blt I hg hm hv ?_ hn hdb)
  exact PyProof.Rows.callWith_builtin1 (thn (ha pos pins s σ H _ I h) fun us s1 ⟨vs, H1, I1, r1, q1⟩ => hc pins s1 σ H1 vs us Q I1 r1 q1) he hpl
/-- T(e, ..), T a built-in type -/
theorem pe_callTy (hc : CallR X (.type T) r) (hg : Gl X x) (hm : X.mg x = none) (hv : bootBuiltins x = some (.type T)) (ha : PA X (e :: es) t) (hn : x ≠ "__name__" := by decide) (hdb : (x == ("__debug__" : Str)) = false := by decide)
    (he : starEach (e :: es) X.env = (false, eval e X.env) :: starEach es X.env := by rfl) (hpl : (backTo pos (starEach es X.env)).any (·.1) = false := by rfl) : PE X (.Call (.Name x p) (e :: es) [] pos) (tCB r t) := by
  intro pins s σ H Q I h
  refine wpAny_Call_Name_kw (ld_blt I hg hm hv ?_ hn hdb)
  exact PyProof.Rows.callWith_type1 (thn (ha pos pins s σ H _ I h) fun us s1 ⟨vs, H1, I1, r1, q1⟩ => hc pins s1 σ H1 vs us Q I1 r1 q1) he hpl
end
end L2

namespace HT
open PySem PyProof.Rows



section
open PySem.SeqAt
open PySem.AutoSeq1 (wpAny_loadPart')
open PySem.MeetsSeq PySem.MeetsSeq2 PySem.MeetsSeq3

end

section
variable {prog : Program} {w : World} {A : Around} {E : Value → Shared → Prop} {s : Shared}


/-- t + u, t not empty -/
theorem cat_tup {t b : Addr} {vs ws : List Value} {Q : Value → Shared → Prop} (ht : IsTup s.heap t vs.toArray) (hb : IsTup s.heap b ws.toArray) (hv : vs ≠ [])
    (h1 : ws = [] → Q (.ref t) s) (h2 : ws ≠ [] → Q (.ref s.heap.objs.size) { s with heap := s.heap.push { cls := .type "tuple", data := .seq (vs ++ ws).toArray } })
    (hsz : vs.length + ws.length ≤ sizeLine) : wpAny (model prog w) A (binaryOp .Add (.ref t) (.ref b)) Q E s := by
  obtain ⟨⟨cls, dd, data, sl⟩, ho, hc, n, hd⟩ := id ht
  obtain ⟨⟨cls2, dd2, data2, sl2⟩, ho2, hc2, n2, hd2⟩ := id hb
  simp only at hc hd hc2 hd2
  subst hc hd hc2 hd2
  have e : vs.toArray ++ ws.toArray = (vs ++ ws).toArray := by simp
  by_cases hw : ws = []
  · exact concat_meets ⟨_, ho, rfl⟩ ⟨_, ho2, rfl⟩ noFill_tuple_add seq_tuple_add PySem.F.slot_tuple_add PySem.F.entry_tuple_add (PySem.F.args_tuple_add_2 _ _)
      (tuple_addW1 t b vs.toArray ws.toArray n n2 dd dd2 sl sl2 (by simpa using hv) (by simp [hw])) ⟨ho, ho2, h1 hw⟩
  · refine concat_meets ⟨_, ho, rfl⟩ ⟨_, ho2, rfl⟩ noFill_tuple_add seq_tuple_add PySem.F.slot_tuple_add PySem.F.entry_tuple_add (PySem.F.args_tuple_add_2 _ _)
      (tuple_addW2 t b vs.toArray ws.toArray n n2 dd dd2 sl sl2 (by simpa using hv) (by simpa using hw) (by rw [List.size_toArray, List.size_toArray]; exact hsz)) ⟨ho, ho2, ?_⟩
    rw [e]
    exact h2 hw

/-! ### t[a:b], not the whole -/
/-- a slice's bound as a place among n (d where it is left out) -/
def sIx (n d : Nat) : Option Int → Nat
  | none => d
  | some v => if v < 0 then (v + (n : Int)).toNat else min v.toNat n
theorem sIx_none (n d : Nat) : sIx n d none = d := rfl
theorem sIx_nat (n d k : Nat) : sIx n d (some (k : Int)) = min k n := by
  show (if (k : Int) < 0 then ((k : Int) + (n : Int)).toNat else min (k : Int).toNat n) = min k n
  rw [if_neg (by omega), Int.toNat_natCast]
theorem sIx_le (n d : Nat) (hd : d ≤ n) (o : Option Int) : sIx n d o ≤ n := by
  cases o with
  | none => exact hd
  | some v =>
    show (if v < 0 then (v + (n : Int)).toNat else min v.toNat n) ≤ n
    by_cases hv : v < 0
    · rw [if_pos hv]; omega
    · rw [if_neg hv]; exact Nat.min_le_right _ _
theorem clip_eq (v : Int) (n d : Nat) : (if v < 0 then max (v + (n : Int)) 0 else min v (n : Int)) = ((sIx n d (some v) : Nat) : Int) := by
  show (if v < 0 then max (v + (n : Int)) 0 else min v (n : Int)) = (((if v < 0 then (v + (n : Int)).toNat else min v.toNat n) : Nat) : Int)
  by_cases hv : v < 0
  · simp only [if_pos hv]; omega
  · simp only [if_neg hv]; omega
theorem adjust_gen (lo hi : Option Int) (n : Nat) : Builtin.Slice.sliceAdjust lo hi 1 (n : Int) = (((sIx n 0 lo : Nat) : Int), ((sIx n n hi : Nat) : Int)) := by
  have h1 : ¬ ((1 : Int) < 0) := by omega
  unfold Builtin.Slice.sliceAdjust
  simp only [h1, if_false]
  refine Prod.ext ?_ ?_
  · cases lo with
    | none => rfl
    | some v => exact clip_eq v n 0
  · cases hi with
    | none => rfl
    | some v => exact clip_eq v n n
theorem places_gen (i j : Nat) : Builtin.Slice.slicePlaces (i : Int) (j : Int) 1 = j - i := by
  unfold Builtin.Slice.slicePlaces
  have h1 : (1 : Int) > 0 := by omega
  simp only [h1, if_true, Int.ediv_one]
  split <;> omega
theorem slicePart_ {v : Value} {o : Option Int} {Q : Option Int → Shared → Prop} (p : IsPart v o) (h : Q o s) : wpAny (model prog w) A (Builtin.Slice.slicePartIndex v) Q E s := by
  cases p with
  | none => exact slicePart_none h
  | int i t => exact slicePart_int h
theorem sliceApplied_gen {sl : Addr} {vl vu : Value} {lo hi : Option Int} {n : Nat} {Q : Int × Int × Nat → Shared → Prop} (hs : s.heap.IsSliceOf sl vl vu .none) (pl : IsPart vl lo) (pu : IsPart vu hi)
    (h : Q (((sIx n 0 lo : Nat) : Int), 1, sIx n n hi - sIx n 0 lo) s) : wpAny (model prog w) A (Builtin.Slice.sliceApplied (.ref sl) (pure (n : Int))) Q E s := by
  obtain ⟨os, hos, hcs, hds⟩ := id hs
  unfold Builtin.Slice.sliceApplied Builtin.Slice.sliceFields
  refine wpAny_bind (wpAny_bind (wpAny_field hos hds (x := vl) rfl (wpAny_bind (wpAny_field hos hds (x := vu) rfl (wpAny_bind (wpAny_field hos hds (x := .none) rfl (wpAny_pure ?_)))))))
  refine wpAny_bind (slicePart_none ?_)
  show wpAny _ _ (if ((1 : Int) == 0) = true then _ else _) _ _ s
  rw [if_neg (by decide)]
  refine wpAny_bind (slicePart_ pl (wpAny_bind (slicePart_ pu (wpAny_bind (wpAny_pure ?_)))))
  show wpAny _ _ (match Builtin.Slice.sliceAdjust lo hi 1 (n : Int) with | (lo, hi) => pure (lo, (1 : Int), Builtin.Slice.slicePlaces lo hi 1)) _ _ s
  rw [adjust_gen lo hi n]
  show wpAny _ _ (pure (((sIx n 0 lo : Nat) : Int), (1 : Int), Builtin.Slice.slicePlaces ((sIx n 0 lo : Nat) : Int) ((sIx n n hi : Nat) : Int) 1)) _ _ s
  rw [places_gen]
  exact wpAny_pure h
theorem pick_gen (xs : Array Value) (i k : Nat) : ((List.range k).filterMap fun (m : Nat) => xs[((i : Int) + (m : Int) * 1).toNat]?).toArray = ((xs.toList.drop i).take k).toArray := by
  have e : (fun (m : Nat) => xs[((i : Int) + (m : Int) * 1).toNat]?) = fun m => xs[i + m]? := by
    funext m
    have : ((i : Int) + (m : Int) * 1).toNat = i + m := by omega
    rw [this]
  rw [e]
  have := pick_run xs i k
  rw [List.filterMap_map] at this
  have e2 : ((fun x => xs[x]?) ∘ fun x => i + x) = fun m => xs[i + m]? := rfl
  rw [e2] at this
  rw [this]

theorem getItem_tuple_cut {t sl : Addr} {items : Array Value} {vl vu : Value} {lo hi : Option Int} {Q : Value → Shared → Prop} (ht : IsTup s.heap t items) (hs : s.heap.IsSliceOf sl vl vu .none) (pl : IsPart vl lo) (pu : IsPart vu hi)
    (hw : ¬ (sIx items.size 0 lo = 0 ∧ sIx items.size items.size hi = items.size))
    (h : Q (.ref s.heap.objs.size) { s with heap := s.heap.push { cls := .type "tuple", data := .seq ((items.toList.drop (sIx items.size 0 lo)).take (sIx items.size items.size hi - sIx items.size 0 lo)).toArray } })
    (hsz : items.size ≤ sizeLine) : wpAny (model prog w) A (getItem (.ref t) (.ref sl)) Q E s := by
  have htake : sizeOk (.seq ((items.toList.drop (sIx items.size 0 lo)).take (sIx items.size items.size hi - sIx items.size 0 lo)).toArray) := by
    show ((items.toList.drop (sIx items.size 0 lo)).take (sIx items.size items.size hi - sIx items.size 0 lo)).toArray.size ≤ sizeLine
    rw [List.size_toArray, List.length_take, List.length_drop, Array.length_toList]
    omega
  have hj : sIx items.size items.size hi ≤ items.size := sIx_le _ _ (Nat.le_refl _) hi
  obtain ⟨os, hos, hcs, hds⟩ := id hs
  have hTs : s.TypeIs (.ref sl) "slice" := ⟨os, hos, hcs⟩
  unfold getItem
  try with_reducible refine wpAny_holding ?_
  first | refine wpAny_bind (wpAny_pure ?_) | skip
  refine wpAny_bind (wpAny_sequenceKey ht.typeIs (by decide) ?_)
  refine wpAny_bind (wpAny_callSpecial?_slot (name := Str.ofString "__getitem__") ht.typeIs PyProof.Rows.slot_tuple_getitem
    (wpAny_call_entry PyProof.Rows.slot_tuple_getitem ht.typeIs entry_tuple_getitem ?_ (args_tuple_getitem _ _)))
  show wpAny _ _ (Builtin.Tuple.tupleItemsOf (.ref t) >>= _) _ _ s
  refine wpAny_bind (tupleItemsOf_ ht ?_)
  refine wpAny_bind (wpAny_typeOf hTs ?_)
  rw [if_pos (by decide)]
  refine wpAny_bind (sliceApplied_gen hs pl pu ?_)
  have hno : ¬ ((((sIx items.size 0 lo : Nat) : Int) == 0 && (1 : Int) == 1 && (sIx items.size items.size hi - sIx items.size 0 lo) == items.size) = true) := by
    intro q
    rw [Bool.and_eq_true, Bool.and_eq_true] at q
    have q1 : ((sIx items.size 0 lo : Nat) : Int) = 0 := eq_of_beq q.1.1
    have q2 : sIx items.size items.size hi - sIx items.size 0 lo = items.size := eq_of_beq q.2
    exact hw ⟨by omega, by omega⟩
  show wpAny _ _ (if (((sIx items.size 0 lo : Nat) : Int) == 0 && (1 : Int) == 1 && (sIx items.size items.size hi - sIx items.size 0 lo) == items.size) = true then _ else _) _ _ s
  rw [if_neg hno, pick_gen]
  first
    | exact wpAny_bind (m := Builtin.Tuple.tupleExact _) (wpAny_newObj_type (wpAny_pure ⟨_, rfl, wpAny_pure h⟩) htake)
    | exact wpAny_bind (m := Builtin.Tuple.tupleExact _) (wpAny_newObj_type (wpAny_bind (wpAny_pure (wpAny_pure ⟨_, rfl, wpAny_pure h⟩))) htake)
    | exact wpAny_bind (wpAny_bind (m := Builtin.Tuple.tupleExact _) (wpAny_newObj_type (wpAny_pure (wpAny_pure ⟨_, rfl, wpAny_pure h⟩)) htake))
    | exact wpAny_bind (wpAny_bind (m := Builtin.Tuple.tupleExact _) (wpAny_newObj_type (wpAny_pure ⟨_, rfl, wpAny_pure h⟩) htake))
end
end HT

namespace L2
open PySem PySem.Spec PyProof.Rows

/-! ### the parts of a slice -/
abbrev TO := St → Hp → (Option Int → Hp → Prop) → Prop
/-- a slice's part (left out, or an int) -/
def PO (X : Cx) (e : Option Expr) (t : TO) : Prop :=
  ∀ (pins : List (Addr × Obj)) (s : Shared) (σ : St) (H : Hp) (Q : Option Int → Hp → Prop), Inv X pins σ H s → t σ H Q →
    wpAny (model X.prog X.w) X.A (evalPart e X.env) (fun u s' => ∃ o H', Inv X pins σ H' s' ∧ IsPart u o ∧ Q o H') X.xe s
def tNoPart : TO := fun _ H Q => Q none H
def tPart (t : TE) : TO := fun σ H Q => t σ H fun x H1 => ∃ i, x = .int i ∧ Q (some i) H1


section
variable {X : Cx} {e : Expr} {te : TE} {lo hi : Option Expr} {tl th : TO} {pos p2 : Pos}

theorem po_none : PO X none tNoPart := by
  intro pins s σ H Q I h
  rw [evalPart_none]
  exact wpAny_pure ⟨none, H, I, .none, h⟩
theorem po_some (h : PE X e te) : PO X (some e) (tPart te) := by
  intro pins s σ H Q I hw
  rw [evalPart_some]
  refine thn (h pins s σ H _ I hw) fun u s1 ⟨x, H1, I1, r1, q1⟩ => ?_
  obtain ⟨i, rfl, q⟩ := q1
  obtain ⟨t, rfl⟩ := r1
  exact ⟨some i, H1, I1, .int i t, q⟩

/-- what a slice of a value is, by values: the slice object stands at sl -/
def SlR (X : Cx) (r : V → Option Int → Option Int → Hp → VK → Prop) : Prop :=
  ∀ (pins : List (Addr × Obj)) (s : Shared) (σ : St) (H : Hp) (x : V) (v vl vu : Value) (lo hi : Option Int) (sl : Addr) (Q : VK), Inv X pins σ H s → RelV x v → s.heap.IsSliceOf sl vl vu .none → IsPart vl lo → IsPart vu hi → r x lo hi H Q →
    ∃ T id, typeLookup (.type T) "__getitem__" = pure (some (.builtin id)) ∧ s.TypeIs v T ∧ wpAny (model X.prog X.w) X.A (getItem v (.ref sl)) (EP X pins σ Q) X.xe s
def tSl (r : V → Option Int → Option Int → Hp → VK → Prop) (te : TE) (tl th : TO) : TE := fun σ H Q => te σ H fun x H1 => tl σ H1 fun l H2 => th σ H2 fun u H3 => r x l u H3 Q
/-- a[lo:hi], any a -/
theorem pe_slice {r : V → Option Int → Option Int → Hp → VK → Prop} (hr : SlR X r) (he : PE X e te) (hl : PO X lo tl) (hu : PO X hi th) : PE X (.Subscript e (.Slice lo hi none p2) pos) (tSl r te tl th) := by
  intro pins s σ H Q I h
  refine Subscript_ (thn (he pins s σ H _ I h) fun v s1 ⟨x, H1, I1, r1, q1⟩ => ?_)
  refine wpAny_Slice (thn (hl pins s1 σ H1 _ I1 q1) fun vl s2 ⟨l, H2, I2, pl, q2⟩ => thn (hu pins s2 σ H2 _ I2 q2) fun vu s3 ⟨u, H3, I3, pu, q3⟩ => ?_)
  rw [evalPart_none]
  refine wpAny_pure ?_
  have I4 : Inv X pins σ H3 { s3 with heap := s3.heap.push { cls := .type "slice", data := .fields #[vl, vu, .none] } } := I3.kept (t' := s3.toks) fun b ob q => Heap.get?_push_of_some _ q
  obtain ⟨T, id, hT, ht, hg⟩ := hr pins { s3 with heap := s3.heap.push { cls := .type "slice", data := .fields #[vl, vu, .none] } } σ H3 x v vl vu l u s3.heap.objs.size Q I4 r1 (Heap.IsSliceOf.new ..) pl pu q3
  show wpAny (model X.prog X.w) X.A (subscriptTail e (.Slice lo hi none p2) v (.ref s3.heap.objs.size)) (EP X pins σ Q) X.xe { s3 with heap := s3.heap.push { cls := .type "slice", data := .fields #[vl, vu, .none] } }
  exact tail_any (ops := [.ref s3.heap.objs.size, v]) ht hT hg (by with_unfolding_all rfl)

/-- the items of xs[lo:hi] -/
def cutV (xs : List V) (lo hi : Option Int) : List V := (xs.drop (HT.sIx xs.length 0 lo)).take (HT.sIx xs.length xs.length hi - HT.sIx xs.length 0 lo)
theorem cutV_length (xs : List V) (lo hi : Option Int) : (cutV xs lo hi).length ≤ xs.length := by
  unfold cutV
  rw [List.length_take, List.length_drop]
  omega
/-- t[lo:hi], not the whole of it (the whole would be t itself) -/
def rSlT (K : PySem.W.Frag) : V → Option Int → Option Int → Hp → VK → Prop := fun x lo hi H Q => ∃ a xs, x = .ref a ∧ SqT K H a xs ∧
  ¬ (HT.sIx xs.length 0 lo = 0 ∧ HT.sIx xs.length xs.length hi = xs.length) ∧ ∀ p, H p = none → Q (.ref p) (upd H p (.tup (cutV xs lo hi)))
theorem sl_tup : SlR X (rSlT X.K) := by
  intro pins s σ H x v vl vu lo hi sl Q I rx hs pl pu h
  obtain ⟨a, xs, rfl, hx, hw, q⟩ := h
  cases rx
  obtain ⟨its, r, ht, hz⟩ := I.tuple hx
  have hlen : its.toArray.size = xs.length := by rw [List.size_toArray]; exact r.length.symm
  refine ⟨"tuple", _, PyProof.Rows.slot_tuple_getitem.lookup, ht.typeIs, ?_⟩
  refine HT.getItem_tuple_cut ht hs pl pu (by rw [hlen]; exact hw) ?_ (by rw [hlen]; exact hz)
  rw [hlen]
  refine ⟨.ref s.heap.objs.size, _, I.laid (t' := s.toks) (o := .tup (cutV xs lo hi)) (fun b ob q => Heap.get?_push_of_some _ q) (Nat.le_refl _) ?_, rfl, q _ (I.hok.fresh (Nat.le_refl _))⟩
  exact ⟨Nat.le_trans (cutV_length xs lo hi) hz, _, (r.drop (HT.sIx xs.length 0 lo)).take (HT.sIx xs.length xs.length hi - HT.sIx xs.length 0 lo), IsTupX.new _ _⟩

/-! ### t < u, t + u -/
/-- t + u, t not empty: u empty gives t itself -/
def rCatT (K : PySem.W.Frag) : R2 := fun x y H Q => ∃ a b xs ys, x = .ref a ∧ y = .ref b ∧ SqT K H a xs ∧ SqT K H b ys ∧ xs ≠ [] ∧ xs.length + ys.length ≤ sizeLine ∧
  (ys = [] → Q (.ref a) H) ∧ (ys ≠ [] → ∀ p, H p = none → Q (.ref p) (upd H p (.tup (xs ++ ys))))
theorem Vals.nil_iff {xs : List V} {us : List Value} (r : Vals xs us) : us = [] ↔ xs = [] := by
  cases r with
  | nil => simp
  | cons _ _ => simp
theorem op_catT : OpR X (binaryOp .Add) (rCatT X.K) := by
  intro pins s σ H x y v u Q I rx ry h
  obtain ⟨a, b, xs, ys, rfl, rfl, ha, hb, hx, hz, q1, q2⟩ := h
  cases rx
  cases ry
  obtain ⟨its, r1, p1, _⟩ := I.tuple ha
  obtain ⟨its2, r2, p2, _⟩ := I.tuple hb
  refine HT.cat_tup p1 p2 (fun z => hx (r1.nil_iff.mp z)) (fun z => ⟨.ref a, H, I, rfl, q1 (r2.nil_iff.mp z)⟩) (fun z => ?_) (by rw [← r1.length, ← r2.length]; exact hz)
  refine ⟨.ref s.heap.objs.size, _, I.laid (t' := s.toks) (o := .tup (xs ++ ys)) (fun b ob q => Heap.get?_push_of_some _ q) (Nat.le_refl _) ?_, rfl, q2 (fun w => z (r2.nil_iff.mpr w)) _ (I.hok.fresh (Nat.le_refl _))⟩
  exact ⟨by rw [List.length_append]; exact hz, _, r1.append r2, IsTupX.new _ _⟩
end
end L2

namespace L2
open PySem PySem.Spec PyProof.Rows

/-! ### places -/
/-- the place that an index of any sign means -/
def ixN (n : Nat) (i : Int) : Option Nat := if 0 ≤ i then (if i < n then some i.toNat else none) else if -(n : Int) ≤ i then some (i + n).toNat else none
def atI {α : Type} (xs : List α) (i : Int) : Option α := (ixN xs.length i).bind fun j => xs[j]?
theorem ixN_seq {n : Nat} {i : Int} {j : Nat} (h : ixN n i = some j) : seqIndex? i n = some j ∧ j < n ∧ -(n : Int) ≤ i ∧ i < n := by
  unfold ixN at h
  by_cases h0 : 0 ≤ i
  · rw [if_pos h0] at h
    by_cases h1 : i < n
    · rw [if_pos h1] at h
      have e : i.toNat = j := Option.some.inj h
      exact ⟨by rw [seqIndex_of h0 h1, e], by omega, by omega, h1⟩
    · rw [if_neg h1] at h; cases h
  · rw [if_neg h0] at h
    by_cases h1 : -(n : Int) ≤ i
    · rw [if_pos h1] at h
      have e : (i + n).toNat = j := Option.some.inj h
      exact ⟨by rw [seqIndex_neg (by omega) h1, e], by omega, h1, by omega⟩
    · rw [if_neg h1] at h; cases h
theorem atI_get {α : Type} {xs : List α} {i : Int} {v : α} (h : atI xs i = some v) : ∃ j, seqIndex? i xs.length = some j ∧ xs[j]? = some v ∧ j < xs.length ∧ -(xs.length : Int) ≤ i ∧ i < xs.length := by
  unfold atI at h
  cases e : ixN xs.length i with
  | none => rw [e] at h; cases h
  | some j =>
    rw [e] at h
    obtain ⟨h1, h2, h3, h4⟩ := ixN_seq e
    exact ⟨j, h1, h, h2, h3, h4⟩
theorem atI_nat {α : Type} {xs : List α} {j : Nat} {v : α} (h : xs[j]? = some v) : atI xs (j : Int) = some v := by
  have hj : j < xs.length := (List.getElem?_eq_some_iff.mp h).1
  have e : ixN xs.length (j : Int) = some j := by
    unfold ixN
    rw [if_pos (by omega), if_pos (by omega)]; simp
  unfold atI; rw [e]; exact h

/-! ### what may be subscripted -/
/-- what stands as an index of a plain subscript -/
def PlainIx (b : Expr) : Prop := ∀ o i, subscripted b false o i = operate [o, i] (getItem o i)
/-- a subscript by values -/
def IxR (X : Cx) (r : R2) : Prop :=
  ∀ (value slice : Expr) (pins : List (Addr × Obj)) (s : Shared) (σ : St) (H : Hp) (x y : V) (v u : Value) (Q : VK), Inv X pins σ H s → RelV x v → RelV y u → r x y H Q →
    subscripted slice false v u = operate [v, u] (getItem v u) → wpAny (model X.prog X.w) X.A (subscriptTail value slice v u) (EP X pins σ Q) X.xe s
/-- a call of a builtin's method by values: the receiver, the arguments -/
def MtR (X : Cx) (id : String) (r : V → List V → Hp → VK → Prop) : Prop :=
  ∀ (pins : List (Addr × Obj)) (s : Shared) (σ : St) (H : Hp) (x : V) (xs : List V) (v : Value) (us : List Value) (Q : VK), Inv X pins σ H s → RelV x v → Vals xs us → r x xs H Q →
    wpAny (model X.prog X.w) X.A (call (.builtin id) (v :: us)) (EP X pins σ Q) X.xe s
section
variable {X : Cx} {a b : Expr} {ta tb : TE} {pos : Pos}
/-- a[b] -/
theorem pe_ix {r : R2} (hr : IxR X r) (ha : PE X a ta) (hb : PE X b tb) (hs : PlainIx b) : PE X (.Subscript a b pos) (tOp r ta tb) := by
  intro pins s σ H Q I h
  exact Subscript_ (binT ha hb I h fun v u s2 x y H2 I2 rx ry q => hr a b pins s2 σ H2 x y v u Q I2 rx ry q (hs _ _))

def rIxL (K : PySem.W.Frag) : R2 := fun x y H Q => ∃ p xs i v, x = .ref p ∧ y = .int i ∧ SqL K H p xs ∧ atI xs i = some v ∧ Q v H
def rIxT (K : PySem.W.Frag) : R2 := fun x y H Q => ∃ p xs i v, x = .ref p ∧ y = .int i ∧ SqT K H p xs ∧ atI xs i = some v ∧ Q v H
theorem ix_list : IxR X (rIxL X.K) := by
  intro value slice pins s σ H x y v u Q I rx ry h hs
  obtain ⟨p, xs, i, z, rfl, rfl, hq, he, q⟩ := h
  cases rx
  obtain ⟨t, rfl⟩ := ry
  obtain ⟨its, r, pl, hz⟩ := I.list hq
  obtain ⟨j, h1, h2, h3, h4, h5⟩ := atI_get he
  obtain ⟨w, ew, rw'⟩ := r.get h2
  have hl := r.length
  have hn := line63
  have fin : EP X pins σ Q w s := ⟨z, H, I, rw', q⟩
  by_cases h0 : 0 ≤ i
  · have hj : i.toNat = j := by
      rw [seqIndex_of h0 h5] at h1
      exact Option.some.inj h1
    exact item_listR pl.isList h0 (by omega) (by rw [hj]; simpa using ew) fin hs
  · have hj : (i + (its.toArray.size : Int)).toNat = j := by
      rw [seqIndex_neg (by omega) h4] at h1
      rw [List.size_toArray, ← hl]
      exact Option.some.inj h1
    exact subscriptTail_builtinR (x := w) pl.isList.typeIs slot_list_getitem.lookup
      (wpAny_getItem_list_neg (Q := fun r s' => r = w ∧ EP X pins σ Q r s') pl.isList (by omega) (by rw [List.size_toArray] <;> omega) (by omega) (by rw [hj]; simpa using ew) ⟨rfl, fin⟩) hs
theorem ix_tup : IxR X (rIxT X.K) := by
  intro value slice pins s σ H x y v u Q I rx ry h hs
  obtain ⟨p, xs, i, z, rfl, rfl, hq, he, q⟩ := h
  cases rx
  obtain ⟨t, rfl⟩ := ry
  obtain ⟨its, r, pl, hz⟩ := I.tuple hq
  obtain ⟨j, h1, h2, h3, h4, h5⟩ := atI_get he
  obtain ⟨w, ew, rw'⟩ := r.get h2
  have hl := r.length
  have hn := line63
  have fin : EP X pins σ Q w s := ⟨z, H, I, rw', q⟩
  exact subscriptTail_builtinR (x := w) pl.typeIs slot_tuple_getitem.lookup
    (getItem_tuple (j := j) (Q := fun r s' => r = w ∧ EP X pins σ Q r s') pl (by omega) (by omega) (by rw [List.size_toArray, ← hl]; exact h1) (by simpa using ew) ⟨rfl, fin⟩) hs

/-! ### xs[i] = v, any sign -/
/-- the list's object behind a store -/
theorem mapSeq_set (its : List Value) (n j : Nat) (u : Value) : Obj.mapSeq (·.setIfInBounds j u) { cls := .type "list", data := .seq its.toArray n } = { cls := .type "list", data := .seq (its.set j u).toArray n } := by
  simp [Obj.mapSeq]
theorem Inv.lst {pins : List (Addr × Obj)} {σ : St} {H : Hp} {s : Shared} {p : Addr} {xs : List V} (I : Inv X pins σ H s) (h : H p = some (.lst xs)) :
    ∃ (its : List Value) (n : Nat), Vals xs its ∧ s.heap.get? p = some { cls := .type "list", data := .seq its.toArray n } ∧ xs.length ≤ sizeLine := by
  obtain ⟨z, its, n, r, e⟩ := I.hok p _ h
  exact ⟨its, n, r, e, z⟩
/-- the list at p is written by an update of its object -/
theorem Inv.lstUpd {pins : List (Addr × Obj)} {σ : St} {H : Hp} {s : Shared} {p : Addr} {xs ys : List V} {its its' : List Value} {n n' : Nat} {f : Obj → Obj} (I : Inv X pins σ H s) (h : H p = some (.lst xs))
    (ho : s.heap.get? p = some { cls := .type "list", data := .seq its.toArray n }) (hf : f { cls := .type "list", data := .seq its.toArray n } = { cls := .type "list", data := .seq its'.toArray n' }) (r : Vals ys its') (hz : ys.length ≤ sizeLine) (t : Nat) :
    Inv X pins σ (upd H p (.lst ys)) { s with heap := s.heap.update p f, toks := t } := by
  have e : (s.heap.update p f).get? p = some { cls := .type "list", data := .seq its'.toArray n' } := by
    rw [Heap.get?_update_self f ho (by rw [hf] <;> rfl), hf]
  refine I.write (x := p) (e := p) (by rw [h]; trivial) (.inl rfl) (fun b u hb q => (Heap.get?_update_other _ _ (Ne.symm hb)).trans q) ⟨_, e⟩ ?_
  exact ⟨hz, its', n', r, e⟩
def rSetL : V → V → V → Hp → (Hp → Prop) → Prop := fun o i v H Q => ∃ p xs k j, o = .ref p ∧ i = .int k ∧ H p = some (.lst xs) ∧ ixN xs.length k = some j ∧ Q (upd H p (.lst (xs.set j v)))
theorem set_list : PSet X rSetL := by
  intro pins s σ H o i v ov iv u Q I ro ri rv h
  obtain ⟨p, xs, k, j, rfl, rfl, hp, hj, q⟩ := h
  cases ro
  obtain ⟨t, rfl⟩ := ri
  obtain ⟨its, n, r, ho, hz⟩ := I.lst hp
  obtain ⟨h1, h2, h3, h4⟩ := ixN_seq hj
  have hl := r.length
  have hn := line63
  have I' : Inv X pins σ (upd H p (.lst (xs.set j v))) { s with heap := s.heap.update p (Obj.mapSeq (·.setIfInBounds j u)) } :=
    I.lstUpd hp ho (mapSeq_set its n j u) (r.set rv j) (by rw [List.length_set]; exact hz) s.toks
  by_cases h0 : 0 ≤ k
  · have hk : k.toNat = j := by
      rw [seqIndex_of h0 h4] at h1
      exact Option.some.inj h1
    exact PySem.W.ki_setAt ho h0 (by omega) (by rw [List.size_toArray, ← hl]; exact h4) (by rw [hk]; exact ⟨_, I', q⟩)
  · have hk : (k + (its.toArray.size : Int)).toNat = j := by
      rw [seqIndex_neg (by omega) h3] at h1
      rw [List.size_toArray, ← hl]
      exact Option.some.inj h1
    exact PySem.W.ki_setBack ho (by omega) (by rw [List.size_toArray, ← hl]; exact h3) (by omega) (by rw [hk]; exact ⟨_, I', q⟩)

/-! ### slices -/
theorem slice_bounds (lo hi : Option Int) (n : Nat) : (sliceBounds lo hi none n).1 = ((HT.sIx n 0 lo : Nat) : Int) ∧ (sliceBounds lo hi none n).2.1 = ((HT.sIx n n hi : Nat) : Int) ∧ (sliceBounds lo hi none n).2.2 = 1 := by
  refine ⟨?_, ?_, rfl⟩
  · cases lo with
    | none => simp [sliceBounds, HT.sIx]
    | some i =>
      simp only [sliceBounds, HT.sIx, Option.getD_none, show (1 : Int) > 0 by decide, if_true]
      by_cases h : i < 0
      · simp only [h, if_true] <;> omega
      · simp only [h, if_false] <;> omega
  · cases hi with
    | none => simp [sliceBounds, HT.sIx]
    | some i =>
      simp only [sliceBounds, HT.sIx, Option.getD_none, show (1 : Int) > 0 by decide, if_true]
      by_cases h : i < 0
      · simp only [h, if_true] <;> omega
      · simp only [h, if_false] <;> omega
theorem slicePick_cut (its : List Value) (lo hi : Option Int) : slicePick its.toArray lo hi none = ((its.drop (HT.sIx its.length 0 lo)).take (HT.sIx its.length its.length hi - HT.sIx its.length 0 lo)).toArray := by
  obtain ⟨h1, h2, h3⟩ := slice_bounds lo hi its.toArray.size
  unfold slicePick
  rw [h1, h2, h3]
  simp only [sliceRange_one, pick_run, List.size_toArray] <;> rfl
/-- xs[lo:hi] of a list: a new list -/
def rSlL (K : PySem.W.Frag) : V → Option Int → Option Int → Hp → VK → Prop := fun x lo hi H Q => ∃ a xs, x = .ref a ∧ SqL K H a xs ∧ ∀ p, H p = none → Q (.ref p) (upd H p (.lst (cutV xs lo hi)))
theorem sl_list : SlR X (rSlL X.K) := by
  intro pins s σ H x v vl vu lo hi sl Q I rx hs pl pu h
  obtain ⟨a, xs, rfl, hx, q⟩ := h
  cases rx
  obtain ⟨its, r, ht, hz⟩ := I.list hx
  have hlen := r.length
  refine ⟨"list", _, slot_list_getitem.lookup, ht.isList.typeIs, ?_⟩
  refine wpAny_getItem_list_slice ht.isList hs pl pu .none (by simp) ?_ (by rw [List.size_toArray] <;> omega)
  rw [slicePick_cut, ← hlen]
  refine ⟨.ref s.heap.objs.size, _, I.laid (t' := s.toks) (o := .lst (cutV xs lo hi)) (fun b ob q => Heap.get?_push_of_some _ q) (Nat.le_refl _) ?_, rfl, q _ (I.hok.fresh (Nat.le_refl _))⟩
  exact ⟨Nat.le_trans (cutV_length xs lo hi) hz, _, 0, (r.drop (HT.sIx xs.length 0 lo)).take (HT.sIx xs.length xs.length hi - HT.sIx xs.length 0 lo), Heap.get?_push_size _ rfl⟩

/-! ### in, not in: flat items -/
def flatV : V → Bool
  | .non => true
  | .bl _ => true
  | .int _ => true
  | .str _ => true
  | _ => false
/-- == of flat values -/
def eqV : V → V → Bool
  | .non, .non => true
  | .bl a, .bl b => a == b
  | .bl a, .int b => (if a then 1 else 0) == b
  | .int a, .bl b => a == (if b then 1 else 0)
  | .int a, .int b => a == b
  | .str a, .str b => a == b
  | _, _ => false
theorem eqAt_V {A : Around} {s : Shared} {y x : V} {u v : Value} (ry : RelV y u) (rx : RelV x v) (fy : flatV y = true) (fx : flatV x = true) : SeqAt.EqAt A s u v (eqV y x) := by
  cases y with
  | non =>
    cases ry
    cases x with
    | non => cases rx; exact SeqAt.EqAt.same _
    | bl b => cases rx; exact SeqAt.EqAt.none_bool b
    | int b => obtain ⟨t, rfl⟩ := rx; exact SeqAt.EqAt.none_int b t
    | str b => obtain ⟨t, rfl⟩ := rx; exact SeqAt.EqAt.none_str b t
    | _ => exact absurd (show false = true from fx) Bool.false_ne_true
  | bl a =>
    cases ry
    cases x with
    | non => cases rx; exact SeqAt.EqAt.bool_none a
    | bl b => cases rx; exact SeqAt.EqAt.bool_bool a b
    | int b => obtain ⟨t, rfl⟩ := rx; exact SeqAt.EqAt.bool_int a b t
    | str b => obtain ⟨t, rfl⟩ := rx; exact SeqAt.EqAt.bool_str a b t
    | _ => exact absurd (show false = true from fx) Bool.false_ne_true
  | int a =>
    obtain ⟨t', rfl⟩ := ry
    cases x with
    | non => cases rx; exact SeqAt.EqAt.int_none a t'
    | bl b => cases rx; exact SeqAt.EqAt.int_bool a t' b
    | int b => obtain ⟨t, rfl⟩ := rx; exact SeqAt.EqAt.int_int a t' b t
    | str b => obtain ⟨t, rfl⟩ := rx; exact SeqAt.EqAt.int_str a t' b t
    | _ => exact absurd (show false = true from fx) Bool.false_ne_true
  | str a =>
    obtain ⟨t', rfl⟩ := ry
    cases x with
    | non => cases rx; exact SeqAt.EqAt.str_none a t'
    | bl b => cases rx; exact SeqAt.EqAt.str_bool a t' b
    | int b => obtain ⟨t, rfl⟩ := rx; exact SeqAt.EqAt.str_int a t' b t
    | str b => obtain ⟨t, rfl⟩ := rx; exact SeqAt.EqAt.str_str a t' b t
    | _ => exact absurd (show false = true from fx) Bool.false_ne_true
  | _ => exact absurd (show false = true from fy) Bool.false_ne_true
/-- the items' answers, read off the values (a value's own answer does not lean on its token) -/
def eqU (x : V) (u : Value) : Bool := match u with
  | .none => eqV .non x
  | .bool b => eqV (.bl b) x
  | .int i _ => eqV (.int i) x
  | .str z _ => eqV (.str z) x
  | _ => false
theorem eqU_of {x y : V} {u : Value} (r : RelV y u) (f : flatV y = true) : eqU x u = eqV y x := by
  cases y with
  | non => cases r; rfl
  | bl b => cases r; rfl
  | int i => obtain ⟨t, rfl⟩ := r; rfl
  | str z => obtain ⟨t, rfl⟩ := r; rfl
  | _ => exact absurd (show false = true from f) Bool.false_ne_true
theorem mem_eqAt {A : Around} {s : Shared} {x : V} {v : Value} (rx : RelV x v) (fx : flatV x = true) : ∀ {xs : List V} {us : List Value}, Vals xs us → xs.all flatV = true → ∀ u ∈ us, SeqAt.EqAt A s u v (eqU x u)
  | _, _, .nil, _ => fun u hu => by cases hu
  | y :: xs, u :: us, .cons r t, f => fun u' hu => by
    rw [List.all_cons, Bool.and_eq_true] at f
    rcases List.mem_cons.mp hu with rfl | hu
    · rw [eqU_of r f.1]; exact eqAt_V r rx f.1 fx
    · exact mem_eqAt rx fx t f.2 u' hu

/-! ### len, list(x), tuple(x) of any list or tuple that is read -/
theorem call_len_seq : CallR X (.builtin "len") (fun xs H Q => ∃ p ys, xs = [.ref p] ∧ (SqL X.K H p ys ∨ SqT X.K H p ys) ∧ Q (.int ys.length) H) := by
  intro pins s σ H xs us Q I r h
  obtain ⟨p, ys, rfl, hq, q⟩ := h
  obtain ⟨u, rfl, rx⟩ := vals1 r
  cases rx
  have hn := line63
  rcases hq with hq | hq
  · obtain ⟨its, r', pl, hz⟩ := I.list hq
    have hlen := r'.length
    exact Calls.call_len_list pl.isList (by simp only [List.size_toArray] <;> omega) ⟨.int ys.length, H, I.tok _, ⟨s.toks + 1, by rw [List.size_toArray, hlen]⟩, q⟩
  · obtain ⟨its, r', pl, hz⟩ := I.tuple hq
    have hlen := r'.length
    exact len_tuple pl (by simp only [List.size_toArray] <;> omega) ⟨.int ys.length, H, I.tok _, ⟨s.toks + 1, by rw [List.size_toArray, hlen]⟩, q⟩
theorem call_list_of : CallR X (.type "list") (fun xs H Q => ∃ p ys, xs = [.ref p] ∧ (SqL X.K H p ys ∨ SqT X.K H p ys) ∧ ∀ l, H l = none → Q (.ref l) (upd H l (.lst ys))) := by
  intro pins s σ H xs us Q I r h
  obtain ⟨p, ys, rfl, hq, q⟩ := h
  obtain ⟨u, rfl, rx⟩ := vals1 r
  cases rx
  have fin : ∀ (its : List Value), Vals ys its → ys.length ≤ sizeLine → ∀ (h' : Heap) (c' : Nat), (∀ b o', s.heap.get? b = some o' → h'.get? b = some o') →
      h'.get? s.heap.objs.size = some { cls := .type "list", dict := none, data := .seq its.toArray c', slots := #[] } → EP X pins σ Q (.ref s.heap.objs.size) { s with heap := h' } := fun its r' hz h' c' kp e =>
    ⟨.ref s.heap.objs.size, _, I.laid (t' := s.toks) kp (Nat.le_refl _) (show ObjOk X.prog X.w _ h' _ (.lst ys) from ⟨hz, its, c', r', e⟩), rfl, q _ (I.hok.fresh (Nat.le_refl _))⟩
  rcases hq with hq | hq
  · obtain ⟨its, r', pl, hz⟩ := I.list hq
    have hlen := r'.length
    obtain ⟨o, ho, hc, n, hd⟩ := pl.isList
    exact call_list_seq p (.inl rfl) ho hc hd (fun h' c' kp e => fin its r' hz h' c' kp e) (by simp only [List.size_toArray] <;> omega)
  · obtain ⟨its, r', pl, hz⟩ := I.tuple hq
    have hlen := r'.length
    obtain ⟨o, ho, hc, n, hd⟩ := pl
    exact call_list_seq p (.inr rfl) ho hc hd (fun h' c' kp e => fin its r' hz h' c' kp e) (by simp only [List.size_toArray] <;> omega)
theorem call_tuple_of : CallR X (.type "tuple") (fun xs H Q => ∃ p ys, xs = [.ref p] ∧ ((SqL X.K H p ys ∧ ∀ l, H l = none → Q (.ref l) (upd H l (.tup ys))) ∨ (SqT X.K H p ys ∧ Q (.ref p) H))) := by
  intro pins s σ H xs us Q I r h
  obtain ⟨p, ys, rfl, h⟩ := h
  obtain ⟨u, rfl, rx⟩ := vals1 r
  cases rx
  rcases h with ⟨hq, q⟩ | ⟨hq, q⟩
  · obtain ⟨its, r', pl, hz⟩ := I.list hq
    have hlen := r'.length
    refine call_tuple_list pl.isList (fun h' kp => ?_) (by simp only [List.size_toArray] <;> omega)
    have I1 : Inv X pins σ H { s with heap := h' } := I.kept (t' := s.toks) kp
    have I2 : Inv X pins σ (upd H h'.objs.size (.tup ys)) { s with heap := h'.push { cls := .type "tuple", data := .seq its.toArray } } :=
      I1.laid (t' := s.toks) (fun b o e => Heap.get?_push_of_some _ e) (Nat.le_refl _) (show ObjOk X.prog X.w _ _ _ (.tup ys) from ⟨hz, its, r', IsTupX.new _ _⟩)
    exact ⟨.ref h'.objs.size, _, I2, rfl, q _ (I1.hok.fresh (Nat.le_refl _))⟩
  · obtain ⟨its, r', pl, hz⟩ := I.tuple hq
    exact call_tuple_same pl ⟨.ref p, H, I, rfl, q⟩

/-! ### the call of a builtin's method: o.m(..) -/
/-- the value is of that builtin type -/
def tyV (K : PySem.W.Frag) (T : String) (x : V) (H : Hp) : Prop := match x with
  | .str _ => T = "str"
  | .int _ => T = "int"
  | .ref p => (T = "list" ∧ ∃ xs, SqL K H p xs) ∨ (T = "tuple" ∧ ∃ o, K.lookup p = some o ∧ o.cls = .type "tuple" ∧ o.dict = none) ∨
      (T = "dict" ∧ ((∃ kvs, H p = some (.dK kvs)) ∨ ∃ kvs, H p = some (.dT kvs))) ∨ (T = "set" ∧ ∃ S n, H p = some (.set S n)) ∨ (T = "tuple" ∧ ∃ xs, H p = some (.tup xs))
  | _ => False
theorem tyV_is {pins : List (Addr × Obj)} {σ : St} {H : Hp} {s : Shared} {T : String} {x : V} {v : Value} (I : Inv X pins σ H s) (r : RelV x v) (ty : tyV X.K T x H) :
    s.TypeIs v T ∧ ∀ a, v = .ref a → ∃ ob, s.heap.get? a = some ob ∧ ob.dict = none := by
  cases x with
  | str z =>
    obtain ⟨t, rfl⟩ := r
    cases (show T = "str" from ty)
    exact ⟨typeIs_str s z t, fun _ e => nomatch e⟩
  | int i =>
    obtain ⟨t, rfl⟩ := r
    cases (show T = "int" from ty)
    exact ⟨typeIs_int s i t, fun _ e => nomatch e⟩
  | ref p =>
    cases r
    rcases ty with ⟨rfl, xs, hq⟩ | ⟨rfl, o, hk, hc, hd⟩ | ⟨rfl, hk⟩ | ⟨rfl, S, n, hk⟩ | ⟨rfl, xs, hk⟩
    · obtain ⟨its, _, pl, _⟩ := I.list hq
      refine ⟨pl.isList.typeIs, fun a e => ?_⟩
      cases e
      obtain ⟨o, n, e, c, hd, _⟩ := pl
      exact ⟨o, e, hd⟩
    · refine ⟨⟨o, I.kIn p o hk, hc⟩, fun a e => ?_⟩
      cases e
      exact ⟨o, I.kIn _ o hk, hd⟩
    · have z : ∃ o, s.heap.get? p = some o ∧ o.ExactDict := by
        rcases hk with ⟨kvs, hk⟩ | ⟨kvs, hk⟩
        · obtain ⟨_, _, _, _, o, _, _, e, ex, _⟩ := I.hok p _ hk
          exact ⟨o, e, ex⟩
        · obtain ⟨_, _, _, _, o, _, _, e, ex, _⟩ := I.hok p _ hk
          exact ⟨o, e, ex⟩
      obtain ⟨o, e, ex⟩ := z
      refine ⟨⟨o, e, ex.1⟩, fun a e2 => ?_⟩
      cases e2
      exact ⟨o, e, ex.2.1⟩
    · obtain ⟨o, _, _, _, e, ex, _⟩ := I.hok p _ hk
      refine ⟨⟨o, e, ex.1⟩, fun a e2 => ?_⟩
      cases e2
      exact ⟨o, e, ex.2.1⟩
    · obtain ⟨_, _, _, _, e⟩ := (show ObjOk X.prog X.w H s.heap p (.tup xs) from I.hok p _ hk)
      refine ⟨⟨_, e, rfl⟩, fun a e2 => ?_⟩
      cases e2
      exact ⟨_, e, rfl⟩
  | _ => exact False.elim ty
def tBM0 (K : PySem.W.Frag) (T : String) (r : V → List V → Hp → VK → Prop) (to : TE) : TE := fun σ H Q => to σ H fun x H1 => tyV K T x H1 ∧ r x [] H1 Q
def tBM (K : PySem.W.Frag) (T : String) (r : V → List V → Hp → VK → Prop) (to : TE) (t : TA) : TE := fun σ H Q => to σ H fun x H1 => tyV K T x H1 ∧ t σ H1 fun xs H2 => r x xs H2 Q
variable {o e : Expr} {es : List Expr} {to : TE} {t : TA} {name : Str} {apos cpos : Pos} {T id : String} {r : V → List V → Hp → VK → Prop}
theorem pe_bm0 (pa : PlainAttrs T) (slot : Slot T name id) (hty : typeOf (.builtin id) = pure (.type "method_descriptor")) (hm : MtR X id r) (ho : PE X o to)
    (hbase : attributeBase o name X.env (eval o X.env) = eval o X.env := by rfl) (hline : (apos.endLine == cpos.line) = true := by rfl) : PE X (.Call (.Attribute o name apos) [] [] cpos) (tBM0 X.K T r to) := by
  intro pins s σ H Q I h
  refine wpAny_Call_method0_late hbase hline (thn (ho pins s σ H _ I h) fun v s1 ⟨x, H1, I1, r1, ty, q1⟩ => ?_)
  obtain ⟨h1, h2⟩ := tyV_is I1 r1 ty
  exact ⟨T, id, pa, slot, hty, h1, h2, Calls.callWith_builtin rfl (PySem.evalArgs_none (hm pins s1 σ H1 x [] v [] Q I1 r1 .nil q1))⟩
theorem pe_bm (pa : PlainAttrs T) (slot : Slot T name id) (hty : typeOf (.builtin id) = pure (.type "method_descriptor")) (hm : MtR X id r) (ho : PE X o to) (ha : PA X (e :: es) t)
    (hbase : attributeBase o name X.env (eval o X.env) = eval o X.env := by rfl)
    (hfew : ((backTo cpos (starEach (e :: es) X.env)).all (fun x => !x.1) && (backToKw cpos (keywordEach [] X.env)).all (fun x => x.1.isSome)
      && decide ((e :: es).length + ([] : List Keyword).length + (if ([] : List Keyword).isEmpty then 0 else 1) < 30)) = true := by rfl)
    (hline : (apos.endLine == cpos.line) = true := by rfl) (hs : starEach (e :: es) X.env = (false, eval e X.env) :: starEach es X.env := by rfl) (hplain : (backTo cpos (starEach es X.env)).any (·.1) = false := by rfl) :
    PE X (.Call (.Attribute o name apos) (e :: es) [] cpos) (tBM X.K T r to t) := by
  intro pins s σ H Q I h
  refine wpAny_Call_method_late hbase hfew hline rfl (thn (ho pins s σ H _ I h) fun v s1 ⟨x, H1, I1, r1, ty, q1⟩ => ?_)
  obtain ⟨h1, h2⟩ := tyV_is I1 r1 ty
  refine ⟨T, id, pa, slot, hty, h1, h2, ?_⟩
  have hA := ha cpos pins s1 σ H1 _ I1 q1
  rw [hs] at hA ⊢
  refine Calls.callWith_builtin (by show (false || (backTo cpos (starEach es X.env)).any (·.1)) = false; rw [hplain] <;> rfl) (Calls.evalArgs_plain ?_)
  exact thn hA fun us s2 ⟨vs, H2, I2, r2, q2⟩ => hm pins s2 σ H2 x vs v us Q I2 r1 r2 q2
/- xs.append(e), list.index on a module's tuple .. are MtR facts of 06m -/
end
end L2

namespace L2
open PySem PySem.Spec PyProof.Rows

def MtM (X : Cx) (id : String) (r : V → List V → Hp → VK → Prop) : Prop :=
  ∀ (pins : List (Addr × Obj)) (s : Shared) (σ : St) (H : Hp) (x : V) (xs : List V) (v : Value) (us : List Value) (Q : VK), Inv X pins σ H s → RelV x v → Vals xs us → r x xs H Q →
    wpAny (model X.prog X.w) X.A (call (.builtin id) (v :: us)) (EP X pins σ Q) X.xe s

/-! ### lists of values -/
theorem Vals.one : ∀ {x : V} {us : List Value}, Vals [x] us → ∃ u, us = [u] ∧ RelV x u
  | _, _, .cons r .nil => ⟨_, rfl, r⟩
theorem Vals.zero : ∀ {us : List Value}, Vals [] us → us = []
  | _, .nil => rfl
theorem Vals.dropLast {xs : List V} {us : List Value} (h : Vals xs us) : Vals xs.dropLast us.dropLast := by
  induction h with
  | nil => exact .nil
  | cons r t ih =>
    cases t with
    | nil => exact .nil
    | cons q t' => exact .cons r ih
theorem erase_last {α : Type} (l : List α) : l.eraseIdx (l.length - 1) = l.dropLast := by
  induction l with
  | nil => rfl
  | cons a r ih =>
    cases r with
    | nil => rfl
    | cons b r =>
      have e : (a :: b :: r).length - 1 = ((b :: r).length - 1) + 1 := by
        have h1 : (a :: b :: r).length = r.length + 2 := rfl
        have h2 : (b :: r).length = r.length + 1 := rfl
        omega
      rw [e, List.eraseIdx_cons_succ, ih]
      all_goals rfl

section
variable {X : Cx} {pins : List (Addr × Obj)} {σ : St} {H : Hp} {s : Shared} {l b : Addr} {xs ys zs : List V}

/-! ### the two steps: a tracked list is rewritten, a new list is laid -/
theorem Inv.lset {its its' : List Value} {n : Nat} {f : Array Value → Array Value} {t' : Nat} (I : Inv X pins σ H s) (hH : H l = some (.lst xs))
    (e : s.heap.get? l = some { cls := .type "list", data := .seq its.toArray n }) (hf : f its.toArray = its'.toArray) (hv : Vals ys its') (hz : ys.length ≤ sizeLine) :
    Inv X pins σ (upd H l (.lst ys)) { s with heap := s.heap.update l (Obj.mapSeq f), toks := t' } := by
  have q := PySem.IsL.update e f
  rw [hf] at q
  refine I.write (x := l) (e := l) (by rw [hH]; exact trivial) (.inl rfl) (fun b' u hb hu => (Heap.get?_update_other s.heap (Obj.mapSeq f) (Ne.symm hb)).trans hu) ⟨_, q⟩ ?_
  exact ⟨hz, its', _, hv, q⟩
theorem Inv.lnew {its : List Value} {t' : Nat} (I : Inv X pins σ H s) (hv : Vals ys its) (hz : ys.length ≤ sizeLine) :
    Inv X pins σ (upd H s.heap.objs.size (.lst ys)) { s with heap := s.heap.push { cls := .type "list", data := .seq its.toArray }, toks := t' } :=
  I.laid (fun _ _ q => Heap.get?_push_of_some _ q) (Nat.le_refl _) ⟨hz, its, 0, hv, Heap.get?_push_size _ rfl⟩
theorem Inv.fresh (I : Inv X pins σ H s) : H s.heap.objs.size = none := I.hok.fresh (Nat.le_refl _)
theorem Inv.lstM (I : Inv X pins σ H s) (hH : H l = some (.lst xs)) : xs.length ≤ sizeLine ∧ ∃ (its : List Value) (n : Nat), Vals xs its ∧ xs.length = its.length ∧ s.heap.get? l = some { cls := .type "list", data := .seq its.toArray n } := by
  obtain ⟨z, its, n, r, e⟩ := I.hok l _ hH
  exact ⟨z, its, n, r, r.length, e⟩

theorem notLongL {n : Nat} (h : n ≤ sizeLine) : Builtin.List.listTooLong n = false := by
  unfold Builtin.List.listTooLong
  exact decide_eq_false (by omega)
end

section
variable {X : Cx}

/-! ### methods -/
def rAppend : V → List V → Hp → VK → Prop := fun x vs H Q => ∃ l xs y, x = .ref l ∧ vs = [y] ∧ H l = some (.lst xs) ∧ xs.length < sizeLine ∧ Q .non (upd H l (.lst (xs ++ [y])))
theorem mt_append : MtM X "list.append" rAppend := by
  intro pins s σ H x vs v us Q I rx rv h
  obtain ⟨l, xs, y, rfl, rfl, hH, hz, q⟩ := h
  cases rx
  obtain ⟨u, rfl, ru⟩ := rv.one
  obtain ⟨z, its, n, r, hl, e⟩ := I.lstM hH
  refine call_meets F.slot_list_append ⟨_, e, rfl⟩ F.entry_list_append (F.args_list_append_2 _ _) (PySem.list_append l its.toArray n u (by rw [List.size_toArray]; omega)) ⟨e, ?_⟩
  refine ⟨.non, _, I.lset (its' := its ++ [u]) hH e (by simp) (r.append (.cons ru .nil)) ?_, rfl, q⟩
  rw [List.length_append, List.length_singleton]
  omega

def rExtend : V → List V → Hp → VK → Prop := fun x vs H Q => ∃ l b xs zs, x = .ref l ∧ vs = [.ref b] ∧ H l = some (.lst xs) ∧ H b = some (.lst zs) ∧ xs.length + zs.length ≤ sizeLine ∧ Q .non (upd H l (.lst (xs ++ zs)))
theorem mt_extend : MtM X "list.extend" rExtend := by
  intro pins s σ H x vs v us Q I rx rv h
  obtain ⟨l, b, xs, zs, rfl, rfl, hH, hB, hz, q⟩ := h
  cases rx
  obtain ⟨u, rfl, ru⟩ := rv.one
  cases ru
  obtain ⟨z, its, n, r, hl, e⟩ := I.lstM hH
  obtain ⟨z2, its2, n2, r2, hl2, e2⟩ := I.lstM hB
  have hsz : its.toArray.size + its2.toArray.size ≤ sizeLine := by rw [List.size_toArray, List.size_toArray]; omega
  have hlong : ¬ (!its.toArray.isEmpty && Builtin.List.listTooLong (its.toArray.size + its2.toArray.size)) = true := by
    rw [notLongL hsz, Bool.and_false]
    exact Bool.false_ne_true
  refine call_meets F.slot_list_extend ⟨_, e, rfl⟩ F.entry_list_extend (F.args_list_extend_2 _ _)
    (AutoSeq1.list_extend_list_list_0 l its.toArray n b its2.toArray n2 hlong (by rw [List.size_toArray]; omega) (by omega)) ⟨e, e2, ?_⟩
  refine ⟨.non, _, I.lset (its' := its ++ its2) hH e (by simp) (r.append r2) ?_, rfl, q⟩
  rw [List.length_append]
  omega

def rPop : V → List V → Hp → VK → Prop := fun x vs H Q => ∃ l xs y, x = .ref l ∧ vs = [] ∧ H l = some (.lst xs) ∧ xs[xs.length - 1]? = some y ∧ Q y (upd H l (.lst xs.dropLast))
theorem mt_pop : MtM X "list.pop" rPop := by
  intro pins s σ H x vs v us Q I rx rv h
  obtain ⟨l, xs, y, rfl, rfl, hH, hy, q⟩ := h
  cases rx
  have hus := rv.zero
  subst hus
  obtain ⟨z, its, n, r, hl, e⟩ := I.lstM hH
  obtain ⟨u, hu, ru⟩ := r.get hy
  have hy' : its.toArray[its.toArray.size - 1]? = some u := by
    show its.toArray[its.length - 1]? = some u
    rw [← Array.getElem?_toList, ← hl]
    exact hu
  refine call_meets F.slot_list_pop ⟨_, e, rfl⟩ F.entry_list_pop (F.args_list_pop_1 _) (MeetsSeq.list_pop_last l its.toArray n u hy' (by rw [List.size_toArray]; omega)) ⟨e, ?_⟩
  refine ⟨y, _, I.lset (its' := its.dropLast) hH e ?_ r.dropLast ?_, ru, q⟩
  · show its.toArray.eraseIdxIfInBounds (its.toArray.size - 1) = its.dropLast.toArray
    rw [List.size_toArray, List.eraseIdxIfInBounds_toArray, erase_last]
  · rw [List.length_dropLast]
    omega




/-! ### list + list, list += list, list * int -/
def rCat : R2 := fun x y H Q => ∃ l b xs zs, x = .ref l ∧ y = .ref b ∧ H l = some (.lst xs) ∧ H b = some (.lst zs) ∧ xs.length + zs.length ≤ sizeLine ∧ ∀ p, H p = none → Q (.ref p) (upd H p (.lst (xs ++ zs)))
theorem op_cat : OpR X (binaryOp .Add) rCat := by
  intro pins s σ H x y v u Q I rx ry h
  obtain ⟨l, b, xs, zs, rfl, rfl, hH, hB, hz, q⟩ := h
  cases rx
  cases ry
  obtain ⟨z, its, n, r, hl, e⟩ := I.lstM hH
  obtain ⟨z2, its2, n2, r2, hl2, e2⟩ := I.lstM hB
  refine PySem.P.add_list e e2 ?_ (by rw [List.size_toArray, List.size_toArray]; omega)
  have ea : its.toArray ++ its2.toArray = (its ++ its2).toArray := by simp
  rw [ea]
  exact ⟨.ref _, _, I.lnew (t' := s.toks) (r.append r2) (by rw [List.length_append]; omega), rfl, q _ I.fresh⟩

/-! ### del xs[i] -/
end

/-! ### xs[a:b] = ys -/
section
variable {prog : Program} {w : World} {A : Around} {E : Value → Shared → Prop} {s : Shared}
set_option maxRecDepth 100000 in
end

section
variable {X : Cx}
end
end L2

namespace L2
open PySem PySem.Spec PyProof.Rows

theorem Vals.ints : ∀ {ns : List Int} {us : List Value}, Vals (ns.map V.int) us → IntsAre us ns
  | [], us, h => by
    rw [List.map_nil] at h
    cases h
    exact IntsAre.nil
  | n :: ns, us, h => by
    rw [List.map_cons] at h
    cases h with
    | cons r t =>
      obtain ⟨k, rfl⟩ := r
      exact IntsAre.cons n k (Vals.ints t)
theorem Vals.ref1 {a : Addr} {us : List Value} (r : Vals [V.ref a] us) : us = [Value.ref a] := by
  cases r with
  | cons r t =>
    cases t
    cases r
    rfl

/-! ### the library's walks over a list of ints, kept objects alone -/
section
variable {prog : Program} {w : World} {A : Around} {E : Value → Shared → Prop} {s : Shared} {l : Addr} {its : List Value} {ns : List Int} {Q : Value → Shared → Prop}
theorem max_raw (hh : A.handled = none) (hl : s.heap.IsList l its.toArray) (hi : IntsAre its ns) (hne : 0 < ns.length)
    (h : ∀ h' tk M t', (∀ b o, s.heap.get? b = some o → h'.get? b = some o) → M ∈ ns → (∀ a, a ∈ ns → a ≤ M) → Q (.int M t') { s with heap := h', toks := tk }) : wpAny (model prog w) A (call (.builtin "max") [.ref l]) Q E s := by
  obtain ⟨xs, e⟩ := hi.allInts.items
  have hn : numsOf (intItems xs).toList = ns := by rw [← e]; exact hi.numsOf
  rw [nums_intItems] at hn
  subst hn
  rw [e] at hl
  have hsz : 0 < xs.size := by simpa using hne
  refine PySem.max_intList hh hl hsz fun v h' tk hv hk => ?_
  obtain ⟨t, rfl⟩ := intItems_at hv
  obtain ⟨h1, h2⟩ := argBest_gt (numAt xs) (xs.size - 1)
  refine h h' tk _ t hk ?_ fun a ha => ?_
  · rw [numAt_eq]; exact PySem.getD_mem (by rw [List.length_map, Array.length_toList]; omega)
  · obtain ⟨j, hj, rfl⟩ := mem_getD ha
    rw [List.length_map, Array.length_toList] at hj
    rw [← numAt_eq]; exact h2 j (by omega)
end

/-! ### the calls, by values (CallR of 03t; MtR of 06l) -/
section
variable {X : Cx}
/-- max(xs), min(xs) of a list of ints -/
def rMax (K : PySem.W.Frag) : List V → Hp → VK → Prop := fun vs H Q => ∃ (a : Addr) (ns : List Int), vs = [V.ref a] ∧ SqL K H a (ns.map V.int) ∧ 0 < ns.length ∧ ∀ m, m ∈ ns → (∀ y, y ∈ ns → y ≤ m) → Q (.int m) H
theorem cr_max (hc : X.calm = true) : CallR X (.builtin "max") (rMax X.K) := by
  intro pins s σ H vs us Q I r h
  obtain ⟨a, ns, rfl, hs, hne, q⟩ := h
  obtain ⟨its, rv, hl, _⟩ := I.list hs
  rw [Vals.ref1 r]
  exact max_raw (I.ok.hd hc) hl.isList rv.ints hne fun h' tk m t' hk h1 h2 => ⟨.int _, H, I.kept hk, ⟨_, rfl⟩, q m h1 h2⟩

/-! sorted, sort (fewer than 64 items: the library's own bound) -/
end

/-! ### list.index, flat items -/
section
variable {X : Cx}
def rIndex (K : PySem.W.Frag) : V → List V → Hp → VK → Prop := fun x xs H Q => ∃ (a : Addr) (ys : List V) (y : V) (j : Nat) (z : V), x = V.ref a ∧ xs = [y] ∧ SqL K H a ys ∧ flatV y = true ∧ ys.all flatV = true ∧ ys[j]? = some z ∧ eqV z y = true ∧
  (∀ (m : Nat) (z' : V), m < j → ys[m]? = some z' → eqV z' y = false) ∧ Q (.int (j : Nat)) H
theorem flat_at {ys : List V} (f : ys.all flatV = true) {j : Nat} {z : V} (h : ys[j]? = some z) : flatV z = true := List.all_eq_true.mp f z (List.mem_of_getElem? h)
theorem mt_index : MtR X "list.index" (rIndex X.K) := by
  intro pins s σ H x xs v us Q I rx rxs h
  obtain ⟨a, ys, y, j, z, rfl, rfl, hs, fy, fys, hz, hzj, hno, q⟩ := h
  cases rx
  cases rxs with
  | cons ry rt =>
    rename_i uy ut
    cases rt
    obtain ⟨its, rv, ⟨⟨cls, dd, data, sl⟩, n, ho, hc, hdn, hd⟩, hlen⟩ := I.list hs
    simp only at hc hd
    subst hc hd
    obtain ⟨u, hu, ru⟩ := rv.get hz
    obtain ⟨hjl, hje⟩ := List.getElem?_eq_some_iff.mp hu
    have hvl := rv.length
    have hj : j < its.toArray.size := by simpa using hjl
    have hsl := sizeLine_eq
    refine call_meets PySem.F.slot_list_index ⟨_, ho, rfl⟩ PySem.F.entry_list_index (PySem.F.args_list_index_2 _ _)
      (SeqAt.list_indexAt a its.toArray n dd sl uy (eqU y) j hj (by omega) ?_ ?_) ⟨ho, fun u' hu' => mem_eqAt ry fy rv fys u' (by simpa using hu'), ?_⟩
    · have e1 : its.toArray[j] = u := by simpa using hje
      rw [e1, eqU_of ru (flat_at fys hz)]
      exact hzj
    · intro m hm hmj
      have hml : m < its.length := by simpa using hm
      have hmy : m < ys.length := by omega
      have hy' : ys[m]? = some ys[m] := List.getElem?_eq_getElem hmy
      obtain ⟨u2, hu2, ru2⟩ := rv.get hy'
      obtain ⟨_, hme⟩ := List.getElem?_eq_some_iff.mp hu2
      have e1 : its.toArray[m] = u2 := by simpa using hme
      rw [e1, eqU_of ru2 (flat_at fys hy')]
      exact hno m _ hmj hy'
    · exact ⟨.int (j : Nat), H, I.tok _, ⟨_, rfl⟩, q⟩
end

/-! ### type(x) of an own instance; is, is not of a module's class -/
section
variable {X : Cx}
end

/-! ### any(xs), all(xs) of a list of bools -/
section
variable {X : Cx}
end

/-! ### == and != of data at any depth: none, bools, ints, texts, lists, tuples -/
section
variable {X : Cx} {pins : List (Addr × Obj)} {σ : St} {H : Hp} {s : Shared}
end
section
variable {X : Cx}
end
end L2

namespace L2
open PySem PySem.Spec PyProof.Rows











section
variable {X : Cx} {pins : List (Addr × Obj)} {σ : St} {H : Hp} {s : Shared}


end



section
variable {X : Cx}
end

/-! ### the forms one uses -/
end L2

namespace L2
open PySem PySem.Spec PyProof.Rows


section
variable {prog : Program} {w : World} {A : Around} {R : Result → Shared → Prop} {s : Shared} {elt t0 i0 t1 i1 : Expr} {ifs0 ifs1 : List Expr} {scope : Scope} {pos : Pos} {it acc : Value} {env : Env}
end

section
variable {X : Cx}
end
end L2

namespace L2
open PySem PySem.Spec PyProof.Rows

/-! ### lists of pairs as tables -/
section
variable {κ : Type} [DecidableEq κ]
def valV (kvs : List (κ × V)) (k : κ) : Option V := (kvs.find? fun kv => decide (kv.1 = k)).map (·.2)
/-- in its place, or at the end -/
def putK (kvs : List (κ × V)) (k : κ) (v : V) : List (κ × V) :=
  if (kvs.any fun kv => decide (kv.1 = k)) = true then kvs.map (fun kv => if kv.1 = k then (kv.1, v) else kv) else kvs ++ [(k, v)]

theorem valV_pos {p : κ × V} {r : List (κ × V)} {k : κ} (e : p.1 = k) : valV (p :: r) k = some p.2 := by simp [valV, List.find?_cons, e]
theorem valV_neg {p : κ × V} {r : List (κ × V)} {k : κ} (e : ¬ p.1 = k) : valV (p :: r) k = valV r k := by simp [valV, List.find?_cons, e]
theorem valV_any (k : κ) : ∀ kvs : List (κ × V), (kvs.any fun kv => decide (kv.1 = k)) = (valV kvs k).isSome
  | [] => rfl
  | p :: r => by
    rw [List.any_cons]
    by_cases e : p.1 = k
    · simp only [valV_pos e, decide_eq_true e, Bool.true_or, Option.isSome_some]
    · rw [valV_neg e, decide_eq_false e, Bool.false_or]; exact valV_any k r
theorem length_putK (kvs : List (κ × V)) (k : κ) (v : V) : (putK kvs k v).length ≤ kvs.length + 1 := by
  unfold putK
  split
  · rw [List.length_map]; omega
  · rw [List.length_append, List.length_cons, List.length_nil]; omega
theorem putK_new {kvs : List (κ × V)} {k : κ} (v : V) (h : valV kvs k = none) : putK kvs k v = kvs ++ [(k, v)] := by
  unfold putK
  rw [valV_any, h]
  exact if_neg (by decide)

theorem RelO.isSome_eq {o : Option V} {u : Option Value} (r : RelO o u) : o.isSome = u.isSome := by
  cases o with
  | none => cases u with
    | none => rfl
    | some _ => exact (show False from r).elim
  | some _ => cases u with
    | none => exact (show False from r).elim
    | some _ => rfl

/-- raw tables of the same keys -/
theorem KV.val {kvs : List (κ × V)} {vs : List (κ × Value)} (r : KV kvs vs) (k : κ) : RelO (valV kvs k) (valueAt vs k) := by
  unfold KV at r
  induction r with
  | nil => exact True.intro
  | @cons p q ps qs h t ih =>
    obtain ⟨h1, h2⟩ := h
    by_cases e : p.1 = k
    · have e' : q.1 = k := h1.symm.trans e
      have b : valueAt (q :: qs) k = some q.2 := by simp [valueAt, List.find?_cons, e']
      rw [valV_pos e, b]; exact h2
    · have e' : ¬ q.1 = k := fun z => e (h1.trans z)
      have b : valueAt (q :: qs) k = valueAt qs k := by simp [valueAt, List.find?_cons, e']
      rw [valV_neg e, b]; exact ih
theorem KV.any {kvs : List (κ × V)} {vs : List (κ × Value)} (r : KV kvs vs) (k : κ) : (kvs.any fun kv => decide (kv.1 = k)) = vs.any fun kv => decide (kv.1 = k) := by
  unfold KV at r
  induction r with
  | nil => rfl
  | cons h t ih => rw [List.any_cons, List.any_cons, ih, h.1]
theorem KV.repl {kvs : List (κ × V)} {vs : List (κ × Value)} (r : KV kvs vs) (k : κ) {y : V} {u : Value} (ry : RelV y u) :
    KV (kvs.map fun kv => if kv.1 = k then (kv.1, y) else kv) (vs.map fun kv => if kv.1 = k then (kv.1, u) else kv) := by
  unfold KV at r ⊢
  induction r with
  | nil => exact .nil
  | @cons p q ps qs h t ih =>
    rw [List.map_cons, List.map_cons]
    refine .cons ?_ ih
    obtain ⟨h1, h2⟩ := h
    by_cases e : p.1 = k
    · rw [if_pos e, if_pos (h1.symm.trans e)]; exact ⟨h1, ry⟩
    · rw [if_neg e, if_neg (fun z => e (h1.trans z))]; exact ⟨h1, h2⟩
theorem KV.put {kvs : List (κ × V)} {vs : List (κ × Value)} (r : KV kvs vs) (k : κ) {y : V} {u : Value} (ry : RelV y u) : KV (putK kvs k y) (stored vs k u) := by
  unfold putK stored
  rw [r.any k]
  by_cases e : (vs.any fun kv => decide (kv.1 = k)) = true
  · rw [if_pos e, if_pos e]; exact r.repl k ry
  · rw [if_neg e, if_neg e]; exact Paired.snoc r ⟨rfl, ry⟩
theorem KV.length {kvs : List (κ × V)} {vs : List (κ × Value)} (r : KV kvs vs) : kvs.length = vs.length := Paired.length r
end


/-! ### a tracked dict, its keys ints and texts or tuples of these -/
theorem kV_is {P : Program} {w : World} {k : Key} {u : Value} (r : RelV (kV k) u) : (mixKind P w).is k u = true := by
  cases k with
  | inl i => obtain ⟨t, e⟩ := (show ∃ t, u = Value.int i t from r); subst e; exact mixKind_int P w i t
  | inr x => obtain ⟨t, e⟩ := (show ∃ t, u = Value.str x t from r); subst e; exact mixKind_str P w x t
theorem items_are {P : Program} {w : World} : ∀ {ks : List Key} {us : List Value}, Vals (ks.map kV) us → ItemsAre (mixKind P w) ks us
  | [], _, r => by rw [List.map_nil] at r; cases r; exact .nil
  | k :: ks, _, r => by
    rw [List.map_cons] at r
    cases r with
    | cons h t => exact .cons (kV_is h) (items_are t)

/-- raw entries of a dict with tuple keys -/
abbrev KT (H : Hp) : List (List Key × V) → List (List Key × Addr × Value) → Prop := Paired fun p q => p.1 = q.1 ∧ H q.2.1 = some (.tup (p.1.map kV)) ∧ RelV p.2 q.2.2
theorem KT.val {H : Hp} {kvs : List (List Key × V)} {xs : List (List Key × Addr × Value)} (r : KT H kvs xs) (k : List Key) : RelO (valV kvs k) ((atKey xs k).map (·.2)) := by
  induction r with
  | nil => exact True.intro
  | @cons p q ps qs h t ih =>
    obtain ⟨h1, _, h2⟩ := h
    by_cases e : p.1 = k
    · have e' : q.1 = k := h1.symm.trans e
      have b : atKey (q :: qs) k = some q.2 := by simp [atKey, List.find?_cons, e']
      rw [valV_pos e, b]; exact h2
    · have e' : ¬ q.1 = k := fun z => e (h1.trans z)
      have b : atKey (q :: qs) k = atKey qs k := by simp [atKey, List.find?_cons, e']
      rw [valV_neg e, b]; exact ih
theorem KT.repl {H : Hp} {kvs : List (List Key × V)} {xs : List (List Key × Addr × Value)} (r : KT H kvs xs) (k : List Key) {y : V} {u : Value} (ry : RelV y u) :
    KT H (kvs.map fun kv => if kv.1 = k then (kv.1, y) else kv) (xs.map (putAt k u)) := by
  induction r with
  | nil => exact .nil
  | @cons p q ps qs h t ih =>
    rw [List.map_cons, List.map_cons]
    refine .cons ?_ ih
    obtain ⟨h1, h2, h3⟩ := h
    unfold putAt
    by_cases e : p.1 = k
    · rw [if_pos e, if_pos (h1.symm.trans e)]; exact ⟨h1, h2, ry⟩
    · rw [if_neg e, if_neg (fun z => e (h1.trans z))]; exact ⟨h1, h2, h3⟩
theorem KT.put {H : Hp} {kvs : List (List Key × V)} {xs : List (List Key × Addr × Value)} (r : KT H kvs xs) (k : List Key) {b : Addr} {y : V} {u : Value} (hb : H b = some (.tup (k.map kV))) (ry : RelV y u) :
    KT H (putK kvs k y) (storedH xs k b u) := by
  have e : (kvs.any fun kv => decide (kv.1 = k)) = (atKey xs k).isSome := by
    rw [valV_any, (r.val k).isSome_eq, Option.isSome_map]
  unfold putK storedH
  rw [e]
  by_cases q : (atKey xs k).isSome = true
  · rw [if_pos q, if_pos q]; exact r.repl k ry
  · rw [if_neg q, if_neg q]; exact Paired.snoc r ⟨rfl, hb, ry⟩
theorem KT.keeps {H H' : Hp} {kvs : List (List Key × V)} {xs : List (List Key × Addr × Value)} (r : KT H kvs xs) (ht : ∀ b ys, H b = some (.tup ys) → H' b = some (.tup ys)) : KT H' kvs xs :=
  Paired.mapP r fun _ _ z => ⟨z.1, ht _ _ z.2.1, z.2.2⟩

section
variable {P : Program} {w : World} {H : Hp} {h : Heap} {a : Addr}
theorem rd_of {u : HO} (ok : HOk P w H h) (e : Rd H a u) : ObjOk P w H h a u := e.ok ok
theorem dk_rd {kvs : List (Key × V)} (ok : HOk P w H h) (e : Rd H a (.dK kvs)) : kvs.length ≤ sizeLine ∧ (a == sysModules) = false ∧ ∃ vs, KV kvs vs ∧ h.DictOf (mixKind P w) a vs :=
  show ObjOk P w H h a (.dK kvs) from rd_of ok e
theorem dk_of {kvs : List (Key × V)} (ok : HOk P w H h) (e : H a = some (.dK kvs)) : kvs.length ≤ sizeLine ∧ (a == sysModules) = false ∧ ∃ vs, KV kvs vs ∧ h.DictOf (mixKind P w) a vs := dk_rd ok (.inl e)
/-- a tracked tuple of ints and texts is a key -/
theorem key_of {ks : List Key} (ok : HOk P w H h) (e : H a = some (.tup (ks.map kV))) : (tupleKind (mixKind P w)).is h ks a := by
  obtain ⟨_, its, r, p⟩ := (show ObjOk P w H h a (.tup (ks.map kV)) from ok a _ e)
  obtain ⟨o, h1, h2, n, h3⟩ := p.tup
  exact ⟨o, its.toArray, n, h1, h2, h3, by simpa using items_are r⟩
theorem dt_rd {kvs : List (List Key × V)} (ok : HOk P w H h) (e : Rd H a (.dT kvs)) : kvs.length ≤ sizeLine ∧ (a == sysModules) = false ∧
    ∃ xs, KT H kvs xs ∧ h.DictOfH (tupleKind (mixKind P w)) a xs := by
  obtain ⟨z, y, xs, r, o, es, ep, h1, h2, h3, h4, h5⟩ := (show ObjOk P w H h a (.dT kvs) from rd_of ok e)
  refine ⟨z, y, xs, r, o, es, ep, h1, h2, h3, h4, fun x hx => ?_, h5⟩
  have all : ∀ {l : List (List Key × V)} {m : List (List Key × Addr × Value)}, KT H l m → ∀ x ∈ m, (tupleKind (mixKind P w)).is h x.1 x.2.1 := by
    intro l m q
    induction q with
    | nil => intro x hx; exact nomatch hx
    | @cons p q ps qs hq t ih =>
      intro x hx
      rcases List.mem_cons.mp hx with e | hx
      · subst e
        exact key_of ok (by rw [← hq.1]; exact hq.2.1)
      · exact ih x hx
  exact all r x hx
theorem dt_of {kvs : List (List Key × V)} (ok : HOk P w H h) (e : H a = some (.dT kvs)) : kvs.length ≤ sizeLine ∧ (a == sysModules) = false ∧
    ∃ xs, KT H kvs xs ∧ h.DictOfH (tupleKind (mixKind P w)) a xs := dt_rd ok (.inl e)
end

/-- what the dict at a holds at the key y -/
def DGet (H : Hp) (a : Addr) (y : V) (r : Option V) : Prop :=
  (∃ kvs k, Rd H a (.dK kvs) ∧ y = kV k ∧ r = valV kvs k) ∨ ∃ kvs k b, Rd H a (.dT kvs) ∧ y = .ref b ∧ H b = some (.tup (k.map kV)) ∧ r = valV kvs k
/-- the heap behind a[y] = v -/
def DPut (H : Hp) (a : Addr) (y v : V) (H' : Hp) : Prop :=
  (∃ kvs k, H a = some (.dK kvs) ∧ y = kV k ∧ kvs.length < sizeLine ∧ H' = upd H a (.dK (putK kvs k v))) ∨
  ∃ kvs k b, H a = some (.dT kvs) ∧ y = .ref b ∧ H b = some (.tup (k.map kV)) ∧ kvs.length < sizeLine ∧ H' = upd H a (.dT (putK kvs k v))
theorem DGet.k {H : Hp} {a : Addr} {kvs : List (Key × V)} {k : Key} (e : H a = some (.dK kvs)) : DGet H a (kV k) (valV kvs k) := .inl ⟨kvs, k, .inl e, rfl, rfl⟩
theorem DPut.k {H : Hp} {a : Addr} {kvs : List (Key × V)} {k : Key} {v : V} (e : H a = some (.dK kvs)) (hl : kvs.length < sizeLine) : DPut H a (kV k) v (upd H a (.dK (putK kvs k v))) := .inl ⟨kvs, k, e, rfl, hl, rfl⟩


section
variable {X : Cx} {pins : List (Addr × Obj)} {σ : St} {H : Hp} {s : Shared} {a : Addr} {y v : V} {u r : Value} {o : Option V} {A : Around} {E : Value → Shared → Prop}

theorem Inv.big (I : Inv X pins σ H s) : sysModules < s.heap.objs.size := by
  have h : mainGlobals < s.heap.objs.size := (I.mod.glob.keeps I.bk).lt
  exact Nat.lt_trans (by decide) h

/-- y in d -/
theorem d_in {Q : Value → Shared → Prop} (hu : A.units + 1 < cLine) (I : Inv X pins σ H s) (g : DGet H a y o) (ry : RelV y u) (h : ∀ s', Inv X pins σ H s' → Q (.bool o.isSome) s') :
    wpAny (model X.prog X.w) A (compareOp .In u (.ref a)) Q E s := by
  rcases g with ⟨kvs, k, e, ey, l⟩ | ⟨kvs, k, b, e, ey, eb, l⟩
  · subst ey
    obtain ⟨z, hd, vs, rel, dd⟩ := dk_rd I.hok e
    refine wpAny_in_of (kV_is ry) hd dd.mapOf ?_
    rw [← (rel.val k).isSome_eq, ← l]
    exact h _ (I.tok _)
  · subst ey
    cases (show u = Value.ref b from ry)
    obtain ⟨z, hd, xs, rel, dd⟩ := dt_rd I.hok e
    refine wpAny_in_heap (tupleKind_room_in1 hu) (key_of I.hok eb) hd dd ?_
    have q := (rel.val k).isSome_eq
    rw [Option.isSome_map] at q
    rw [← q, ← l]
    exact h _ (I.tok _)
/-- a dict's object is replaced -/
theorem d_write {h' : Heap} {t' : Nat} {ob : HO} (I : Inv X pins σ H s) (mu : Mut (H a)) (hs : Heap.SameBut a s.heap h') (he : ∃ q, h'.get? a = some q) (new : ObjOk X.prog X.w (upd H a ob) h' a ob) :
    Inv X pins σ (upd H a ob) { s with heap := h', toks := t' } :=
  I.write (x := a) (e := a) mu (.inl rfl) (fun b q hb z => (hs.2 b hb).trans z) he new
theorem dk_new {P : Program} {w : World} {H' : Hp} {h' : Heap} {kvs : List (Key × V)} {vs : List (Key × Value)} (z : kvs.length ≤ sizeLine) (hd : (a == sysModules) = false) (rel : KV kvs vs) (dd : h'.DictOf (mixKind P w) a vs) :
    ObjOk P w H' h' a (.dK kvs) := ⟨z, hd, vs, rel, dd⟩
/-- d[y] = v -/
theorem d_setItem {H' : Hp} {Q : Unit → Shared → Prop} (hu : A.units + 1 < cLine) (I : Inv X pins σ H s) (g : DPut H a y v H') (ry : RelV y u) (rv : RelV v r) (h : ∀ s', Inv X pins σ H' s' → Q () s') :
    wpAny (model X.prog X.w) A (setItem (.ref a) u r) Q E s := by
  rcases g with ⟨kvs, k, e, ey, l, eH⟩ | ⟨kvs, k, b, e, ey, eb, l, eH⟩
  · subst ey eH
    obtain ⟨z, hd, vs, rel, dd⟩ := dk_of I.hok e
    have hz : vs.length ≤ sizeLine := by rw [← rel.length]; exact z
    have hl : (putK kvs k v).length ≤ sizeLine := by have := length_putK kvs k v; omega
    refine wpAny_setItem_pairs (hsz := hz) (kV_is ry) dd fun h' dd' hs => h _ ?_
    have he : ∃ q, h'.get? a = some q := let ⟨q, _, _, hq, _⟩ := dd'; ⟨q, hq⟩
    exact d_write I (by rw [e]; exact True.intro) hs he (dk_new hl hd (rel.put k rv) dd')
  · subst ey eH
    cases (show u = Value.ref b from ry)
    obtain ⟨z, hd, xs, rel, dd⟩ := dt_of I.hok e
    have hz : xs.length ≤ sizeLine := by rw [← Paired.length rel]; exact z
    have hl : (putK kvs k v).length ≤ sizeLine := by have := length_putK kvs k v; omega
    refine wpAny_setItem_heap (hsz := hz) (tupleKind_room_in1 hu) (key_of I.hok eb) dd fun h' dd' hs => h _ ?_
    obtain ⟨q, es, ep, hq, h2, h3, h4, _, h5⟩ := dd'
    refine d_write I (by rw [e]; exact True.intro) hs ⟨q, hq⟩ ⟨hl, hd, _, (rel.put k eb rv).keeps fun c ys ec => ?_, q, es, ep, hq, h2, h3, h4, h5⟩
    rw [upd_ne (ne_of ec e (fun z => nomatch z))]
    exact ec
end

section
variable {X : Cx} {pins : List (Addr × Obj)} {σ : St} {H : Hp} {s : Shared} {a : Addr} {kvs : List (Key × V)} {k : Key} {u : Value} {A : Around} {E : Value → Shared → Prop}
/-- len(d) -/
theorem d_len {Q : Value → Shared → Prop} (I : Inv X pins σ H s) (e : Rd H a (.dK kvs)) (h : ∀ t s', Inv X pins σ H s' → Q (.int kvs.length t) s') : wpAny (model X.prog X.w) A (call (.builtin "len") [.ref a]) Q E s := by
  obtain ⟨z, hd, vs, rel, dd⟩ := dk_rd I.hok e
  refine call_len_dict hd dd (by rw [← rel.length]; rw [sizeLine_eq] at z; omega) ?_
  rw [← rel.length]
  exact h _ _ (I.tok _)
end


/-! ### readings and rules -/


/-- y in d, y not in d -/
def tDIn (ty td : TE) : TE := fun σ H Q => ty σ H fun y H1 => td σ H1 fun x H2 => ∃ a o, x = .ref a ∧ DGet H2 a y o ∧ Q (.bl o.isSome) H2
/-- d[y] = v -/
def sDPut (td ty tv : TE) : TS := fun D σ H => tv σ H fun v H1 => td σ H1 fun x H2 => ty σ H2 fun y H3 => ∃ a H4, x = .ref a ∧ DPut H3 a y v H4 ∧ D.nx σ H4

section
variable {X : Cx} {o i e value : Expr} {pos pos' tpos : Pos} {td ty tv : TE}
theorem pc_din (hu : X.A.units + 1 < cLine) (hi : PE X i ty) (ho : PE X o td) : PC X .In i o (tDIn ty td) := by
  intro pins s σ H Q I h
  refine thn (hi pins s σ H _ I h) fun iv s1 ⟨y, H1, I1, ry, q1⟩ => thn (ho pins s1 σ H1 _ I1 q1) fun u s2 ⟨x, H2, I2, rx, a, ov, ex, g, q2⟩ => ?_
  subst ex
  obtain rfl : u = Value.ref a := rx
  exact d_in hu I2 g ry fun s3 I3 => ⟨.bl ov.isSome, H2, I3, rfl, q2⟩
theorem ps_dput (hu : X.A.units + 1 < cLine) (ho : PE X o td) (hi : PE X i ty) (hv : PE X value tv) (hs : swapsWith value (some (.Subscript o i pos')) pos.line X.env = pure false) :
    PS X (.Assign [.Subscript o i pos'] value pos) (sDPut td ty tv) := by
  intro pins s σ H D I h
  refine wpAny_Assign_Subscript (thn (hv pins s σ H _ I h) fun r s1 ⟨v, H1, I1, rv, q1⟩ => thn (ho pins s1 σ H1 _ I1 q1) fun u s2 ⟨x, H2, I2, rx, q2⟩ => thn (hi pins s2 σ H2 _ I2 q2) fun iv s3 ⟨y, H3, I3, ry, a, H4, ex, g, q3⟩ => ?_) hs
  subst ex
  obtain rfl : u = Value.ref a := rx
  exact d_setItem hu I3 g ry rv fun s4 I4 => ⟨σ, H4, I4, q3⟩
end


/-! ### displays -/
theorem dk_empty {P : Program} {w : World} {H : Hp} (h : Heap) (hb : sysModules < h.objs.size) : ObjOk P w H (h.push { cls := .type "dict", data := .dict #[] }) h.objs.size (.dK []) :=
  ⟨Nat.zero_le _, beq_eq_false_iff_ne.mpr (Ne.symm (Nat.ne_of_lt hb)), [], .nil, Heap.DictOf.new h⟩
/-- {}, to be a dict of the kind that is wanted -/
def tDNewK : TE := fun _ H Q => ∀ p, H p = none → Q (.ref p) (upd H p (.dK []))
section
variable {X : Cx} {pos : Pos}
theorem pe_dnewK : PE X (.Dict [] [] pos) tDNewK := fun pins s σ H Q I h =>
  wpAny_Dict_empty ⟨.ref s.heap.objs.size, _, I.laid (a := s.heap.objs.size) (o := .dK []) (t' := s.toks) (fun _ _ q => Heap.get?_push_of_some _ q) (Nat.le_refl _) (dk_empty s.heap I.big), rfl, h _ (I.hok.fresh (Nat.le_refl _))⟩
end




/-! ### methods -/


section
variable {X : Cx} {pins : List (Addr × Obj)} {σ : St} {H : Hp} {s : Shared} {a : Addr} {y d : V} {u r : Value} {o : Option V} {A : Around} {E : Value → Shared → Prop}
end

section
variable {X : Cx} {o e f : Expr} {apos cpos : Pos} {td ty tx : TE}
end

/-! ### dict(d): a copy -/
section
variable {X : Cx} {pins : List (Addr × Obj)} {σ : St} {H : Hp} {s : Shared} {a : Addr} {kvs : List (Key × V)} {A : Around} {E : Value → Shared → Prop}
end


section
variable {X : Cx} {pins : List (Addr × Obj)} {σ : St} {H : Hp} {s : Shared} {a : Addr} {y : V} {u : Value} {A : Around} {E : Value → Shared → Prop}
end
end L2

namespace L2
open PySem PySem.Spec PyProof.Rows


section
variable {prog : Program} {w : World} {A : Around} {E : Value → Shared → Prop}


end

section
variable {X : Cx}
end
end L2

namespace L2
open PySem PySem.Spec PyProof.Rows

theorem boot_reversed5 : bootBuiltins "reversed" = some (.type "reversed") := by decide +kernel

section
variable {X : Cx} {pins : List (Addr × Obj)} {σ : St} {H : Hp} {s : Shared} {h' : Heap}

/-! ### locking a thing while a statement runs -/
end
section
variable {X : Cx}

/-! ### one iterator just laid -/
theorem pi_one {tg : Expr} {pins : List (Addr × Obj)} {σ : St} {H : Hp} {s : Shared} {R : It → Hp → Prop} {J : It} {tn : Nat → Heap → Prop} {tk : Nat} (I : Inv X pins σ H s) (o : Obj)
    (T : Turn X.prog X.w X.K tg J [s.heap.objs.size] s.heap.objs.size tn) (st : tn 0 (s.heap.push o)) (q : R J H) : PIE X pins σ tg R (.ref s.heap.objs.size) { s with heap := s.heap.push o, toks := tk } := by
  refine ⟨s.heap.objs.size, [s.heap.objs.size], tn, J, H, rfl, I.kept fun b ob e => Heap.get?_push_of_some _ e, T, st, fun b hb => ?_, q⟩
  have e : b = s.heap.objs.size := by simpa using hb
  subst e
  exact I.fpOk (Nat.le_refl _) (I.hok.fresh (Nat.le_refl _))
end

/-! ### range with a step -/
/-- lo, lo + c, .. (n of them) -/
def Itc (lo c : Int) (n : Nat) : It := ⟨fun i _ => i < n, fun i H x H' => H' = H ∧ x = .int (lo + (i : Nat) * c), fun i _ => n ≤ i⟩
theorem turn_rangeC {P : Program} {w : World} {K : PySem.W.Frag} {tg : Expr} (it : Addr) (lo c : Int) (n : Nat) : Turn P w K tg (Itc lo c n) [it] it (fun i h => IsRangeIter h it (lo + (i : Nat) * c) ((n : Int) - (i : Nat)) c) where
  mem := by simp
  obj := fun i h st b hb => by
    have e : b = it := by simpa using hb
    subst e
    exact ⟨_, st, fun v z => nomatch z⟩
  keep := fun i h h' st k => k it (by simp) _ st
  item := by
    intro X hP hw hK hc i pins s σ H E I hf st hg
    subst hP hw hK
    obtain ⟨f0, f1, f2, f3, f4, f5⟩ := hf it (by simp)
    have W := Walks.range (prog := X.prog) (w := X.w) (I.ok.hd hc) it lo c n
    refine W.item i s _ _ hg st fun v h' tk hv st' kk => ?_
    obtain ⟨t, rfl⟩ := hv
    have I1 : Inv X pins σ H { s with heap := h', toks := tk } := I.turned (fun b o hb e => kk b o (by simpa using hb) e) f0 f1 f3 f4 f5
    exact ⟨_, rfl, go_of (s := { s with heap := h', toks := tk }) (n := "range_iterator") st' rfl rfl (by decide) ⟨.int (lo + (i : Nat) * c), H, I1, ⟨t, rfl⟩, ⟨rfl, rfl⟩, st', fun b hb => (hf b hb).1⟩⟩
  done := by
    intro X hP hw hK hc i pins s σ H E I hf st hg
    subst hP hw hK
    obtain ⟨f0, f1, f2, f3, f4, f5⟩ := hf it (by simp)
    exact wpAny_pyNext_range_end (I.ok.hd hc) st (by have : n ≤ i := hg; omega) fun h' eb => ⟨rfl, I.turned (t' := s.toks) (fun b o hb e => eb b o hb e) f0 f1 f3 f4 f5⟩
  self := fun A i s Q E st h => wpAny_pyIter_rangeiter st h
/-- range(i, j, c): small bounds, n items -/
def RgC (i j c : Int) (n : Nat) : Prop := c ≠ 0 ∧ c.natAbs < 1073741824 ∧ Builtin.Range.small i j c = true ∧ Builtin.Range.rangeSize i j c = n
def iRng3 (ta : TA) : TI := fun σ H R => ta σ H fun vs H1 => ∃ (i j c : Int) (n : Nat), vs = [.int i, .int j, .int c] ∧ RgC i j c n ∧ R (Itc i c n) H1
section
variable {X : Cx} {tg : Expr}
theorem pi_range3 {a b c : Expr} {ta : TA} {p pos : Pos} (hg : Gl X "range") (hm : X.mg "range" = none) (ha : PA X [a, b, c] ta)
    (hs : starEach [a, b, c] X.env = (false, eval a X.env) :: starEach [b, c] X.env := by rfl) (hpl : (backTo pos (starEach [b, c] X.env)).any (·.1) = false := by rfl) :
    PI X tg (.Call (.Name "range" p) [a, b, c] [] pos) (iRng3 ta) := by
  intro pins s σ H R I h
  refine Call_ (ld_blt I hg hm boot_range (PyProof.Rows.callWith_type1 (thn (ha pos pins s σ H _ I h) fun us s1 ⟨vs, H1, I1, r1, q1⟩ => ?_) hs hpl))
  obtain ⟨i, j, k, n, e, ⟨c0, c1, c2, c3⟩, q⟩ := q1
  subst e
  cases r1 with
  | cons r rr =>
    cases rr with
    | cons r' rr =>
      cases rr with
      | cons r'' rr =>
        cases rr
        obtain ⟨t, rfl⟩ := r
        obtain ⟨t', rfl⟩ := r'
        obtain ⟨t'', rfl⟩ := r''
        refine call_range_3 c0 ?_ (.inl (PyProof.noPylong_small c1))
        refine wpAny_pyIter_range (IsRange.new ..) c2 ?_
        have I2 : Inv X pins σ H1 { s1 with heap := s1.heap.push { cls := .type "range", data := .fields #[.int i t, .int j t', .int k t''] } } := I1.kept (t' := s1.toks) fun b o e => Heap.get?_push_of_some _ e
        refine pi_one (tk := s1.toks) I2 _ (turn_rangeC _ i k n) ?_ q
        have e1 : i + ((0 : Nat) : Int) * k = i := by simp
        have e2 : (n : Int) - ((0 : Nat) : Int) = Builtin.Range.rangeSize i j k := by rw [c3]; simp
        show IsRangeIter _ _ (i + ((0 : Nat) : Int) * k) ((n : Int) - ((0 : Nat) : Int)) k
        rw [e1, e2]
        exact Heap.get?_push_size _ rfl
end
/-- the turns of a step range, for the for loop -/
theorem for_rangeC {lo c : Int} {n : Nat} {g : TG} {tb : TS} {D : Ends} {σ : St} {H : Hp} (Pv : Nat → St → Hp → Prop) (h0 : Pv 0 σ H)
    (hs : ∀ i σ H, i < n → Pv i σ H → g (.int (lo + (i : Nat) * c)) σ H fun σ2 H2 => tb { D with nx := Pv (i + 1), ct := Pv (i + 1), bk := D.nx } σ2 H2) (hd : ∀ σ H, Pv n σ H → D.nx σ H) :
    ∃ W : Nat → Nat → St → Hp → Prop, (∃ m, W 0 m σ H) ∧ ∀ i m σ H, W i m σ H →
      ((Itc lo c n).stop i H ∧ D.nx σ H) ∨ ((Itc lo c n).go i H ∧ ∃ N : St → Hp → Prop, (∀ σ' H', N σ' H' → ∃ m', m' < m ∧ W (i + 1) m' σ' H') ∧ ∀ x H', (Itc lo c n).yld i H x H' → g x σ H' fun σ2 H2 => tb { D with nx := N, ct := N, bk := D.nx } σ2 H2) := by
  refine ⟨fun i m σ H => m = n - i ∧ i ≤ n ∧ Pv i σ H, ⟨n, by simp, Nat.zero_le _, h0⟩, ?_⟩
  rintro i m σ H ⟨rfl, hi, p⟩
  by_cases hlt : i < n
  · refine .inr ⟨hlt, Pv (i + 1), fun σ' H' p' => ⟨n - (i + 1), by omega, rfl, hlt, p'⟩, fun x H' y => ?_⟩
    obtain ⟨e, y⟩ := y
    subst e y
    exact hs i σ _ hlt p
  · have e : i = n := by omega
    subst e
    exact .inl ⟨Nat.le_refl _, hd σ H p⟩

/-! ### reversed(list) -/
/-- the list at a (n items at the start, which the loop leaves there), from its end -/
def Itv (K : PySem.W.Frag) (a : Addr) (n : Nat) : It :=
  ⟨fun i H => i < n ∧ ∃ (xs : List V) (x : V), SqL K H a xs ∧ xs[n - 1 - i]? = some x, fun i H x H' => H' = H ∧ ∀ xs, SqL K H a xs → xs[n - 1 - i]? = some x, fun i _ => n ≤ i⟩
theorem turn_rev {P : Program} {w : World} {K : PySem.W.Frag} {tg : Expr} (a it : Addr) (n : Nat) : Turn P w K tg (Itv K a n) [it] it (fun i h => i ≤ n ∧ h.IsRevIter it a ((n : Int) - 1 - (i : Nat))) where
  mem := by simp
  obj := fun i h st b hb => by
    have e : b = it := by simpa using hb
    subst e
    obtain ⟨_, o, e, c, d⟩ := st
    exact ⟨o, e, fun v z => by rw [d] at z; cases z⟩
  keep := fun i h h' st k => ⟨st.1, st.2.at fun o e => k it (by simp) o e⟩
  item := by
    intro X hP hw hK hc i pins s σ H E I hf st hg
    subst hP hw hK
    obtain ⟨hin, xs, x, hq, hx⟩ := hg
    obtain ⟨its, rv, p, hz⟩ := I.list hq
    obtain ⟨u, hu, ru⟩ := rv.get hx
    obtain ⟨f0, f1, f2, f3, f4, f5⟩ := hf it (by simp)
    obtain ⟨_, hit⟩ := st
    have e1 : (n : Int) - 1 - ((i : Nat) : Int) = ((n - 1 - i : Nat) : Int) := by omega
    rw [e1] at hit
    refine wpAny_pyNext_rev_item hit p.isList (x := u) (by simpa using hu) fun h' st' sb => ?_
    have e2 : ((n - 1 - i : Nat) : Int) - 1 = (n : Int) - 1 - ((i + 1 : Nat) : Int) := by omega
    rw [e2] at st'
    have I1 : Inv X pins σ H { s with heap := h' } := I.turned (t' := s.toks) (fun b o hb e => (sb.2 b hb).trans e) f0 f1 f3 f4 f5
    obtain ⟨o, e, c, d⟩ := id st'
    exact ⟨u, rfl, go_of (s := { s with heap := h' }) e c d (by decide) ⟨x, H, I1, ru, ⟨rfl, fun ys hy => by rw [I.list_inj hy hq]; exact hx⟩, ⟨hin, st'⟩, fun b hb => (hf b hb).1⟩⟩
  done := by
    intro X hP hw hK hc i pins s σ H E I hf st hg
    subst hP hw hK
    obtain ⟨f0, f1, f2, f3, f4, f5⟩ := hf it (by simp)
    obtain ⟨hin, hit⟩ := st
    have hge : n ≤ i := hg
    have e1 : (n : Int) - 1 - ((i : Nat) : Int) = -1 := by omega
    rw [e1] at hit
    exact wpAny_pyNext_rev_end (I.ok.hd hc) hit fun h' eb => ⟨rfl, I.turned (t' := s.toks) (fun b o hb e => eb b o hb e) f0 f1 f3 f4 f5⟩
  self := fun A i s Q E st h => wpAny_pyIter_revIter st.2 h
def iRev (K : PySem.W.Frag) (ta : TA) : TI := fun σ H R => ta σ H fun vs H1 => ∃ (a : Addr) (xs : List V), vs = [.ref a] ∧ SqL K H1 a xs ∧ R (Itv K a xs.length) H1
section
variable {X : Cx} {tg : Expr}
theorem pi_reversed {e : Expr} {ta : TA} {p pos : Pos} (hg : Gl X "reversed") (hm : X.mg "reversed" = none) (ha : PA X [e] ta) (hs : starEach [e] X.env = [(false, eval e X.env)] := by rfl) : PI X tg (.Call (.Name "reversed" p) [e] [] pos) (iRev X.K ta) := by
  intro pins s σ H R I h
  refine Call_ (ld_blt I hg hm boot_reversed5 (PyProof.Rows.callWith_type1 (thn (ha pos pins s σ H _ I h) fun us s1 ⟨vs, H1, I1, r1, q1⟩ => ?_) hs rfl))
  obtain ⟨a, xs, e, hq, q⟩ := q1
  subst e
  cases r1 with
  | cons r rr =>
    cases rr
    cases r
    obtain ⟨its, rv, p', hz⟩ := I1.list hq
    have hl := rv.length
    have e1 : ((its.toArray.size : Nat) : Int) - 1 = (xs.length : Int) - 1 - ((0 : Nat) : Int) := by simp only [List.size_toArray]; omega
    refine call_reversed_list p'.isList (wpAny_pyIter_revIter (l := a) (i := ((its.toArray.size : Nat) : Int) - 1) ⟨_, Heap.get?_push_size _ rfl, rfl, rfl⟩ ?_)
    refine pi_one (tk := s1.toks) I1 _ (turn_rev a _ xs.length) ⟨Nat.zero_le _, ?_⟩ q
    rw [← e1]
    exact ⟨_, Heap.get?_push_size _ rfl, rfl, rfl⟩
end

/-! ### a str -/

/-! ### a dict's keys: any dict's entries -/
section
variable {prog : Program} {w : World} {A : Around} {E : Value → Shared → Prop} {s : Shared}
end

/-! ### a locked dict -/
section
variable {X : Cx} {pins : List (Addr × Obj)} {σ : St} {H : Hp} {s : Shared} {d : Addr} {o : Obj}
end

section
variable {P : Program} {w : World} {K : PySem.W.Frag} {tg : Expr} {d : Addr} {o : Obj} {es : Array DictEntry} {ep : Nat}
end

/-! ### for k in d, d.keys(), d.values(), d.items() -/
section
variable {X : Cx} {tg e : Expr} {td : TE} {apos cpos : Pos}
end

/-! ### enumerate(list) -/
/-! ### zip(list, list) -/
end L2

section 
namespace Bits
open PySem PyProof.Rows








end Bits
end 

section 
namespace TL
open PySem PySem.Builtin PySem.Builtin.Str PySem.StrLaws


/-! ### the list functions -/




/-! ### the model's split and partition are these -/




/-! ### computing spl and par -/


/-! ### digits -/

/-! ### words: x.split() -/
end TL
end 

namespace L2
open PySem PySem.Spec PyProof.Rows




section
variable {X : Cx} {pins : List (Addr × Obj)} {σ : St} {H : Hp} {s : Shared} {Q : VK}
end

section
variable {X : Cx}





/-! ### of a text alone -/

/-! ### of a text and a text -/

end

section
variable {X : Cx} {o e : Expr} {to te : TE}

end
end L2

namespace L2
open PySem PySem.Spec PyProof.Rows

section
variable {X : Cx}
end

/-! ### slices of a text -/


end L2

namespace Att
open PySem PySem.W PySem.Calls PyProof.Rows

/-! ### the script -/



/-! ### the attachment: holds_open's last premise (the goal 'hc' behind k_head) from a wpAny of the law's body -/



/-! ### rules over ANY heap (no ledger) from facts about the written part K: the library's own take a ledger (News) for what they write -/
section
variable {prog : Program} {w : World} {A : Around} {E : Value → Shared → Prop} {s : Shared} {K : Frag}





/-! the whole heap as the ledger: makes every rule that writes through a ledger a rule over any heap -/

end
end Att

namespace L2
open PySem PySem.Spec PyProof.Rows



end L2

namespace L2
open PySem PySem.Spec PyProof.Rows


end L2

/- THE LAST THEOREM (shape; LID, My.* are yours):
   My.Adr: a structure of the addresses that your layer names (classes, functions); My.Txt K t: a structure (Prop) of the equations over K;
   My.txt_mk : {K} {implicit addresses ..} (e1 : nsIn K mainGlobals "law" = some (some (.ref f))) (e2 : K.lookup f = some ⟨oc, od, .func (fnOf "law" "law" params body scope dV kV doc pm an cdv ct), sl⟩) (e3 : codeIn K cdv "law" = true) .. : ∃ t, My.Txt K t

set_option maxRecDepth 100000 in
set_option maxHeartbeats 0 in
theorem PySem.Challenge.cw_LID_holds : PySem.Challenge.rw_LID.Holds := by
  w_on; o_law; k_head; (case hw => w_witness2)
  k_fill
  refine L2.walk_of (l := PySem.Challenge.rw_LID) (n := 63) (k := 40) (x := "script") (CX := fun w => ..) (sp := fun _ => My.sp_law) rfl (by decide) rfl ⟨rfl, by decide, by decide⟩ (fun w h Y => PySem.W.kIn_of Y) ?F ?S ?C
  case F =>
    intro w mg fa h KX G hmg
    have T : ∃ t, My.Txt (L2.KOf KX) t := by
      dsimp only [L2.KOf]                          -- K must stand as «<heap const> w.params» for k_is
      refine' My.txt_mk ?e1 ?e2 ?e3 ..
      (case e1 => PySem.W.k_is)                    -- in the order: a name -> its address -> its object -> its parts
      (case e2 => PySem.W.k_is)
      ..
    obtain ⟨t, T⟩ := T
    have e0 := hmg.symm.trans (PySem.W.mg_of KX G T.law)
    cases e0                                       -- fa is the law's own address
    exact ⟨_, fun s u => .of_eq rfl, fun base kb nb => My.law_fn T kb nb⟩     -- if «.of_eq rfl» comes too early: refine' ⟨_, ?b, fun base kb nb => My.law_fn T kb nb⟩; exact fun s u => .of_eq rfl
  case S => exact fun w H a ns hl hO hS => ..
  case C => exact ..
(the tactic k_is has no namespace: write k_is) -/

/-! SHORT WORDS over the layer: a def of the text, its body, what a loop and a test want. -/
namespace L2
open PySem PySem.Spec PyProof.Rows

/-! ### the text by places -/
/-- the j-th statement of a class's body -/
def inClass (s : Stmt) (j : Nat) : Stmt := match s with
  | .ClassDef _ _ _ body _ _ _ _ _ _ _ => body.getD j (.Pass ⟨0, 0, 0, 0⟩)
  | _ => .Pass ⟨0, 0, 0, 0⟩
def defArgs (s : Stmt) : Arguments := match s with
  | .FunctionDef _ a _ _ _ _ _ _ _ _ => a
  | _ => { posonlyargs := [], args := [], vararg := none, kwonlyargs := [], kw_defaults := [], kwarg := none, defaults := [] }
def defBody (s : Stmt) : List Stmt := match s with
  | .FunctionDef _ _ b _ _ _ _ _ _ _ => b
  | _ => []
def defScope (s : Stmt) : Scope := match s with
  | .FunctionDef _ _ _ _ _ _ sc _ _ _ => sc
  | _ => { kind := .function, names := [], isGenerator := false, isCoroutine := false }

/-! ### no exception leaves a def -/
abbrev CX0 : CXT := fun _ _ _ _ _ _ => False
abbrev E0 : XK := fun _ _ _ => False
theorem pass0 {X : Cx} : Passes CX0 X E0 := fun _ _ _ _ _ _ _ h => h.elim

/-! ### a def (or method) of the text as it stands behind the top -/
structure Fun (K : PySem.W.Frag) (x qual : Str) (st : Stmt) (f : Addr) (fd : FuncData) : Prop where
  ex : ∃ (oc : Value) (od : Option Addr) (kV doc pm : Value) (an : Option Addr) (cdv ct : Value) (osl : Array (Option Value)),
    fd = PySem.W.fnOf x qual (defArgs st) (defBody st) (defScope st) .none kV doc pm an cdv ct ∧ K.lookup f = some ⟨oc, od, .func fd, osl⟩ ∧ PySem.W.codeIn K cdv qual = true
  kp : PySem.W.keepIn K (.ref f) = true
section
variable {P : Program} {w : World} {K : PySem.W.Frag} {mg : Str → Option Value} {base : Heap}
/-- THE RULE for a def: its body as a term of rules, and the reading of that term -/
theorem Fun.ok {x qual : Str} {st : Stmt} {f : Addr} {fd : FuncData} {N ps : List Str} {k : Nat} {sp : Sp} (F : Fun K x qual st f fd) (S : FnScope N ps (defScope st)) (len : ∀ vs H Q E, sp vs H Q E → vs.length = ps.length)
    (hbody : ∀ (cdv : Value) (A : Around) (outer : List Env) (s : Shared) (H : Hp) (vs : List V) (Q : VK) (E : XK), Room k (A.deeper (envOfC qual (defScope st) s.heap.objs.size f cdv)) → sp vs H Q E →
      ∃ t, PSs (cxOf CX0 P w K mg base N qual (defScope st) f cdv A outer s H E).nox (defBody st) t ∧ t { nx := fun _ H' => Q .non H', rt := Q } (start N vs) H) : FnOk P w K mg base CX0 (k + 1) f fd ps sp := by
  obtain ⟨oc, od, kV, doc, pm, an, cdv, ct, osl, rfl, lk, hcd⟩ := F.ex
  refine fn_of lk hcd S len fun A outer s H vs Q E hr hsp => ?_
  obtain ⟨t, h, q⟩ := hbody cdv A outer s H vs Q E hr hsp
  exact ⟨t, h.nox, q⟩
/-- how its arguments bind (no defaults): h is «fun _ _ _ _ _ _ us hl => match us, hl with | [_, _], _ => rfl», one _ a parameter -/
theorem Fun.binds {x qual : Str} {st : Stmt} {f : Addr} {fd : FuncData} {ps : List Str} (F : Fun K x qual st f fd)
    (h : ∀ (kV doc pm : Value) (an : Option Addr) (cdv ct : Value) (us : List Value), us.length = ps.length → bindArgs (PySem.W.fnOf x qual (defArgs st) (defBody st) (defScope st) .none kV doc pm an cdv ct) ⟨us, []⟩ = pure (ps.zip us)) : Binds K fd ps [] := by
  obtain ⟨oc, od, kV, doc, pm, an, cdv, ct, osl, rfl, lk, hcd⟩ := F.ex
  exact .all (h kV doc pm an cdv ct)
theorem fun_mk {x qual : Str} {st : Stmt} {f : Addr} {oc : Value} {od an : Option Addr} {osl : Array (Option Value)} {kV doc pm cdv ct : Value} (l : K.lookup f = some ⟨oc, od, .func (PySem.W.fnOf x qual (defArgs st) (defBody st) (defScope st) .none kV doc pm an cdv ct), osl⟩)
    (c : PySem.W.codeIn K cdv qual = true) (k : PySem.W.keepIn K (.ref f) = true) : Fun K x qual st f (PySem.W.fnOf x qual (defArgs st) (defBody st) (defScope st) .none kV doc pm an cdv ct) := ⟨⟨oc, od, kV, doc, pm, an, cdv, ct, osl, rfl, l, c⟩, k⟩
end
theorem hu_of {A : Around} {k : Nat} (hr : Room k A) : A.units + 1 < cLine := Nat.lt_of_le_of_lt (Nat.add_le_add_left (by decide : 1 ≤ 64) _) hr.units
theorem small1000 {n : Nat} (h : n ≤ 1000) : n < sizeLine := Nat.lt_of_le_of_lt h (by decide)

/-! ### expressions in short: the name that stands in the i-th slot -/
section
variable {X : Cx}
theorem pv (i : Nat) {x : Str} {pos : Pos} (hN : X.N[i]? = some x := by rfl) (hv : Vis X.env.scope x := by first | exact Or.inl rfl | exact Or.inr (Or.inl rfl) | exact Or.inr (Or.inr rfl)) (hd : (x == ("__debug__" : Str)) = false := by decide)
    (hcd : (x == ("__classdict__" : Str)) = false := by decide) : PE X (.Name x pos) (tVar i) := pe_var hN hv hd hcd
/-- len of a dict -/
theorem call_lenD : CallR X (.builtin "len") (fun xs H Q => ∃ a kvs, xs = [V.ref a] ∧ H a = some (.dK kvs) ∧ Q (.int kvs.length) H) := by
  intro pins s σ H xs us Q I r h
  obtain ⟨a, kvs, rfl, ha, q⟩ := h
  obtain ⟨u, rfl, ru⟩ := vals1 r
  cases ru
  exact d_len I (.inl ha) fun t s' I' => ⟨.int kvs.length, H, I', ⟨t, rfl⟩, q⟩
end

/-! ### tests -/
theorem iteF {A B : Prop} (h : B) : if false = true then A else B := by
  rw [if_neg Bool.false_ne_true]
  exact h
theorem iteT {A B : Prop} (h : A) : if true = true then A else B := by
  rw [if_pos rfl]
  exact h
theorem ite2 {c A B : Prop} [Decidable c] (h1 : c → A) (h2 : ¬ c → B) : if c then A else B := by
  by_cases h : c
  · rw [if_pos h]
    exact h1 h
  · rw [if_neg h]
    exact h2 h

/-! ### heaps -/
/-- all that was tracked is as it was -/
def Same (H H' : Hp) : Prop := ∀ b o, H b = some o → H' b = some o
theorem Same.trans {H H1 H2 : Hp} (a : Same H H1) (b : Same H1 H2) : Same H H2 := fun c o h => b c o (a c o h)
theorem Same.free {H H' : Hp} (e : Same H H') {l : Addr} (h : H' l = Option.none) : H l = Option.none := by
  cases q : H l with
  | none => rfl
  | some o =>
    rw [e l o q] at h
    cases h
theorem Same.seq {K : PySem.W.Frag} {H H' : Hp} {a : Addr} {xs : List V} (e : Same H H') (h : SqL K H a xs) : SqL K H' a xs := by
  rcases h with (h | ⟨o, h⟩) | h
  · exact .inl (.inl (e _ _ h))
  · exact .inl (.inr ⟨o, e _ _ h⟩)
  · exact .inr h

/-! ### a dict's pairs: keys that differ -/
section
variable {κ : Type} [DecidableEq κ]
theorem valV_not {kvs : List (κ × V)} {k : κ} (h : valV kvs k = none) : ¬ k ∈ kvs.map (·.1) := by
  intro m
  obtain ⟨p, hp, e⟩ := List.mem_map.mp m
  have q : (kvs.any fun kv => decide (kv.1 = k)) = true := List.any_eq_true.mpr ⟨p, hp, decide_eq_true e⟩
  rw [valV_any, h] at q
  exact absurd q (by simp)
theorem valV_in {kvs : List (κ × V)} {k : κ} {v : V} (h : valV kvs k = some v) : k ∈ kvs.map (·.1) := by
  have q : (kvs.any fun kv => decide (kv.1 = k)) = true := by
    rw [valV_any, h]
    all_goals rfl
  obtain ⟨p, hp, e⟩ := List.any_eq_true.mp q
  exact List.mem_map.mpr ⟨p, hp, of_decide_eq_true e⟩
end
/-! ### lists -/
end L2
set_option Elab.async false
set_option linter.all false
set_option maxRecDepth 100000
set_option maxHeartbeats 2000000
namespace L2
open PySem PySem.Spec PyProof.Rows
open PySem.W (WData Codec OpenSpec Well WellAll ReadsW ReadsAllW)
/-! ### an answer as data -/
mutual
/-- x stands for the datum d, lists and tuples all the way -/
inductive Dw (K : PySem.W.Frag) (H : Hp) : V → WData → Prop
  | non : Dw K H .non .none
  | bl (b : Bool) : Dw K H (.bl b) (.bool b)
  | int (i : Int) : Dw K H (.int i) (.int i)
  | str (x : Str) : Dw K H (.str x) (.str x)
  | byt (b : Array UInt8) : Dw K H (.byt b) (.bytes b.toList)
  | lst {a : Addr} {xs : List V} {ds : List WData} : SqL K H a xs → DwAll K H xs ds → Dw K H (.ref a) (.list ds)
  | tup {a : Addr} {xs : List V} {ds : List WData} : SqT K H a xs → DwAll K H xs ds → Dw K H (.ref a) (.tuple ds)
inductive DwAll (K : PySem.W.Frag) (H : Hp) : List V → List WData → Prop
  | nil : DwAll K H [] []
  | cons {v : V} {vs : List V} {d : WData} {ds : List WData} : Dw K H v d → DwAll K H vs ds → DwAll K H (v :: vs) (d :: ds)
end
theorem dw_ints {K : PySem.W.Frag} {H : Hp} : ∀ ns : List Int, DwAll K H (ns.map V.int) (ns.map WData.int)
  | [] => .nil
  | n :: r => .cons (.int n) (dw_ints r)
theorem ints_dw {K : PySem.W.Frag} {H : Hp} : ∀ (ns : List Int) (xs : List V), DwAll K H xs (ns.map WData.int) → xs = ns.map V.int
  | [], xs, h => by
    cases h
    rfl
  | n :: r, xs, h => by
    cases h with
    | cons h1 h2 =>
      cases h1
      rw [ints_dw r _ h2] <;> rfl
section
variable {P : Program} {w : World} {K : PySem.W.Frag} {H : Hp} {h : Heap} {R : PySem.W.WRecords} {cl : Str → Option Addr}
theorem sqL_at {a : Addr} {xs : List V} (hok : HOk P w H h) (KX : K.In h) (q : SqL K H a xs) : ∃ (its : List Value) (o : Obj) (n : Nat), Vals xs its ∧ h.get? a = some o ∧ o.cls = .type "list" ∧ o.data = .seq its.toArray n := by
  rcases q with q | ⟨o, its, n, e, hc, _, hd, _, hv⟩
  · obtain ⟨_, its, n, hv, e⟩ := (show ObjOk P w H h a (.lst xs) from q.ok hok)
    exact ⟨its, _, n, hv, e, rfl, rfl⟩
  · exact ⟨its.toList, o, n, hv, KX _ _ e, hc, by simp [hd]⟩
theorem sqT_at {a : Addr} {xs : List V} (hok : HOk P w H h) (KX : K.In h) (q : SqT K H a xs) : ∃ (its : List Value) (o : Obj) (n : Nat), Vals xs its ∧ h.get? a = some o ∧ o.cls = .type "tuple" ∧ o.data = .seq its.toArray n := by
  rcases q with q | ⟨o, its, n, e, hc, hd, _, hv⟩
  · obtain ⟨_, its, hv, p⟩ := (show ObjOk P w H h a (.tup xs) from q.ok hok)
    obtain ⟨o, e, hc, n, hd⟩ := p.tup
    exact ⟨its, o, n, hv, e, hc, hd⟩
  · exact ⟨its.toList, o, n, hv, KX _ _ e, hc, by simp [hd]⟩
mutual
theorem Dw.reads (hok : HOk P w H h) (KX : K.In h) : ∀ (d : WData) (v : V) (u : Value), Dw K H v d → RelV v u → ∃ as, ReadsW R cl h u d as
  | .none, _, _, x, r => by
    cases x
    cases r
    exact ⟨_, ReadsW.none⟩
  | .bool b, _, _, x, r => by
    cases x
    cases r
    exact ⟨_, ReadsW.bool b⟩
  | .int i, _, _, x, r => by
    cases x
    obtain ⟨t, rfl⟩ := r
    exact ⟨_, ReadsW.int i t⟩
  | .str s, _, _, x, r => by
    cases x
    obtain ⟨t, rfl⟩ := r
    exact ⟨_, ReadsW.str s t⟩
  | .bytes b, _, _, x, r => by
    cases x
    obtain ⟨t, rfl⟩ := r
    exact ⟨_, ReadsW.bytes _ t⟩
  | .list ds, _, _, x, r => by
    cases x with
    | lst hs ha =>
      cases r
      obtain ⟨its, o, n, rv, ho, hc, hd⟩ := sqL_at hok KX hs
      obtain ⟨as, hr⟩ := Dw.readsAll hok KX ds _ its ha rv
      exact ⟨_, ReadsW.list ho hc hd hr⟩
  | .tuple ds, _, _, x, r => by
    cases x with
    | tup hs ha =>
      cases r
      obtain ⟨its, o, n, rv, ho, hc, hd⟩ := sqT_at hok KX hs
      obtain ⟨as, hr⟩ := Dw.readsAll hok KX ds _ its ha rv
      exact ⟨_, ReadsW.tuple ho hc hd hr⟩
  | .float _, _, _, x, _ => by cases x
  | .dict _, _, _, x, _ => by cases x
  | .bytearray _, _, _, x, _ => by cases x
  | .set _, _, _, x, _ => by cases x
  | .frozenset _, _, _, x, _ => by cases x
  | .obj _ _, _, _, x, _ => by cases x
theorem Dw.readsAll (hok : HOk P w H h) (KX : K.In h) : ∀ (ds : List WData) (vs : List V) (us : List Value), DwAll K H vs ds → Vals vs us → ∃ as, ReadsAllW R cl h us ds as
  | [], _, _, x, r => by
    cases x
    cases r
    exact ⟨_, ReadsAllW.nil⟩
  | d :: ds, _, _, x, r => by
    cases x with
    | cons h1 h2 =>
      cases r with
      | cons r1 r2 =>
        obtain ⟨as, q1⟩ := Dw.reads hok KX d _ _ h1 r1
        obtain ⟨bs, q2⟩ := Dw.readsAll hok KX ds _ _ h2 r2
        exact ⟨_, ReadsAllW.cons q1 q2⟩
end
end
/-! ### the arguments -/
mutual
/-- data that a codec tells -/
def plW : WData → Bool
  | .none => true
  | .bool _ => true
  | .int _ => true
  | .str _ => true
  | .bytes _ => true
  | .list xs => plWs xs
  | .tuple xs => plWs xs
  | _ => false
def plWs : List WData → Bool
  | [] => true
  | x :: r => plW x && plWs r
end
theorem plWs_map {α : Type} {f : α → WData} (h : ∀ a, plW (f a) = true) : ∀ l : List α, plWs (l.map f) = true
  | [] => rfl
  | x :: r => by
    show (plW (f x) && plWs (r.map f)) = true
    rw [h x, plWs_map h r] <;> rfl
theorem pl_enc : ∀ (c : Codec) (a : c.denote), plW (c.enc a) = true
  | .unit, _ => rfl
  | .bool, _ => rfl
  | .int _ _, _ => rfl
  | .nat _ _, _ => rfl
  | .u8, _ => rfl
  | .bytes _ _, _ => rfl
  | .text _ _ _ _, _ => rfl
  | .list _ _ c, a => plWs_map (fun x => pl_enc c x) a
  | .pair c d, a => by
    show (plW (c.enc a.1) && (plW (d.enc a.2) && true)) = true
    rw [pl_enc c a.1, pl_enc d a.2] <;> rfl
  | .triple c d e, a => by
    show (plW (c.enc a.1) && (plW (d.enc a.2.1) && (plW (e.enc a.2.2) && true))) = true
    rw [pl_enc c a.1, pl_enc d a.2.1, pl_enc e a.2.2] <;> rfl
  | .option c, none => rfl
  | .option c, some x => pl_enc c x
theorem pl_encAll : ∀ (cs : List Codec) (a : Codec.denoteAll cs), plWs (Codec.encAll cs a) = true
  | [], _ => rfl
  | c :: cs, a => by
    show (plW (c.enc a.1) && plWs (Codec.encAll cs a.2)) = true
    rw [pl_enc c a.1, pl_encAll cs a.2] <;> rfl
theorem weight_mem : ∀ {xs : List WData} {d : WData}, d ∈ xs → d.weight ≤ WData.weightAll xs
  | [], d, h => absurd h (by simp)
  | x :: r, d, h => by
    show d.weight ≤ x.weight + 1 + WData.weightAll r
    rcases List.mem_cons.mp h with e | m
    · rw [e]
      omega
    · have z := weight_mem m
      omega
def toV : Value → V
  | .none => .non
  | .bool b => .bl b
  | .int i _ => .int i
  | .str x _ => .str x
  | .bytes b _ => .byt b
  | .ref a => .ref a
  | _ => .non
/-- a value of the arguments, its objects among A -/
def OkU (A : List Addr) : Value → Prop
  | .none => True
  | .bool _ => True
  | .int _ _ => True
  | .str _ _ => True
  | .bytes _ _ => True
  | .ref a => a ∈ A
  | _ => False
theorem OkU.mono {A B : List Addr} (h : ∀ a ∈ A, a ∈ B) : ∀ {u : Value}, OkU A u → OkU B u := fun {u} x => by
  cases u with
  | ref a => exact h a x
  | none => trivial
  | bool b => trivial
  | int i t => trivial
  | str s t => trivial
  | bytes b t => trivial
  | _ => exact False.elim x
theorem relV_toV {A : List Addr} {u : Value} (x : OkU A u) : RelV (toV u) u := by
  cases u with
  | ref a => rfl
  | none => rfl
  | bool b => rfl
  | int i t => exact ⟨t, rfl⟩
  | str s t => exact ⟨t, rfl⟩
  | bytes b t => exact ⟨t, rfl⟩
  | _ => exact False.elim x
theorem vals_toV {A : List Addr} : ∀ {vs : List Value}, (∀ u ∈ vs, OkU A u) → Vals (vs.map toV) vs
  | [], _ => .nil
  | u :: r, h => .cons (relV_toV (h u (List.mem_cons_self ..))) (vals_toV fun x hx => h x (List.mem_cons_of_mem _ hx))
/-- an object of the arguments -/
def ArgOb (h : Heap) (A : List Addr) (a : Addr) : Prop := ∃ vs : List Value, vs.length ≤ sizeLine ∧ (∀ u ∈ vs, OkU A u) ∧
  (h.get? a = some { cls := .type "list", data := .seq vs.toArray } ∨ h.get? a = some { cls := .type "tuple", data := .seq vs.toArray })
theorem ArgOb.mono {h : Heap} {A B : List Addr} {a : Addr} (k : ∀ a ∈ A, a ∈ B) (x : ArgOb h A a) : ArgOb h B a := by
  obtain ⟨vs, h1, h2, h3⟩ := x
  exact ⟨vs, h1, fun u hu => (h2 u hu).mono k, h3⟩
theorem wellAll_len {P : Params} {h : Heap} : ∀ {vs : List Value} {ds : List WData}, WellAll P h vs ds → vs.length = ds.length
  | _, _, .nil => rfl
  | _, _, .cons _ b => by
    show _ + 1 = _ + 1
    rw [wellAll_len b]
theorem well_list {P : Params} {h : Heap} {v : Value} {ds : List WData} (x : Well P h v (.list ds)) : ∃ (a : Addr) (vs : List Value), v = .ref a ∧ h.get? a = some { cls := .type "list", data := .seq vs.toArray } ∧ WellAll P h vs ds := by
  cases x with
  | list ho hall => exact ⟨_, _, rfl, ho, hall⟩
theorem well_tuple {P : Params} {h : Heap} {v : Value} {ds : List WData} (x : Well P h v (.tuple ds)) : ∃ (a : Addr) (vs : List Value), v = .ref a ∧ h.get? a = some { cls := .type "tuple", data := .seq vs.toArray } ∧ WellAll P h vs ds := by
  cases x with
  | tuple ho hall => exact ⟨_, _, rfl, ho, hall⟩
theorem well_cons {P : Params} {h : Heap} {us : List Value} {d : WData} {ds : List WData} (x : WellAll P h us (d :: ds)) : ∃ (v : Value) (vs : List Value), us = v :: vs ∧ Well P h v d ∧ WellAll P h vs ds := by
  cases x with
  | cons a b => exact ⟨_, _, rfl, a, b⟩
theorem line_of {n : Nat} (h : n ≤ 1048576) : n ≤ sizeLine := Nat.le_trans h (by decide)
section
variable {P : Params} {h : Heap}
mutual
theorem area_one : ∀ (d : WData) (v : Value), Well P h v d → plW d = true → d.weight ≤ 1048576 → ∃ A : List Addr, OkU A v ∧ ∀ a ∈ A, ArgOb h A a
  | .none, _, x, _, _ => by
    cases x
    exact ⟨[], trivial, fun a m => absurd m (by simp)⟩
  | .bool b, _, x, _, _ => by
    cases x
    exact ⟨[], trivial, fun a m => absurd m (by simp)⟩
  | .int i, _, x, _, _ => by
    cases x
    exact ⟨[], trivial, fun a m => absurd m (by simp)⟩
  | .str s, _, x, _, _ => by
    cases x
    exact ⟨[], trivial, fun a m => absurd m (by simp)⟩
  | .bytes b, _, x, _, _ => by
    cases x
    exact ⟨[], trivial, fun a m => absurd m (by simp)⟩
  | .list ds, _, x, p, z => by
    obtain ⟨a, vs, rfl, ho, hall⟩ := well_list x
    have z2 : WData.weightAll ds ≤ 1048576 := z
    obtain ⟨A, h1, h2⟩ := area_all ds _ hall p fun d hd => Nat.le_trans (weight_mem hd) z2
    have k : ∀ b ∈ A, b ∈ a :: A := fun b hb => List.mem_cons_of_mem _ hb
    refine ⟨a :: A, List.mem_cons_self .., fun b hb => ?_⟩
    rcases List.mem_cons.mp hb with e | m
    · rw [e]
      exact ⟨vs, line_of (by rw [wellAll_len hall]; exact Nat.le_trans (PySem.W.length_le_weightAllW ds) z2), fun u hu => (h1 u hu).mono k, .inl ho⟩
    · exact (h2 b m).mono k
  | .tuple ds, _, x, p, z => by
    obtain ⟨a, vs, rfl, ho, hall⟩ := well_tuple x
    have z2 : WData.weightAll ds ≤ 1048576 := z
    obtain ⟨A, h1, h2⟩ := area_all ds _ hall p fun d hd => Nat.le_trans (weight_mem hd) z2
    have k : ∀ b ∈ A, b ∈ a :: A := fun b hb => List.mem_cons_of_mem _ hb
    refine ⟨a :: A, List.mem_cons_self .., fun b hb => ?_⟩
    rcases List.mem_cons.mp hb with e | m
    · rw [e]
      exact ⟨vs, line_of (by rw [wellAll_len hall]; exact Nat.le_trans (PySem.W.length_le_weightAllW ds) z2), fun u hu => (h1 u hu).mono k, .inr ho⟩
    · exact (h2 b m).mono k
  | .float _, _, _, p, _ => Bool.noConfusion (show false = true from p)
  | .dict _, _, _, p, _ => Bool.noConfusion (show false = true from p)
  | .bytearray _, _, _, p, _ => Bool.noConfusion (show false = true from p)
  | .set _, _, _, p, _ => Bool.noConfusion (show false = true from p)
  | .frozenset _, _, _, p, _ => Bool.noConfusion (show false = true from p)
  | .obj _ _, _, _, p, _ => Bool.noConfusion (show false = true from p)
theorem area_all : ∀ (ds : List WData) (vs : List Value), WellAll P h vs ds → plWs ds = true → (∀ d ∈ ds, d.weight ≤ 1048576) → ∃ A : List Addr, (∀ u ∈ vs, OkU A u) ∧ ∀ a ∈ A, ArgOb h A a
  | [], _, x, _, _ => by
    cases x
    exact ⟨[], fun u m => absurd m (by simp), fun a m => absurd m (by simp)⟩
  | d :: ds, _, x, p, z => by
    obtain ⟨v, vs, rfl, x1, x2⟩ := well_cons x
    have q : plW d = true ∧ plWs ds = true := Bool.and_eq_true_iff.mp p
    obtain ⟨A, a1, a2⟩ := area_one d v x1 q.1 (z d (List.mem_cons_self ..))
    obtain ⟨B, b1, b2⟩ := area_all ds vs x2 q.2 fun e he => z e (List.mem_cons_of_mem _ he)
    have kA : ∀ b ∈ A, b ∈ A ++ B := fun b hb => List.mem_append.mpr (.inl hb)
    have kB : ∀ b ∈ B, b ∈ A ++ B := fun b hb => List.mem_append.mpr (.inr hb)
    refine ⟨A ++ B, fun u hu => ?_, fun b hb => ?_⟩
    · rcases List.mem_cons.mp hu with e | m
      · rw [e]
        exact a1.mono kA
      · exact (b1 u m).mono kB
    · rcases List.mem_append.mp hb with m | m
      · exact (a2 b m).mono kA
      · exact (b2 b m).mono kB
end
end
/-- what is tracked of an argument's object -/
def hoOf (o : Obj) : Option HO := match o.data with
  | .seq vs _ => if (o.cls == Value.type "list") = true then some (.frz o (.lst (vs.toList.map toV))) else some (.frz o (.tup (vs.toList.map toV)))
  | _ => none
def argH (K : PySem.W.Frag) (h : Heap) (A : List Addr) : Hp := fun b => if b ∈ A then (if (K.lookup b).isNone = true then (h.get? b).bind hoOf else none) else none
/-- nothing is tracked but what is known to the object -/
def OnlyF (H : Hp) : Prop := ∀ b, H b = none ∨ ∃ o u, H b = some (.frz o u)
theorem hoOf_lst (vs : List Value) : hoOf { cls := .type "list", data := .seq vs.toArray } = some (.frz { cls := .type "list", data := .seq vs.toArray } (.lst (vs.map toV))) := by
  show (if (Value.type "list" == Value.type "list") = true then some (HO.frz { cls := .type "list", data := .seq vs.toArray } (.lst (vs.toArray.toList.map toV))) else some (HO.frz { cls := .type "list", data := .seq vs.toArray } (.tup (vs.toArray.toList.map toV)))) = _
  rw [if_pos (beq_self_eq_true _)]
theorem hoOf_tup (vs : List Value) : hoOf { cls := .type "tuple", data := .seq vs.toArray } = some (.frz { cls := .type "tuple", data := .seq vs.toArray } (.tup (vs.map toV))) := by
  show (if (Value.type "tuple" == Value.type "list") = true then some (HO.frz { cls := .type "tuple", data := .seq vs.toArray } (.lst (vs.toArray.toList.map toV))) else some (HO.frz { cls := .type "tuple", data := .seq vs.toArray } (.tup (vs.toArray.toList.map toV)))) = _
  rw [if_neg (by decide)]
section
variable {P : Program} {w : World} {K : PySem.W.Frag} {h : Heap} {A : List Addr}
theorem argH_at {b : Addr} {o : Obj} (hb : b ∈ A) (hk : K.lookup b = none) (e : h.get? b = some o) : argH K h A b = hoOf o := by
  unfold argH
  rw [if_pos hb, hk, if_pos (show (none : Option Obj).isNone = true from rfl), e] <;> rfl
theorem of_argH {b : Addr} {u : HO} (q : argH K h A b = some u) : b ∈ A ∧ K.lookup b = none := by
  unfold argH at q
  by_cases hb : b ∈ A
  · rw [if_pos hb] at q
    cases hk : K.lookup b with
    | none => exact ⟨hb, rfl⟩
    | some o =>
      rw [hk, if_neg (by simp)] at q
      cases q
  · rw [if_neg hb] at q
    cases q
/-- what stands tracked -/
theorem argH_is (ar : ∀ a ∈ A, ArgOb h A a) {b : Addr} {u : HO} (q : argH K h A b = some u) : K.lookup b = none ∧ ∃ vs : List Value, vs.length ≤ sizeLine ∧ (∀ u ∈ vs, OkU A u) ∧
    ((h.get? b = some { cls := .type "list", data := .seq vs.toArray } ∧ u = .frz { cls := .type "list", data := .seq vs.toArray } (.lst (vs.map toV))) ∨
     (h.get? b = some { cls := .type "tuple", data := .seq vs.toArray } ∧ u = .frz { cls := .type "tuple", data := .seq vs.toArray } (.tup (vs.map toV)))) := by
  obtain ⟨hb, hk⟩ := of_argH q
  obtain ⟨vs, h1, h2, h3⟩ := ar b hb
  refine ⟨hk, vs, h1, h2, ?_⟩
  rcases h3 with e | e
  · rw [argH_at hb hk e, hoOf_lst] at q
    exact .inl ⟨e, (Option.some.inj q).symm⟩
  · rw [argH_at hb hk e, hoOf_tup] at q
    exact .inr ⟨e, (Option.some.inj q).symm⟩
theorem argH_only (ar : ∀ a ∈ A, ArgOb h A a) : OnlyF (argH K h A) := fun b => by
  cases q : argH K h A b with
  | none => exact .inl rfl
  | some u =>
    obtain ⟨_, vs, _, _, ⟨_, e⟩ | ⟨_, e⟩⟩ := argH_is ar q
    · exact .inr ⟨_, _, by rw [e]⟩
    · exact .inr ⟨_, _, by rw [e]⟩
theorem argH_ok (ar : ∀ a ∈ A, ArgOb h A a) : HOk P w (argH K h A) h := fun b u q => by
  obtain ⟨_, vs, h1, h2, ⟨e, rfl⟩ | ⟨e, rfl⟩⟩ := argH_is ar q
  · exact ⟨e, by rw [List.length_map]; exact h1, vs, _, vals_toV h2, e⟩
  · exact ⟨e, by rw [List.length_map]; exact h1, vs, vals_toV h2, _, e⟩
theorem seq_inj {c c' : Value} {vs us : List Value} (e : (some { cls := c, data := .seq vs.toArray } : Option Obj) = some { cls := c', data := .seq us.toArray }) : c = c' ∧ vs = us := by
  have e1 := Option.some.inj e
  have e2 : c = c' := congrArg Obj.cls e1
  have e3 : Data.seq vs.toArray = Data.seq us.toArray := congrArg Obj.data e1
  injection e3 with e4
  refine ⟨e2, ?_⟩
  have e5 := congrArg Array.toList e4
  simpa using e5
/-- a list argument -/
theorem argL (KX : K.In h) (ar : ∀ a ∈ A, ArgOb h A a) {a : Addr} {vs : List Value} (ha : a ∈ A) (e : h.get? a = some { cls := .type "list", data := .seq vs.toArray }) : (∀ u ∈ vs, OkU A u) ∧ SqL K (argH K h A) a (vs.map toV) := by
  obtain ⟨us, h1, h2, h3⟩ := ar a ha
  have hu : us = vs := by
    rcases h3 with q | q
    · rw [e] at q
      exact (seq_inj q).2.symm
    · rw [e] at q
      exact absurd (Value.type.inj (seq_inj q).1) (by decide)
  subst hu
  refine ⟨h2, ?_⟩
  cases hk : K.lookup a with
  | none => exact .inl (.inr ⟨_, by rw [argH_at ha hk e, hoOf_lst]⟩)
  | some o =>
    have e2 := KX a o hk
    rw [e] at e2
    obtain rfl := Option.some.inj e2
    exact .inr ⟨_, us.toArray, _, hk, rfl, rfl, rfl, by rw [List.size_toArray]; exact h1, by simpa using vals_toV h2⟩
theorem argT (KX : K.In h) (ar : ∀ a ∈ A, ArgOb h A a) {a : Addr} {vs : List Value} (ha : a ∈ A) (e : h.get? a = some { cls := .type "tuple", data := .seq vs.toArray }) : (∀ u ∈ vs, OkU A u) ∧ SqT K (argH K h A) a (vs.map toV) := by
  obtain ⟨us, h1, h2, h3⟩ := ar a ha
  have hu : us = vs := by
    rcases h3 with q | q
    · rw [e] at q
      exact absurd (Value.type.inj (seq_inj q).1) (by decide)
    · rw [e] at q
      exact (seq_inj q).2.symm
  subst hu
  refine ⟨h2, ?_⟩
  cases hk : K.lookup a with
  | none => exact .inl (.inr ⟨_, by rw [argH_at ha hk e, hoOf_tup]⟩)
  | some o =>
    have e2 := KX a o hk
    rw [e] at e2
    obtain rfl := Option.some.inj e2
    exact .inr ⟨_, us.toArray, _, hk, rfl, rfl, by rw [List.size_toArray]; exact h1, by simpa using vals_toV h2⟩
mutual
theorem dw_one {Pm : Params} (KX : K.In h) (ar : ∀ a ∈ A, ArgOb h A a) : ∀ (d : WData) (v : Value), Well Pm h v d → plW d = true → OkU A v → Dw K (argH K h A) (toV v) d
  | .none, _, x, _, _ => by
    cases x
    exact .non
  | .bool b, _, x, _, _ => by
    cases x
    exact .bl b
  | .int i, _, x, _, _ => by
    cases x
    exact .int i
  | .str s, _, x, _, _ => by
    cases x
    exact .str s
  | .bytes b, _, x, _, _ => by
    cases x
    have z := Dw.byt (K := K) (H := argH K h A) b.toArray
    exact z
  | .list ds, _, x, p, hu => by
    obtain ⟨a, vs, rfl, ho, hall⟩ := well_list x
    obtain ⟨h2, hs⟩ := argL KX ar hu ho
    exact .lst hs (dw_all KX ar ds _ hall p h2)
  | .tuple ds, _, x, p, hu => by
    obtain ⟨a, vs, rfl, ho, hall⟩ := well_tuple x
    obtain ⟨h2, hs⟩ := argT KX ar hu ho
    exact .tup hs (dw_all KX ar ds _ hall p h2)
  | .float _, _, _, p, _ => Bool.noConfusion (show false = true from p)
  | .dict _, _, _, p, _ => Bool.noConfusion (show false = true from p)
  | .bytearray _, _, _, p, _ => Bool.noConfusion (show false = true from p)
  | .set _, _, _, p, _ => Bool.noConfusion (show false = true from p)
  | .frozenset _, _, _, p, _ => Bool.noConfusion (show false = true from p)
  | .obj _ _, _, _, p, _ => Bool.noConfusion (show false = true from p)
theorem dw_all {Pm : Params} (KX : K.In h) (ar : ∀ a ∈ A, ArgOb h A a) : ∀ (ds : List WData) (vs : List Value), WellAll Pm h vs ds → plWs ds = true → (∀ u ∈ vs, OkU A u) → DwAll K (argH K h A) (vs.map toV) ds
  | [], _, x, _, _ => by
    cases x
    exact .nil
  | d :: ds, _, x, p, hu => by
    obtain ⟨v, vs, rfl, x1, x2⟩ := well_cons x
    have q : plW d = true ∧ plWs ds = true := Bool.and_eq_true_iff.mp p
    exact .cons (dw_one KX ar d v x1 q.1 (hu _ (List.mem_cons_self ..))) (dw_all KX ar ds vs x2 q.2 fun u m => hu u (List.mem_cons_of_mem _ m))
end
end
/-! ### the call -/
theorem spec_call {P : Program} {w : World} {K : PySem.W.Frag} {mg mb : Str → Option Value} {CX : CXT} {k : Nat} {fa : Addr} {fd : FuncData} {ps : List Str} {sp : Sp} {s₁ : Shared} {vals : List Value} {ds : List WData} {R : PySem.W.WRecords} {cl : Str → Option Addr} {d0 : WData}
    (KX : K.In s₁.heap) (hns : s₁.heap.Ns mainGlobals mg) (hb : s₁.heap.Ns builtinsNs mb) (hbb : ∀ x : Str, x ≠ "__name__" → mb x = bootBuiltins x) (hlim : s₁.heap.NoLimit) (hg : s₁.gens = #[])
    (hwl : WellAll w.params s₁.heap vals ds) (hpl : plWs ds = true) (hwt : ∀ d ∈ ds, d.weight ≤ 1048576) (hr : Room k callerA)
    (F : ∀ base : Heap, K.In base → base.Ns mainGlobals mg → FnOk P w K mg base CX k fa fd ps sp) (hbind : ∀ (s : Shared) (us : List Value), us.length = ps.length → BindsTo s fd ⟨us, []⟩ (ps.zip us)) (hlen : ds.length = ps.length)
    (hsp : ∀ (H : Hp) (xs : List V), OnlyF H → DwAll K H xs ds → sp xs H (fun v H' => Dw K H' v d0) fun _ _ _ => False)
    (hCX : ∀ H e s', CX [] H s₁ (fun _ _ _ => False) e s' → False) :
    codeAny (model P w) callerA (.call (.ref fa) ⟨vals, []⟩) (fun r s' => ∃ u as, r = .ok (.ret u) ∧ ReadsW R cl s'.heap u d0 as ∧ OldK s₁.heap s'.heap ∧ s'.os = s₁.os ∧ AllBare s'.gens) s₁ := by
  obtain ⟨A, ho, ar⟩ := area_all ds vals hwl hpl hwt
  have hO : OnlyF (argH K s₁.heap A) := argH_only ar
  have hok : HOk P w (argH K s₁.heap A) s₁.heap := argH_ok ar
  have hS := dw_all KX ar ds vals hwl hpl ho
  have hV := vals_toV ho
  have hK : ∀ b u, argH K s₁.heap A b = some u → K.lookup b = none := fun b u q => (argH_is ar q).1
  have noA : ∀ {b : Addr} {o : Obj} {es : Array DictEntry} {ep : Nat}, s₁.heap.get? b = some o → o.data = .dict es ep → argH K s₁.heap A b = none := fun {b o es ep} e d => by
    cases q : argH K s₁.heap A b with
    | none => rfl
    | some u =>
      obtain ⟨_, vs, _, _, ⟨e2, _⟩ | ⟨e2, _⟩⟩ := argH_is ar q
      · rw [e2] at e
        cases e
        have d' : Data.seq vs.toArray _ = Data.dict es ep := d
        cases d'
      · rw [e2] at e
        cases e
        have d' : Data.seq vs.toArray _ = Data.dict es ep := d
        cases d'
  generalize argH K s₁.heap A = H at hO hok hS hK noA
  have base_of : ∀ {b : Addr} {o : Obj}, s₁.heap.get? b = some o → H b = none → (hidT s₁.heap H).get? b = some o := fun e n => hidT_get e n
  have nsK : ∀ {b : Addr} {m : Str → Option Value}, s₁.heap.Ns b m → (hidT s₁.heap H).Ns b m := fun {b m} ⟨o, es, ep, e, d, r⟩ => ⟨o, es, ep, base_of e (noA e d), d, r⟩
  have nK : ∀ b o, K.lookup b = some o → H b = none := fun b o e => by
    cases q : H b with
    | none => rfl
    | some u =>
      rw [hK b u q] at e
      cases e
  have hKb : K.In (hidT s₁.heap H) := fun b o e => base_of (KX b o e) (nK b o e)
  have hM : Mod K mg (hidT s₁.heap H) := ⟨hKb, nsK hns, ⟨mb, nsK hb, hbb⟩, let ⟨mc, h1, h2⟩ := hlim; ⟨mc, nsK h1, h2⟩⟩
  have e0 : Env0 P w K mg (hidT s₁.heap H) callerA [] s₁ H := ⟨rfl, hM, fun b o e => of_hidT e, Nat.le_of_eq (hidT_size _ _), trivial, fun b hb => absurd (show b ∈ ([] : List Addr) from hb) (by simp), hok, .of_eq hg⟩
  have hl : vals.length = ps.length := by rw [wellAll_len hwl]; exact hlen
  refine codeAny_mono ((F _ hKb (nsK hns)).run callerA [] s₁ H ⟨vals, []⟩ vals (vals.map toV) _ _ hr e0 (hbind s₁ vals hl) hV (hsp H _ hO hS)) fun r s' x => ?_
  cases r with
  | error e => exact (hCX H e s' x).elim
  | ok fl =>
    cases fl with
    | next => exact False.elim x
    | brk => exact False.elim x
    | cont => exact False.elim x
    | ret u =>
      obtain ⟨v, H', os, bare, un, hok', r', q⟩ := x
      have kept : ∀ b o, s₁.heap.get? b = some o → s'.heap.get? b = some o := fun b o e => by
        cases q2 : H b with
        | none => exact un.keep b o e q2 (by intro z; exact absurd (show b ∈ ([] : List Addr) from z) (by simp)) (by simp)
        | some u2 =>
          rcases hO b with z | ⟨ob, u3, z⟩
          · rw [q2] at z
            cases z
          · have z2 := un.frzs b ob _ z
            obtain ⟨e1, _⟩ := hok b _ z
            obtain ⟨e2, _⟩ := hok' b _ z2
            rw [e] at e1
            cases e1
            exact e2
      have KX' : K.In s'.heap := fun b o e => kept b o (KX b o e)
      obtain ⟨as, hrd⟩ := Dw.reads (R := R) (cl := cl) hok' KX' d0 v u q r'
      exact ⟨u, as, rfl, hrd, OldK.of_keep kept, os, bare⟩
/-! ### the row -/
theorem layable_weight {ds : List WData} (h : WData.layableAll ds = true) : ∀ d ∈ ds, d.weight ≤ 1048576 := fun d hd =>
  (PySem.W.layableW_iff.mp (List.all_eq_true.mp h d hd)).2.2
theorem encAll_len : ∀ (cs : List Codec) (a : Codec.denoteAll cs), (Codec.encAll cs a).length = cs.length
  | [], _ => rfl
  | c :: cs, a => by
    show (Codec.encAll cs a.2).length + 1 = cs.length + 1
    rw [encAll_len cs a.2]
/-- the goal that k_headS leaves (case hc), from the promise of the row's def: whatever the arguments that the codecs let and the row asks for, the def gives what stands for enc (f ..) -/
theorem walk_spec {r : OpenSpec} {k : Nat} {q : Program} {loose : List Str} {XP : (Str → Option Value) → Heap → Prop} {YP : World → Heap → Prop} {d : DefRec} {K : World → PySem.W.Frag} {CX : World → CXT} {ps : List Str} {sp : World → Sp}
    (hwell : r.wellSaid = true) (hdf : d.params.defaults = []) (hlen : r.args.length = ps.length) (hr : Room k callerA)
    (hY : ∀ (w : World) (h : Heap), YP w h → (K w).In h)
    (F : ∀ (w : World) (mg : Str → Option Value) (fa : Addr) (h : Heap), YP w h → (K w).In h → h.Ns mainGlobals mg → mg d.name = some (.ref fa) →
      ∃ fd : FuncData, (∀ (s : Shared) (us : List Value), us.length = ps.length → BindsTo s fd ⟨us, []⟩ (ps.zip us)) ∧
        ∀ base : Heap, (K w).In base → base.Ns mainGlobals mg → FnOk r.prog w (K w) mg base (CX w) k fa fd ps (sp w))
    (hsp : ∀ (w : World) (H : Hp) (xs : List V) (a : Codec.denoteAll r.args), OnlyF H → Codec.withinAll r.args a = true → Codec.app r.args r.asked a = true → DwAll (K w) H xs (Codec.encAll r.args a) →
      sp w xs H (fun v H' => Dw (K w) H' v (r.ret.enc (Codec.app r.args r.f a))) fun _ _ _ => False)
    (hCX : ∀ (w : World) (H : Hp) (s : Shared) (e : Value) (s' : Shared), CX w [] H s (fun _ _ _ => False) e s' → False) :
    PySem.W.WalkOS q loose XP YP r d [] (fun f vs => PySem.call f vs) := by
  intro w s_0 s₁ mg mb G Y fa o pm cd doc dV kV ho hd hcd hD hmg hg args vals as hpre hlay hrd hwl hlo
  obtain ⟨a, e1, e2⟩ := PySem.W.os_pre_some hpre
  obtain ⟨e3, hwi⟩ := Codec.encAll_of_decAll r.args args a e1
  subst e3
  have KX := hY w _ Y
  obtain ⟨fd, hb, hF⟩ := F w mg fa _ Y KX G.T.g hmg
  refine PySem.W.enter_call (codeAny_mono (spec_call (R := []) (cl := classAt s_0.heap) (d0 := r.ret.enc (Codec.app r.args r.f a)) KX G.T.g G.T.b G.T.builtins G.T.nolimit hg hwl (pl_encAll _ _) (layable_weight hlay) hr hF hb (by rw [encAll_len]; exact hlen)
    (fun H xs hO hS => hsp w H xs a hO hwi e2 hS) fun H e s' => hCX w H s₁ e s') fun r' s' hq => ?_)
  obtain ⟨u, as', rfl, h1, h2, h3, h4⟩ := hq
  exact ⟨.inl ⟨u, _, as', rfl, fun _ => rfl, h1, (OpenSpec.post_iff hwell hwi _ _).mpr rfl, fun z => Bool.noConfusion (show false = true from z)⟩, h2, h3, h4⟩
/-- the same where the promise hangs on the written part alone -/
theorem walk_specK {r : OpenSpec} {k : Nat} {q : Program} {loose : List Str} {XP : (Str → Option Value) → Heap → Prop} {YP : World → Heap → Prop} {d : DefRec} {K : World → PySem.W.Frag} {CX : CXT} {ps : List Str} {sp : PySem.W.Frag → Sp}
    (hwell : r.wellSaid = true) (hdf : d.params.defaults = []) (hlen : r.args.length = ps.length) (hr : Room k callerA)
    (hY : ∀ (w : World) (h : Heap), YP w h → (K w).In h)
    (F : ∀ (w : World) (mg : Str → Option Value) (fa : Addr) (h : Heap), YP w h → (K w).In h → h.Ns mainGlobals mg → mg d.name = some (.ref fa) →
      ∃ fd : FuncData, (∀ (s : Shared) (us : List Value), us.length = ps.length → BindsTo s fd ⟨us, []⟩ (ps.zip us)) ∧
        ∀ base : Heap, (K w).In base → base.Ns mainGlobals mg → FnOk r.prog w (K w) mg base CX k fa fd ps (sp (K w)))
    (hsp : ∀ (K : PySem.W.Frag) (H : Hp) (xs : List V) (a : Codec.denoteAll r.args), OnlyF H → Codec.withinAll r.args a = true → Codec.app r.args r.asked a = true → DwAll K H xs (Codec.encAll r.args a) →
      sp K xs H (fun v H' => Dw K H' v (r.ret.enc (Codec.app r.args r.f a))) fun _ _ _ => False)
    (hCX : ∀ (H : Hp) (s : Shared) (e : Value) (s' : Shared), CX [] H s (fun _ _ _ => False) e s' → False) :
    PySem.W.WalkOS q loose XP YP r d [] (fun f vs => PySem.call f vs) :=
  walk_spec (K := K) (CX := fun _ => CX) (sp := fun w => sp (K w)) hwell hdf hlen hr hY F (fun w H xs a h1 h2 h3 h4 => hsp (K w) H xs a h1 h2 h3 h4) fun _ H s e s' => hCX H s e s'
end L2
set_option Elab.async false
set_option linter.all false
set_option maxRecDepth 100000
set_option maxHeartbeats 2000000
/-! own rules beside the layer -/
namespace HT
open PySem PySem.Spec PyProof.Rows
section
variable {prog : Program} {w : World} {A : Around} {E : Value → Shared → Prop} {s : Shared}
/-- the whole of a tuple is the tuple itself -/
theorem getItem_tuple_all {t sl : Addr} {items : Array Value} {vl vu : Value} {lo hi : Option Int} {Q : Value → Shared → Prop} (ht : IsTup s.heap t items) (hs : s.heap.IsSliceOf sl vl vu .none) (pl : IsPart vl lo) (pu : IsPart vu hi)
    (hw : sIx items.size 0 lo = 0 ∧ sIx items.size items.size hi = items.size) (h : Q (.ref t) s) : wpAny (model prog w) A (getItem (.ref t) (.ref sl)) Q E s := by
  obtain ⟨os, hos, hcs, hds⟩ := id hs
  have hTs : s.TypeIs (.ref sl) "slice" := ⟨os, hos, hcs⟩
  unfold getItem
  try with_reducible refine wpAny_holding ?_
  first | refine wpAny_bind (wpAny_pure ?_) | skip
  refine wpAny_bind (wpAny_sequenceKey ht.typeIs (by decide) ?_)
  refine wpAny_bind (wpAny_callSpecial?_slot (name := Str.ofString "__getitem__") ht.typeIs PyProof.Rows.slot_tuple_getitem
    (wpAny_call_entry PyProof.Rows.slot_tuple_getitem ht.typeIs entry_tuple_getitem ?_ (args_tuple_getitem _ _)))
  show wpAny _ _ (Builtin.Tuple.tupleItemsOf (.ref t) >>= _) _ _ s
  refine wpAny_bind (tupleItemsOf_ ht ?_)
  refine wpAny_bind (wpAny_typeOf hTs ?_)
  rw [if_pos (by decide)]
  refine wpAny_bind (sliceApplied_gen hs pl pu ?_)
  have hyes : ((((sIx items.size 0 lo : Nat) : Int) == 0 && (1 : Int) == 1 && (sIx items.size items.size hi - sIx items.size 0 lo) == items.size) = true) := by
    rw [hw.1, hw.2]
    simp
  show wpAny _ _ (if (((sIx items.size 0 lo : Nat) : Int) == 0 && (1 : Int) == 1 && (sIx items.size items.size hi - sIx items.size 0 lo) == items.size) = true then _ else _) _ _ s
  rw [if_pos hyes]
  refine wpAny_bind ?_
  refine wpAny_bind (wpAny_typeOf ht.typeIs ?_)
  refine wpAny_pure ?_
  rw [if_pos (by decide)]
  refine wpAny_bind (wpAny_rule ?_)
  first
    | exact wpAny_pure ⟨_, rfl, wpAny_pure h⟩
    | exact wpAny_bind (wpAny_pure (wpAny_pure ⟨_, rfl, wpAny_pure h⟩))
    | exact wpAny_bind (wpAny_pure ⟨_, rfl, wpAny_pure h⟩)
end
end HT
namespace Lx
open PySem PySem.Spec PyProof.Rows L2
section
variable {X : Cx}
/-- t.count(k), t a tuple of ints -/
def rCountT : V → List V → Hp → VK → Prop := fun x vs H Q => ∃ (p : Addr) (ns : List Int) (k : Int), x = .ref p ∧ vs = [.int k] ∧ H p = some (.tup (ns.map V.int)) ∧ Q (.int ((ns.count k : Nat) : Int)) H
theorem mt_countT : MtR X "tuple.count" rCountT := by
  intro pins s σ H x vs v us Q I rx rv h
  obtain ⟨p, ns, k, rfl, rfl, hp, q⟩ := h
  cases rx
  obtain ⟨u, rfl, ru⟩ := rv.one
  obtain ⟨t, rfl⟩ := ru
  obtain ⟨_, its, r, n, e⟩ := (show ObjOk X.prog X.w H s.heap p (.tup (ns.map V.int)) from I.hok p _ hp)
  refine call_meets F.slot_tuple_count ⟨_, e, rfl⟩ F.entry_tuple_count (F.args_tuple_count_2 _ _) (MeetsSeq2.tuple_count p its.toArray n (.int k t) (isInt k) (fun y hy => eq_isInt k t r.ints y (by simpa using hy))) ⟨e, ?_⟩
  have ec : its.toArray.toList.countP (isInt k) = ns.count k := countP_isInt k r.ints
  rw [ec]
  exact ⟨.int _, H, I.tok _, ⟨_, rfl⟩, q⟩
/-- xs.extend(t), t a tuple -/
def rExtendT : V → List V → Hp → VK → Prop := fun x vs H Q => ∃ l b xs zs, x = .ref l ∧ vs = [.ref b] ∧ H l = some (.lst xs) ∧ H b = some (.tup zs) ∧ xs.length + zs.length ≤ sizeLine ∧ Q .non (upd H l (.lst (xs ++ zs)))
theorem mt_extendT : MtM X "list.extend" rExtendT := by
  intro pins s σ H x vs v us Q I rx rv h
  obtain ⟨l, b, xs, zs, rfl, rfl, hH, hB, hz, q⟩ := h
  cases rx
  obtain ⟨u, rfl, ru⟩ := rv.one
  cases ru
  obtain ⟨z, its, n, r, hl, e⟩ := I.lstM hH
  obtain ⟨z2, its2, r2, n2, e2⟩ := (show ObjOk X.prog X.w H s.heap b (.tup zs) from I.hok b _ hB)
  have hl2 := r2.length
  have hsz : its.toArray.size + its2.toArray.size ≤ sizeLine := by rw [List.size_toArray, List.size_toArray]; omega
  have hlong : ¬ (!its.toArray.isEmpty && Builtin.List.listTooLong (its.toArray.size + its2.toArray.size)) = true := by
    rw [notLongL hsz, Bool.and_false]
    exact Bool.false_ne_true
  refine call_meets F.slot_list_extend ⟨_, e, rfl⟩ F.entry_list_extend (F.args_list_extend_2 _ _)
    (AutoSeq1.list_extend_list_tuple_0 l its.toArray n b its2.toArray n2 hlong (by rw [List.size_toArray]; omega) (by omega)) ⟨e, e2, ?_⟩
  refine ⟨.non, _, I.lset (its' := its ++ its2) hH e (by simp) (r.append r2) ?_, rfl, q⟩
  rw [List.length_append]
  omega
/-- t[lo:hi], whole or not -/
def rSlTW (K : PySem.W.Frag) : V → Option Int → Option Int → Hp → VK → Prop := fun x lo hi H Q => ∃ a xs, x = .ref a ∧ SqT K H a xs ∧
  ((HT.sIx xs.length 0 lo = 0 ∧ HT.sIx xs.length xs.length hi = xs.length) → Q (.ref a) H) ∧
  (¬ (HT.sIx xs.length 0 lo = 0 ∧ HT.sIx xs.length xs.length hi = xs.length) → ∀ p, H p = none → Q (.ref p) (upd H p (.tup (cutV xs lo hi))))
theorem sl_tupW : SlR X (rSlTW X.K) := by
  intro pins s σ H x v vl vu lo hi sl Q I rx hs pl pu h
  obtain ⟨a, xs, rfl, hx, q1, q2⟩ := h
  by_cases c : HT.sIx xs.length 0 lo = 0 ∧ HT.sIx xs.length xs.length hi = xs.length
  · cases rx
    obtain ⟨its, r, ht, hz⟩ := I.tuple hx
    have hlen : its.toArray.size = xs.length := by rw [List.size_toArray]; exact r.length.symm
    refine ⟨"tuple", _, PyProof.Rows.slot_tuple_getitem.lookup, ht.typeIs, ?_⟩
    exact HT.getItem_tuple_all ht hs pl pu (by rw [hlen]; exact c) ⟨.ref a, H, I, rfl, q1 c⟩
  · exact sl_tup pins s σ H _ v vl vu lo hi sl Q I rx hs pl pu ⟨a, xs, rfl, hx, c, q2 c⟩
end
end Lx
set_option Elab.async false
set_option linter.all false
set_option maxRecDepth 100000
set_option maxHeartbeats 2000000
/-! max(xs, default=d) of a list of ints -/
namespace Lx
open PySem PySem.Spec PyProof.Rows L2
theorem mdName : (toString "max" ++ toString ".loop" : String) = "max.loop" := by decide
theorem mdArgs (x d : Value) : argsOk "max" ⟨[x], [(Str.ofString "default", d)]⟩ := by
  unfold argsOk
  kernel_rfl
section
variable {n : Nat} {prog : Program} {w : World} {A : Around} {R : Result → Shared → Prop} {I : Addr} {fp wr : List Addr} {P : Nat → Value → Prop} {St : Nat → Heap → Prop}
/-- the loop, one best kept in the list at S, whatever the keywords are -/
theorem mdLoop (W : Walks prog w A.in1 I fp wr n P St) (bt : Nat → Nat → Bool) (hc : CmpOf prog w A.in1 .Gt P bt) (S : Addr) (hS0 : S ∉ fp) (kw : List (Str × Value)) (k : Nat) :
    ∀ (j : Nat) (s : Shared) (b : Value) (c : Nat), n - (j + 1) = k → j + 1 ≤ n → St (j + 1) s.heap → P (argBest bt j) b → s.heap.get? S = some { cls := .type "list", dict := none, data := .seq #[b, b] c, slots := #[] } →
      (∀ v h' tk, P (argBest bt (n - 1)) v → (∀ a o, a ∉ wr → a ≠ S → s.heap.get? a = some o → h'.get? a = some o) → R (.ok (.ret v)) { s with heap := h', toks := tk }) → codeAny (model prog w) A (.builtin "max.loop" ⟨[.ref I, .none, .ref S], kw⟩) R s := by
  have hSw : S ∉ wr := fun z => hS0 (W.sub _ z)
  induction k with
  | zero =>
    intro j s b c e1 e2 st pb gS r
    have e3 : j + 1 = n := by omega
    refine codeAny_builtin F.entry_max_loop ?_; rw [Around.under_plainId F.plain_max_loop _]
    show wpAny _ A.in1 (seqItems? (Value.ref S) >>= _) _ _ _
    refine wpAny_bind (wpAny_seqItems gS rfl ?_); show wpAny _ A.in1 (tryCatch (pyNext (.ref I)) _ >>= _) _ _ _
    refine wpAny_bind (wpAny_tryCatch (W.done s _ _ (e3 ▸ st) fun h' tk kp => ?_)); show wpAny _ A.in1 (updateSeq S (fun _ => #[]) >>= _) _ _ _
    refine wpAny_bind ?_
    refine wpAny_updateSeq (kp S _ hSw gS) rfl (wpAny_bind (wpAny_letGo (wpAny_pure ?_)))
    exact r b _ tk (by rw [← e3]; exact pb) fun a o na nS e => (Heap.get?_update_other _ _ (Ne.symm nS)).trans (kp a o na e)
  | succ k ih =>
    intro j s b c e1 e2 st pb gS r
    have e3 : j + 1 < n := by omega
    refine codeAny_builtin F.entry_max_loop ?_; rw [Around.under_plainId F.plain_max_loop _]
    show wpAny _ A.in1 (seqItems? (Value.ref S) >>= _) _ _ _
    refine wpAny_bind (wpAny_seqItems gS rfl ?_); show wpAny _ A.in1 (tryCatch (pyNext (.ref I)) _ >>= _) _ _ _
    refine wpAny_bind (wpAny_tryCatch (W.item (j + 1) s _ _ e3 st fun v h' tk pv st' kp => ?_))
    have gS' := kp S _ hSw gS
    show wpAny _ A.in1 (tryCatch (holding [v, v] (richCompare .Gt v b >>= _)) _ >>= _) _ _ _
    refine wpAny_bind (wpAny_tryCatch (wpAny_holding (wpAny_bind (hc (j + 1) (argBest bt j) v b _ _ _ pv pb (wpAny_bind (wpAny_holding (wpAny_truthy_bool (wpAny_bind (wpAny_letGo (wpAny_pure ?_))))))))))
    cases q : bt (j + 1) (argBest bt j) with
    | true =>
      simp only [if_true]
      refine wpAny_bind ?_
      refine wpAny_updateSeq gS' rfl (wpAny_bind (wpAny_letGo ?_))
      rw [mdName]
      refine wpAny_pure ⟨plainId_quiet F.plain_max_loop _, ih (j + 1) _ v _ (by omega) e3 (W.frame _ _ _ st' fun a ha o e => ?_) (by simp only [argBest, q, if_true]; exact pv) (Heap.get?_update_self _ gS' rfl) fun v' h2 t2 p2 k2 => ?_⟩
      · exact (Heap.get?_update_other _ _ (fun z : S = a => hS0 (z ▸ ha))).trans e
      · exact r v' h2 t2 p2 fun a o na nS e => k2 a o na nS ((Heap.get?_update_other _ _ (Ne.symm nS)).trans (kp a o na e))
    | false =>
      simp only [if_false, Bool.false_eq_true]
      refine wpAny_bind (wpAny_letGo ?_)
      rw [mdName]
      refine wpAny_pure ⟨plainId_quiet F.plain_max_loop _, ih (j + 1) _ b c (by omega) e3 st' (by simp only [argBest, q, Bool.false_eq_true, if_false]; exact pb) gS' fun v' h2 t2 p2 k2 => ?_⟩
      exact r v' h2 t2 p2 fun a o na nS e => k2 a o na nS (kp a o na e)
end
abbrev W0 (l I : Addr) (xs : Array (Int × Tok)) (i : Nat) (h : Heap) : Prop := h.IsListIter I l i ∧ h.IsList l (intItems xs)
section
variable {prog : Program} {w : World} {A : Around} {E : Value → Shared → Prop} {s : Shared} {l : Addr} {its : List Value} {ns : List Int} {d : Value} {Q : Value → Shared → Prop}
theorem max_default (hh : A.handled = none) (hl : s.heap.IsList l its.toArray) (hi : IntsAre its ns)
    (h0 : ns = [] → ∀ h' tk, (∀ b o, s.heap.get? b = some o → h'.get? b = some o) → Q d { s with heap := h', toks := tk })
    (h : ∀ h' tk M t', (∀ b o, s.heap.get? b = some o → h'.get? b = some o) → M ∈ ns → (∀ a, a ∈ ns → a ≤ M) → Q (.int M t') { s with heap := h', toks := tk }) :
    wpAny (model prog w) A (call (.builtin "max") [.ref l] [(Str.ofString "default", d)]) Q E s := by
  obtain ⟨xs, e⟩ := hi.allInts.items
  have hn : numsOf (intItems xs).toList = ns := by rw [← e]; exact hi.numsOf
  rw [nums_intItems] at hn
  subst hn
  rw [e] at hl
  have hl0 := hl
  obtain ⟨ol, eol, _⟩ := hl0
  have ll : l < s.heap.objs.size := Heap.lt_size eol
  refine kmk_tree F.kind_max F.plain_max F.entry_max (mdArgs _ _) ?_
  show wpAny _ A.in1 (Builtin.Builtins.bindParams "max" ["key", "default"] 0 ⟨[], [(Str.ofString "default", d)]⟩ >>= _) _ _ s
  refine wpAny_bind (wpAny_of_eq (show Builtin.Builtins.bindParams "max" ["key", "default"] 0 ⟨[], [(Str.ofString "default", d)]⟩ = pure [none, some d] from rfl) ?_)
  refine wpAny_bind (wpAny_pure ?_)
  refine wpAny_bind (wpAny_pyIter_list hl ?_)
  refine (wpAny_bind (wpAny_newObj_type ?_))
  rw [mdName]
  have W := Walks.list (prog := prog) (w := w) (A := A.in1) hh s.heap.objs.size l (Nat.ne_of_lt ll) (intItems xs)
  have g1 : (s.heap.push { cls := .type "list_iterator", data := .fields #[.ref l, .int 0 0] }).IsListIter s.heap.objs.size l 0 := ⟨_, Heap.get?_push_size _ rfl, rfl, rfl⟩
  have g2 : (s.heap.push { cls := .type "list_iterator", data := .fields #[.ref l, .int 0 0] }).IsList l (intItems xs) := hl.push _
  have kp1 : ∀ b o, s.heap.get? b = some o → (s.heap.push { cls := .type "list_iterator", data := .fields #[.ref l, .int 0 0] }).get? b = some o := fun b o q => Heap.get?_push_of_some _ q
  have sz : (s.heap.push { cls := .type "list_iterator", data := .fields #[.ref l, .int 0 0] }).objs.size = s.heap.objs.size + 1 := Heap.size_push _ _
  generalize s.heap.push { cls := .type "list_iterator", data := .fields #[.ref l, .int 0 0] } = h1 at *
  have nSf : h1.objs.size ∉ [s.heap.objs.size, l] := by
    rw [sz]
    intro z
    rcases List.mem_cons.mp z with z | z
    · exact Nat.succ_ne_self _ z
    · have z2 : s.heap.objs.size + 1 = l := by simpa using z
      exact Nat.lt_irrefl _ (Nat.lt_trans (Nat.lt_succ_self _) (show s.heap.objs.size + 1 < s.heap.objs.size from z2 ▸ ll))
  have st : W0 l s.heap.objs.size xs 0 (h1.push { cls := .type "list", data := .seq #[] }) := ⟨g1.at fun o q => Heap.get?_push_of_some _ q, g2.push _⟩
  have gS : (h1.push { cls := .type "list", data := .seq #[] }).get? h1.objs.size = some { cls := .type "list", dict := none, data := .seq #[] 0, slots := #[] } := Heap.get?_push_size _ rfl
  have kp2 : ∀ b o, s.heap.get? b = some o → (h1.push { cls := .type "list", data := .seq #[] }).get? b = some o := fun b o q => Heap.get?_push_of_some _ (kp1 b o q)
  have old : ∀ b o, s.heap.get? b = some o → b ∉ [s.heap.objs.size] ∧ b ≠ h1.objs.size := fun b o q => by
    have lt := Heap.lt_size q
    refine ⟨fun z => ?_, ?_⟩
    · have z2 : b = s.heap.objs.size := by simpa using z
      exact Nat.lt_irrefl _ (show s.heap.objs.size < s.heap.objs.size from z2 ▸ lt)
    · rw [sz]
      exact Nat.ne_of_lt (Nat.lt_succ_of_lt lt)
  generalize h1.push { cls := .type "list", data := .seq #[] } = h2 at *
  generalize h1.objs.size = S at *
  refine wpAny_pure ⟨plainId_quiet F.plain_max_loop _, ?_⟩
  have hSw : S ∉ [s.heap.objs.size] := fun z => nSf (by simp at z; simp [z])
  refine codeAny_builtin F.entry_max_loop ?_; rw [Around.under_plainId F.plain_max_loop _]
  show wpAny _ A.in1 (seqItems? (Value.ref S) >>= _) _ _ _
  refine wpAny_bind (wpAny_seqItems gS rfl ?_); show wpAny _ A.in1 (tryCatch (pyNext (.ref s.heap.objs.size)) _ >>= _) _ _ _
  have isz : (intItems xs).size = xs.size := by simp [intItems]
  by_cases c : xs.size = 0
  · have e0 : (intItems xs).size = 0 := by rw [isz]; exact c
    refine wpAny_bind (wpAny_tryCatch (W.done _ _ _ (by rw [e0]; exact st) fun h' tk kp => ?_))
    show wpAny _ A.in1 (rule _ >>= _) _ _ _
    refine (wpAny_bind (wpAny_rule (wpAny_pure ?_)))
    exact h0 (by
      have : xs.toList = [] := List.length_eq_zero_iff.mp (by simpa using c)
      simp [this]) h' tk fun b o q => kp b o (old b o q).1 (kp2 b o q)
  · refine wpAny_bind (wpAny_tryCatch (W.item 0 _ _ _ (by rw [isz]; omega) st fun v h' tk pv st' kp => ?_))
    have gS' := kp S _ hSw gS
    show wpAny _ A.in1 (updateSeq S (fun _ => (#[v, v])) >>= _) _ _ _
    refine wpAny_bind ?_
    refine wpAny_updateSeq gS' rfl ?_
    rw [mdName]
    refine wpAny_pure ⟨plainId_quiet F.plain_max_loop _, mdLoop W _ (CmpOf.ints_gt (numAt xs) (fun _ _ => intItems_at)) S nSf _ _ 0 _ v _ rfl (by rw [isz]; omega) (W.frame _ _ _ st' fun a ha o q => ?_) pv (Heap.get?_update_self _ gS' rfl) fun v' h3 t3 p3 k3 => ?_⟩
    · exact (Heap.get?_update_other _ _ (fun z : S = a => nSf (z ▸ ha))).trans q
    · obtain ⟨t, rfl⟩ := intItems_at p3
      obtain ⟨b1, b2⟩ := argBest_gt (numAt xs) (xs.size - 1)
      rw [isz]
      refine h h3 t3 _ t (fun b o q => ?_) ?_ fun a ha => ?_
      · exact k3 b o (old b o q).1 (old b o q).2 ((Heap.get?_update_other _ _ (Ne.symm (old b o q).2)).trans (kp b o (old b o q).1 (kp2 b o q)))
      · rw [numAt_eq]
        exact PySem.getD_mem (by rw [List.length_map, Array.length_toList]; omega)
      · obtain ⟨j, hj, rfl⟩ := mem_getD ha
        rw [List.length_map, Array.length_toList] at hj
        rw [← numAt_eq]
        exact b2 j (by omega)
end
/-- max(xs, default=d) -/
def tMaxD (K : PySem.W.Frag) (te td : TE) : TE := fun σ H Q => tCons te tNil σ H fun vs H1 => tCons td tNil σ H1 fun zs H2 => ∃ (a : Addr) (ns : List Int) (i : Int), vs = [.ref a] ∧ zs = [.int i] ∧ SqL K H2 a (ns.map V.int) ∧
  (ns = [] → Q (.int i) H2) ∧ ∀ m, m ∈ ns → (∀ z, z ∈ ns → z ≤ m) → Q (.int m) H2
theorem pe_maxD {X : Cx} {e de : Expr} {te td : TE} {p kp pos : Pos} (hc : X.calm = true) (hg : Gl X "max") (hm : X.mg "max" = none) (he : PE X e te) (hd : PE X de td)
    (hs : starEach [e] X.env = (false, eval e X.env) :: starEach [] X.env := by rfl) (h1 : backTo pos (starEach [e] X.env) = (false, eval e X.env) :: backTo pos (starEach [] X.env) := by rfl)
    (h2 : (backTo pos (starEach [e] X.env)).any (fun x => x.1) = false := by rfl) : PE X (.Call (.Name "max" p) [e] [⟨some "default", de, kp⟩] pos) (tMaxD X.K te td) := by
  intro pins s σ H Q I h
  refine wpAny_Call_Name_kw (ld_blt I hg hm boot_max ?_)
  refine callWith_kw (thn ((pa_cons he pa_nil hs) pos pins s σ H _ I h) fun us s1 ⟨vs, H1, I1, r, q⟩ => thn ((pk_cons hd pk_nil) pos pins s1 σ H1 _ I1 q) fun ws s2 ⟨zs, H2, I2, rz, a, ns, i, e1, e2, sq, q0, q1⟩ => ?_) h1 h2
  subst e1 e2
  obtain ⟨u, rfl, ru⟩ := r.one
  cases ru
  obtain ⟨u, rfl, t, rfl⟩ := rz.one
  obtain ⟨its, rv, hl, _⟩ := I2.list sq
  show wpAny _ _ (call (.builtin "max") [.ref a] [(Str.ofString "default", .int i t)]) _ _ _
  exact max_default (I2.ok.hd hc) hl.isList rv.ints (fun z h' tk hk => ⟨.int i, H2, I2.kept hk, ⟨_, rfl⟩, q0 z⟩) fun h' tk m t' hk h1 h2 => ⟨.int m, H2, I2.kept hk, ⟨_, rfl⟩, q1 m h1 h2⟩
end Lx
set_option Elab.async false
set_option linter.all false
set_option maxRecDepth 100000
set_option maxHeartbeats 2000000
namespace Lx
open PySem PySem.Spec PyProof.Rows L2
section
variable {X : Cx}
theorem vals3 {a b c : V} {us : List Value} (r : Vals [a, b, c] us) : ∃ x y z, us = [x, y, z] ∧ RelV a x ∧ RelV b y ∧ RelV c z := by
  cases r with
  | cons r1 r2 =>
    cases r2 with
    | cons r3 r4 =>
      cases r4 with
      | cons r5 r6 => cases r6; exact ⟨_, _, _, rfl, r1, r3, r5⟩
/-- min of three ints -/
theorem call_min3 (hc : X.calm = true) : CallR X (.builtin "min") (fun xs H Q => ∃ i j k, xs = [.int i, .int j, .int k] ∧ Q (.int (min i (min j k))) H) := by
  intro pins s σ H xs us Q I r h
  obtain ⟨i, j, k, rfl, q⟩ := h
  obtain ⟨_, _, _, rfl, ⟨t, rfl⟩, ⟨t', rfl⟩, ⟨t'', rfl⟩⟩ := vals3 r
  refine min_three_ints (I.ok.hd hc) fun h' tk kp => ⟨.int (min i (min j k)), H, I.kept kp, ?_, q⟩
  by_cases h1 : j < i
  · rw [if_pos h1]
    by_cases h2 : k < j
    · rw [if_pos h2]; exact ⟨_, congrArg (fun z => Value.int z _) (by omega)⟩
    · rw [if_neg h2]; exact ⟨_, congrArg (fun z => Value.int z _) (by omega)⟩
  · rw [if_neg h1]
    by_cases h2 : k < i
    · rw [if_pos h2]; exact ⟨_, congrArg (fun z => Value.int z _) (by omega)⟩
    · rw [if_neg h2]; exact ⟨_, congrArg (fun z => Value.int z _) (by omega)⟩
/-- xs[-1], by values -/
def rGetLast (K : PySem.W.Frag) : V → V → Hp → VK → Prop := fun o i H Q => ∃ p xs v, o = .ref p ∧ i = .int (-1) ∧ H p = some (.lst (xs ++ [v])) ∧ Q v H
theorem get_last : PGet X (rGetLast X.K) := by
  intro pins s σ H o i ov iv Q I ro ri h
  obtain ⟨p, xs, v, rfl, rfl, hp, q⟩ := h
  cases ro
  obtain ⟨t, rfl⟩ := ri
  obtain ⟨its, r, pl, hz⟩ := I.list (SqL.of hp)
  have hl := r.length
  have e1 : (xs ++ [v])[xs.length]? = some v := by simp
  obtain ⟨w, ew, rw'⟩ := r.get e1
  rw [List.length_append] at hl
  simp only [List.length_cons, List.length_nil] at hl
  refine wpAny_getItem_list_neg (x := w) pl.isList (by decide) (by rw [List.size_toArray]; omega) (by decide) ?_ ⟨v, H, I, rw', q⟩
  have e2 : ((-1 : Int) + ((its.toArray.size : Nat) : Int)).toNat = xs.length := by rw [List.size_toArray]; omega
  rw [e2]
  simpa using ew
theorem ix_last {n : Nat} : ixN (n + 1) (-1) = some n := by
  unfold ixN
  rw [if_neg (by decide), if_pos (by omega)]
  congr 1
  omega
theorem at_last {α : Type} (xs : List α) (v : α) : atI (xs ++ [v]) (-1) = some v := by
  unfold atI
  rw [List.length_append, show [v].length = 1 from rfl, ix_last]
  simp
end
/-- a def with defaults -/
structure FunD (K : PySem.W.Frag) (x qual : Str) (st : Stmt) (da : Addr) (ds : List Value) (f : Addr) (fd : FuncData) : Prop where
  ex : ∃ (oc : Value) (od : Option Addr) (kV doc pm : Value) (an : Option Addr) (cdv ct : Value) (osl : Array (Option Value)),
    fd = PySem.W.fnOf x qual (defArgs st) (defBody st) (defScope st) (.ref da) kV doc pm an cdv ct ∧ K.lookup f = some ⟨oc, od, .func fd, osl⟩ ∧ PySem.W.codeIn K cdv qual = true
  kp : PySem.W.keepIn K (.ref f) = true
  df : ∃ (oc : Value) (od : Option Addr) (n : Nat) (osl : Array (Option Value)), K.lookup da = some ⟨oc, od, .seq ds.toArray n, osl⟩
section
variable {P : Program} {w : World} {K : PySem.W.Frag} {mg : Str → Option Value} {base : Heap}
theorem FunD.ok {x qual : Str} {st : Stmt} {da : Addr} {ds : List Value} {f : Addr} {fd : FuncData} {N ps : List Str} {k : Nat} {sp : Sp} (F : FunD K x qual st da ds f fd) (S : FnScope N ps (defScope st)) (len : ∀ vs H Q E, sp vs H Q E → vs.length = ps.length)
    (hbody : ∀ (cdv : Value) (A : Around) (outer : List Env) (s : Shared) (H : Hp) (vs : List V) (Q : VK) (E : XK), Room k (A.deeper (envOfC qual (defScope st) s.heap.objs.size f cdv)) → sp vs H Q E →
      ∃ t, PSs (cxOf CX0 P w K mg base N qual (defScope st) f cdv A outer s H E).nox (defBody st) t ∧ t { nx := fun _ H' => Q .non H', rt := Q } (start N vs) H) : FnOk P w K mg base CX0 (k + 1) f fd ps sp := by
  obtain ⟨oc, od, kV, doc, pm, an, cdv, ct, osl, rfl, lk, hcd⟩ := F.ex
  refine fn_of lk hcd S len fun A outer s H vs Q E hr hsp => ?_
  obtain ⟨t, h, q⟩ := hbody cdv A outer s H vs Q E hr hsp
  exact ⟨t, h.nox, q⟩
/-- def f(a, b=d): both given, or one -/
theorem FunD.two {x qual : Str} {st : Stmt} {da : Addr} {d : Value} {f : Addr} {fd : FuncData} {a b : Str} (F : FunD K x qual st da [d] f fd)
    (h : ∀ (kV doc pm : Value) (an : Option Addr) (cdv ct : Value) (u v : Value) (M : Model) (A : Around) (E : Value → Shared → Prop) (Q : List (Str × Value) → Shared → Prop) (s : Shared), (∀ R : Option (Array Value) → Shared → Prop, R (some #[d]) s → wpAny M A (seqItems? (.ref da)) R E s) →
      (Q [(a, u), (b, v)] s → wpAny M A (bindArgs (PySem.W.fnOf x qual (defArgs st) (defBody st) (defScope st) (.ref da) kV doc pm an cdv ct) ⟨[u, v], []⟩) Q E s) ∧
      (Q [(a, u), (b, d)] s → wpAny M A (bindArgs (PySem.W.fnOf x qual (defArgs st) (defBody st) (defScope st) (.ref da) kV doc pm an cdv ct) ⟨[u], []⟩) Q E s)) : Binds K fd [a, b] [] ∧ Binds K fd [a, b] [d] := by
  obtain ⟨oc, od, kV, doc, pm, an, cdv, ct, osl, rfl, lk, hcd⟩ := F.ex
  obtain ⟨oc2, od2, n2, osl2, lk2⟩ := F.df
  refine ⟨fun s us KI hl => ?_, fun s us KI hl => ?_⟩
  · match us, hl with
    | [u, v], _ =>
      intro M A E Q hq
      exact (h kV doc pm an cdv ct u v M A E Q s fun R hR => wpAny_seqItems (KI _ _ lk2) rfl hR).1 hq
  · have hl1 : us.length = 1 := by simpa using hl
    match us, hl1 with
    | [u], _ =>
      intro M A E Q hq
      exact (h kV doc pm an cdv ct u u M A E Q s fun R hR => wpAny_seqItems (KI _ _ lk2) rfl hR).2 hq
end
end Lx
set_option Elab.async false
set_option linter.all false
set_option maxRecDepth 100000
namespace Pw
open PySem PySem.W PyProof.Rows L2
def top (i : Nat) : Stmt := PySem.Challenge.pw_piecehouse_s01_answers.main.body.getD i (.Pass ⟨0, 0, 0, 0⟩)
abbrev s_line_sizes : Stmt := top 5
abbrev s_longest_over : Stmt := top 6
abbrev s_count_nodes : Stmt := top 7
abbrev s_size_of : Stmt := top 9
abbrev s_feeds_of : Stmt := top 10
abbrev s_height_of : Stmt := top 11
abbrev s_leaves_of : Stmt := top 12
abbrev s_longest_of : Stmt := top 13
abbrev s_bytes_between : Stmt := top 14
abbrev s_place_behind_feed : Stmt := top 15
abbrev s_line_begin : Stmt := top 16
abbrev s_line_end : Stmt := top 17
abbrev s_feeds_ahead : Stmt := top 18
abbrev s_count_alike : Stmt := top 19
abbrev s_with_behind : Stmt := top 22
abbrev s_with_ahead : Stmt := top 23
abbrev s_joined : Stmt := top 24
abbrev s_first_leaf : Stmt := top 25
abbrev s_last_leaf : Stmt := top 26
abbrev s_without_first_leaf : Stmt := top 27
abbrev s_without_last_leaf : Stmt := top 28
abbrev s_sewn : Stmt := top 29
abbrev s_parted : Stmt := top 30
abbrev s_made_of_bytes : Stmt := top 31
abbrev s_put_in : Stmt := top 32
abbrev s_taken_out : Stmt := top 33
abbrev s_cut : Stmt := top 34
abbrev s_is_range : Stmt := top 45
abbrev s_insert_answer : Stmt := top 46
abbrev s_delete_answer : Stmt := top 47
abbrev s_copy_answer : Stmt := top 48
abbrev s_part_answer : Stmt := top 49
abbrev s_line_answer : Stmt := top 50
abbrev s_where_answer : Stmt := top 51
abbrev s_longest_answer : Stmt := top 52
abbrev s_shape_answer : Stmt := top 53
abbrev s_alike_answer : Stmt := top 54
abbrev s_all_answer : Stmt := top 55
abbrev s_call_length : Stmt := top 68
abbrev s_call_answer : Stmt := top 69
abbrev s_answers : Stmt := top 70
abbrev s_Leaf_init : Stmt := inClass (top 2) 0
abbrev s_Fork_init : Stmt := inClass (top 3) 0
abbrev s_Maker_init : Stmt := inClass (top 4) 0
abbrev s_Maker_leaf : Stmt := inClass (top 4) 1
abbrev s_Maker_over : Stmt := inClass (top 4) 2
abbrev s_House_init : Stmt := inClass (top 44) 0
abbrev s_House_has : Stmt := inClass (top 44) 1
abbrev s_House_is_full : Stmt := inClass (top 44) 2
abbrev s_House_keep : Stmt := inClass (top 44) 3
/-! ### the top of the text, run by the kernel at once -/
abbrev hp : Program := PySem.Challenge.pw_piecehouse_s01_answers
@[irreducible] def hrun (w : World) : Option Shared := openEnds treeTable hp w 5444
@[irreducible] def hq : Program := view hp [1, 2, 3, 4, 5, 6, 9, 10, 11, 12, 13, 14, 15, 16, 17, 18, 19, 21, 22, 23, 24, 25, 26, 27, 28, 29, 30, 31, 32, 33, 34, 36, 37, 38, 39, 40, 41, 42, 43, 44, 45, 46, 47, 48, 49, 50, 51, 52, 53, 54, 55, 57, 58, 59, 60, 61, 62, 63, 64, 65, 66, 67, 68, 69, 70]
@[irreducible] def hX (s : Shared) : Bool := xlAt hq [] s && recOk [] s
/-- the same by the library's quicker words -/
def topBy (tr : type_of% @topRun) (tb : String → Option Builtin) (p : Program) (w : World) (N : Nat) (s₀ : Shared) : Option Shared :=
  match (s₀.heap.isNs mainGlobals && s₀.gens.size == 0) with
  | true => (tr tb p w s₀.heap.objs.size (s₀.heap.nsMap mainGlobals "__annotations__") N s₀ (topStub p)).bind fun s₁ => match staticsOk (importedModules p.main.body) s₀.heap s₁.heap && namesBound p s₁.heap && gensDone s₁ && laidKept s₀.heap s₁.heap with
      | true => some s₁
      | false => none
  | false => none
theorem topBy_eq (tb : String → Option Builtin) (p : Program) (w : World) (N : Nat) (s₀ : Shared) : topFrom tb p w N s₀ = topBy (@topRun) tb p w N s₀ := by
  unfold topFrom topBy
  cases s₀.heap.isNs mainGlobals && s₀.gens.size == 0 with
  | false => rfl
  | true => rfl
@[irreducible] noncomputable def hfast (w : World) : Option Shared := (fencedOpening treeTable hp w 5444).bind (topBy (@PySem.W.Fast.tw14082659384304107361) PySem.W.Fast.tw14364793385576792824 hp w 5444)
theorem hfast_eq (w : World) : hrun w = hfast w := by
  have e : topFrom treeTable hp w 5444 = topBy (@PySem.W.Fast.tw14082659384304107361) PySem.W.Fast.tw14364793385576792824 hp w 5444 := by
    funext s₀
    rw [topBy_eq, ← PySem.W.Fast.te14082659384304107361, ← PySem.W.Fast.te14364793385576792824]
  unfold hrun hfast openEnds
  rw [e]
/-- what is written behind the top, as far as it is asked for -/
@[irreducible] def hAs : List Addr := [2, 3, 22, 24, 25, 27, 28, 29, 30, 31, 32, 33, 43, 45, 46, 48, 49, 50, 51, 52, 53, 54, 64, 66, 67, 69, 70, 71, 73, 74, 76, 77, 78, 80, 81, 83, 84, 85, 86, 87, 88, 89, 92, 94, 95, 97, 98, 99, 101, 102, 104, 105, 106, 107, 109, 110, 112, 113, 114, 116, 117, 119, 120, 121, 123, 124, 126, 127, 128, 130, 131, 133, 134, 135, 137, 138, 140, 141, 142, 144, 145, 147, 148, 149, 151, 152, 154, 155, 156, 158, 159, 161, 162, 163, 165, 166, 168, 169, 170, 172, 173, 175, 176, 177, 179, 180, 182, 183, 184, 186, 187, 189, 190, 191, 193, 194, 196, 197, 198, 200, 201, 203, 204, 205, 207, 208, 210, 211, 212, 214, 215, 217, 218, 219, 221, 222, 224, 225, 226, 228, 229, 231, 232, 233, 235, 236, 238, 239, 240, 242, 243, 245, 246, 247, 249, 250, 252, 253, 254, 256, 257, 259, 260, 261, 263, 264, 266, 267, 268, 270, 271, 273, 274, 275, 277, 278, 280, 281, 289, 291, 292, 294, 295, 296, 298, 299, 301, 302, 303, 305, 306, 308, 309, 310, 312, 313, 315, 316, 317, 318, 319, 320, 321, 324, 326, 327, 329, 330, 331, 333, 334, 336, 337, 338, 340, 341, 343, 344, 345, 347, 348, 350, 351, 352, 354, 355, 357, 358, 359, 361, 362, 364, 365, 366, 368, 369, 371, 372, 373, 375, 376, 378, 379, 380, 382, 383, 385, 386, 387, 389, 390, 392, 393, 394, 396, 397, 399, 400, 401, 402, 404, 405, 407, 408, 409, 411, 412, 414, 415, 416, 418, 419, 421, 422]
@[irreducible] noncomputable def hK (w : World) : PySem.W.Frag := match hfast w with
  | some s => hAs.filterMap fun a => (s.heap.get? a).map fun o => (a, o)
  | none => []
def fshape (K : PySem.W.Frag) (f : Addr) : Option (Str × Str × Arguments × FuncBody × Scope × Addr × List (Str × Addr) × Value × Addr) := match K.lookup f with
  | some ⟨_, _, .func fd, _⟩ => some (fd.name, fd.qualname, fd.params, fd.body, fd.scope, fd.globals, fd.closure, fd.defaults, fd.builtins)
  | _ => none
def fdue (x qual : Str) (st : Stmt) (dv : Value) : Str × Str × Arguments × FuncBody × Scope × Addr × List (Str × Addr) × Value × Addr := (x, qual, defArgs st, FuncBody.stmts (defBody st), defScope st, mainGlobals, [], dv, builtinsNs)
def codeAt (K : PySem.W.Frag) (f : Addr) (q : Str) : Bool := match K.lookup f with
  | some ⟨_, _, .func fd, _⟩ => codeIn K fd.code q
  | _ => false
def seqAt (K : PySem.W.Frag) (a : Addr) : Option (Value × List Value) := match K.lookup a with
  | some ⟨c, _, .seq its _, _⟩ => some (c, its.toList)
  | _ => none
end Pw
set_option Elab.async false
set_option linter.all false
set_option maxRecDepth 100000
namespace Pw
open PySem PySem.W PyProof.Rows L2
inductive AllL {α : Type} (P : α → Prop) : List α → Prop
  | nil : AllL P []
  | cons {a : α} {l : List α} : P a → AllL P l → AllL P (a :: l)
theorem all_list {α : Type} {P : α → Prop} : ∀ {l : List α}, AllL P l → ∀ a, a ∈ l → P a
  | _, .cons h t, a, m => by
    cases m with
    | head => exact h
    | tail _ m => exact all_list t a m
structure Hf1 (K : PySem.W.Frag) : Prop where
  gCL : nsIn K mainGlobals "Leaf" = some (some (.ref 31))
  pgCL : plainGet K 31 Str.empty = true
  hdCL : hasDictIn K 31 = true
  poCL : plainOver K 31 = true
  saCL : findIn K (.ref 31) "__setattr__" = some (some (.builtin "object.__setattr__"))
  mkCL : makesIn K 31 = true
  kcCL : keepIn K (.ref 31) = true
  nCL : (∀ f, f ∈ (["number", "content", "height", "size", "leaves", "feeds", "head", "tail", "longest"] : List Str) → NoAttr K 31 f)
  aLeaf_init : findIn K (.ref 31) "__init__" = some (some (.ref 28))
  lLeaf_init : fshape K 28 = some (fdue "__init__" "Leaf.__init__" s_Leaf_init .none)
  cLeaf_init : codeAt K 28 "Leaf.__init__" = true
  kLeaf_init : keepIn K (.ref 28) = true
  iLeaf_init : isFn K (.ref 28) = true
  gCF : nsIn K mainGlobals "Fork" = some (some (.ref 52))
  pgCF : plainGet K 52 Str.empty = true
  hdCF : hasDictIn K 52 = true
  poCF : plainOver K 52 = true
  saCF : findIn K (.ref 52) "__setattr__" = some (some (.builtin "object.__setattr__"))
  mkCF : makesIn K 52 = true
  kcCF : keepIn K (.ref 52) = true
  nCF : (∀ f, f ∈ (["number", "first", "second", "height", "size", "leaves", "feeds", "head", "tail", "longest"] : List Str) → NoAttr K 52 f)
  aFork_init : findIn K (.ref 52) "__init__" = some (some (.ref 49))
  lFork_init : fshape K 49 = some (fdue "__init__" "Fork.__init__" s_Fork_init .none)
  cFork_init : codeAt K 49 "Fork.__init__" = true
  kFork_init : keepIn K (.ref 49) = true
  iFork_init : isFn K (.ref 49) = true
  gCM : nsIn K mainGlobals "Maker" = some (some (.ref 87))
  pgCM : plainGet K 87 Str.empty = true
  hdCM : hasDictIn K 87 = true
  poCM : plainOver K 87 = true
  saCM : findIn K (.ref 87) "__setattr__" = some (some (.builtin "object.__setattr__"))
  mkCM : makesIn K 87 = true
  kcCM : keepIn K (.ref 87) = true
  nCM : (∀ f, f ∈ (["made"] : List Str) → NoAttr K 87 f)
  aMaker_init : findIn K (.ref 87) "__init__" = some (some (.ref 70))
  lMaker_init : fshape K 70 = some (fdue "__init__" "Maker.__init__" s_Maker_init .none)
  cMaker_init : codeAt K 70 "Maker.__init__" = true
  kMaker_init : keepIn K (.ref 70) = true
  iMaker_init : isFn K (.ref 70) = true
  aMaker_leaf : findIn K (.ref 87) "leaf" = some (some (.ref 77))
  lMaker_leaf : fshape K 77 = some (fdue "leaf" "Maker.leaf" s_Maker_leaf .none)
  cMaker_leaf : codeAt K 77 "Maker.leaf" = true
  kMaker_leaf : keepIn K (.ref 77) = true
  iMaker_leaf : isFn K (.ref 77) = true
  aMaker_over : findIn K (.ref 87) "over" = some (some (.ref 84))
  lMaker_over : fshape K 84 = some (fdue "over" "Maker.over" s_Maker_over .none)
  cMaker_over : codeAt K 84 "Maker.over" = true
  kMaker_over : keepIn K (.ref 84) = true
  iMaker_over : isFn K (.ref 84) = true
  gCH : nsIn K mainGlobals "House" = some (some (.ref 319))
  pgCH : plainGet K 319 Str.empty = true
  hdCH : hasDictIn K 319 = true
  poCH : plainOver K 319 = true
  saCH : findIn K (.ref 319) "__setattr__" = some (some (.builtin "object.__setattr__"))
  mkCH : makesIn K 319 = true
  kcCH : keepIn K (.ref 319) = true
  nCH : (∀ f, f ∈ (["maker", "trees"] : List Str) → NoAttr K 319 f)
  aHouse_init : findIn K (.ref 319) "__init__" = some (some (.ref 295))
  lHouse_init : fshape K 295 = some (fdue "__init__" "House.__init__" s_House_init .none)
  cHouse_init : codeAt K 295 "House.__init__" = true
  kHouse_init : keepIn K (.ref 295) = true
  iHouse_init : isFn K (.ref 295) = true
  aHouse_has : findIn K (.ref 319) "has" = some (some (.ref 302))
  lHouse_has : fshape K 302 = some (fdue "has" "House.has" s_House_has .none)
  cHouse_has : codeAt K 302 "House.has" = true
  kHouse_has : keepIn K (.ref 302) = true
  iHouse_has : isFn K (.ref 302) = true
  aHouse_is_full : findIn K (.ref 319) "is_full" = some (some (.ref 309))
  lHouse_is_full : fshape K 309 = some (fdue "is_full" "House.is_full" s_House_is_full .none)
  cHouse_is_full : codeAt K 309 "House.is_full" = true
  kHouse_is_full : keepIn K (.ref 309) = true
  iHouse_is_full : isFn K (.ref 309) = true
  aHouse_keep : findIn K (.ref 319) "keep" = some (some (.ref 316))
  lHouse_keep : fshape K 316 = some (fdue "keep" "House.keep" s_House_keep .none)
  cHouse_keep : codeAt K 316 "House.keep" = true
  kHouse_keep : keepIn K (.ref 316) = true
  iHouse_keep : isFn K (.ref 316) = true
  vLINE_FEED : nsIn K mainGlobals "LINE_FEED" = some (some (.int (10) 189))
  aline_sizes : nsIn K mainGlobals "line_sizes" = some (some (.ref 98))
  lline_sizes : fshape K 98 = some (fdue "line_sizes" "line_sizes" s_line_sizes .none)
  cline_sizes : codeAt K 98 "line_sizes" = true
  kline_sizes : keepIn K (.ref 98) = true
  alongest_over : nsIn K mainGlobals "longest_over" = some (some (.ref 105))
  llongest_over : fshape K 105 = some (fdue "longest_over" "longest_over" s_longest_over .none)
  clongest_over : codeAt K 105 "longest_over" = true
  klongest_over : keepIn K (.ref 105) = true
  acount_nodes : nsIn K mainGlobals "count_nodes" = some (some (.ref 113))
  lcount_nodes : fshape K 113 = some (fdue "count_nodes" "count_nodes" s_count_nodes (.ref 106))
  ccount_nodes : codeAt K 113 "count_nodes" = true
  kcount_nodes : keepIn K (.ref 113) = true
  dcn : (seqAt K 106).map (·.2) = some [.int 0 334]
structure Hf2 (K : PySem.W.Frag) : Prop where
  asize_of : nsIn K mainGlobals "size_of" = some (some (.ref 120))
  lsize_of : fshape K 120 = some (fdue "size_of" "size_of" s_size_of .none)
  csize_of : codeAt K 120 "size_of" = true
  ksize_of : keepIn K (.ref 120) = true
  afeeds_of : nsIn K mainGlobals "feeds_of" = some (some (.ref 127))
  lfeeds_of : fshape K 127 = some (fdue "feeds_of" "feeds_of" s_feeds_of .none)
  cfeeds_of : codeAt K 127 "feeds_of" = true
  kfeeds_of : keepIn K (.ref 127) = true
  aheight_of : nsIn K mainGlobals "height_of" = some (some (.ref 134))
  lheight_of : fshape K 134 = some (fdue "height_of" "height_of" s_height_of .none)
  cheight_of : codeAt K 134 "height_of" = true
  kheight_of : keepIn K (.ref 134) = true
  aleaves_of : nsIn K mainGlobals "leaves_of" = some (some (.ref 141))
  lleaves_of : fshape K 141 = some (fdue "leaves_of" "leaves_of" s_leaves_of .none)
  cleaves_of : codeAt K 141 "leaves_of" = true
  kleaves_of : keepIn K (.ref 141) = true
  alongest_of : nsIn K mainGlobals "longest_of" = some (some (.ref 148))
  llongest_of : fshape K 148 = some (fdue "longest_of" "longest_of" s_longest_of .none)
  clongest_of : codeAt K 148 "longest_of" = true
  klongest_of : keepIn K (.ref 148) = true
  abytes_between : nsIn K mainGlobals "bytes_between" = some (some (.ref 155))
  lbytes_between : fshape K 155 = some (fdue "bytes_between" "bytes_between" s_bytes_between .none)
  cbytes_between : codeAt K 155 "bytes_between" = true
  kbytes_between : keepIn K (.ref 155) = true
  aplace_behind_feed : nsIn K mainGlobals "place_behind_feed" = some (some (.ref 162))
  lplace_behind_feed : fshape K 162 = some (fdue "place_behind_feed" "place_behind_feed" s_place_behind_feed .none)
  cplace_behind_feed : codeAt K 162 "place_behind_feed" = true
  kplace_behind_feed : keepIn K (.ref 162) = true
  aline_begin : nsIn K mainGlobals "line_begin" = some (some (.ref 169))
  lline_begin : fshape K 169 = some (fdue "line_begin" "line_begin" s_line_begin .none)
  cline_begin : codeAt K 169 "line_begin" = true
  kline_begin : keepIn K (.ref 169) = true
  aline_end : nsIn K mainGlobals "line_end" = some (some (.ref 176))
  lline_end : fshape K 176 = some (fdue "line_end" "line_end" s_line_end .none)
  cline_end : codeAt K 176 "line_end" = true
  kline_end : keepIn K (.ref 176) = true
  afeeds_ahead : nsIn K mainGlobals "feeds_ahead" = some (some (.ref 183))
  lfeeds_ahead : fshape K 183 = some (fdue "feeds_ahead" "feeds_ahead" s_feeds_ahead .none)
  cfeeds_ahead : codeAt K 183 "feeds_ahead" = true
  kfeeds_ahead : keepIn K (.ref 183) = true
  acount_alike : nsIn K mainGlobals "count_alike" = some (some (.ref 190))
  lcount_alike : fshape K 190 = some (fdue "count_alike" "count_alike" s_count_alike .none)
  ccount_alike : codeAt K 190 "count_alike" = true
  kcount_alike : keepIn K (.ref 190) = true
  vMOST_IN_LEAF : nsIn K mainGlobals "MOST_IN_LEAF" = some (some (.int (8) 444))
  awith_behind : nsIn K mainGlobals "with_behind" = some (some (.ref 197))
  lwith_behind : fshape K 197 = some (fdue "with_behind" "with_behind" s_with_behind .none)
  cwith_behind : codeAt K 197 "with_behind" = true
  kwith_behind : keepIn K (.ref 197) = true
  awith_ahead : nsIn K mainGlobals "with_ahead" = some (some (.ref 204))
  lwith_ahead : fshape K 204 = some (fdue "with_ahead" "with_ahead" s_with_ahead .none)
  cwith_ahead : codeAt K 204 "with_ahead" = true
  kwith_ahead : keepIn K (.ref 204) = true
  ajoined : nsIn K mainGlobals "joined" = some (some (.ref 211))
  ljoined : fshape K 211 = some (fdue "joined" "joined" s_joined .none)
  cjoined : codeAt K 211 "joined" = true
  kjoined : keepIn K (.ref 211) = true
  afirst_leaf : nsIn K mainGlobals "first_leaf" = some (some (.ref 218))
  lfirst_leaf : fshape K 218 = some (fdue "first_leaf" "first_leaf" s_first_leaf .none)
  cfirst_leaf : codeAt K 218 "first_leaf" = true
  kfirst_leaf : keepIn K (.ref 218) = true
  alast_leaf : nsIn K mainGlobals "last_leaf" = some (some (.ref 225))
  llast_leaf : fshape K 225 = some (fdue "last_leaf" "last_leaf" s_last_leaf .none)
  clast_leaf : codeAt K 225 "last_leaf" = true
  klast_leaf : keepIn K (.ref 225) = true
  awithout_first_leaf : nsIn K mainGlobals "without_first_leaf" = some (some (.ref 232))
  lwithout_first_leaf : fshape K 232 = some (fdue "without_first_leaf" "without_first_leaf" s_without_first_leaf .none)
  cwithout_first_leaf : codeAt K 232 "without_first_leaf" = true
  kwithout_first_leaf : keepIn K (.ref 232) = true
  awithout_last_leaf : nsIn K mainGlobals "without_last_leaf" = some (some (.ref 239))
  lwithout_last_leaf : fshape K 239 = some (fdue "without_last_leaf" "without_last_leaf" s_without_last_leaf .none)
  cwithout_last_leaf : codeAt K 239 "without_last_leaf" = true
  kwithout_last_leaf : keepIn K (.ref 239) = true
  asewn : nsIn K mainGlobals "sewn" = some (some (.ref 246))
  lsewn : fshape K 246 = some (fdue "sewn" "sewn" s_sewn .none)
  csewn : codeAt K 246 "sewn" = true
  ksewn : keepIn K (.ref 246) = true
  aparted : nsIn K mainGlobals "parted" = some (some (.ref 253))
  lparted : fshape K 253 = some (fdue "parted" "parted" s_parted .none)
  cparted : codeAt K 253 "parted" = true
  kparted : keepIn K (.ref 253) = true
  amade_of_bytes : nsIn K mainGlobals "made_of_bytes" = some (some (.ref 260))
  lmade_of_bytes : fshape K 260 = some (fdue "made_of_bytes" "made_of_bytes" s_made_of_bytes .none)
  cmade_of_bytes : codeAt K 260 "made_of_bytes" = true
  kmade_of_bytes : keepIn K (.ref 260) = true
  aput_in : nsIn K mainGlobals "put_in" = some (some (.ref 267))
  lput_in : fshape K 267 = some (fdue "put_in" "put_in" s_put_in .none)
  cput_in : codeAt K 267 "put_in" = true
  kput_in : keepIn K (.ref 267) = true
  ataken_out : nsIn K mainGlobals "taken_out" = some (some (.ref 274))
  ltaken_out : fshape K 274 = some (fdue "taken_out" "taken_out" s_taken_out .none)
structure Hf3 (K : PySem.W.Frag) : Prop where
  ctaken_out : codeAt K 274 "taken_out" = true
  ktaken_out : keepIn K (.ref 274) = true
  acut : nsIn K mainGlobals "cut" = some (some (.ref 281))
  lcut : fshape K 281 = some (fdue "cut" "cut" s_cut .none)
  ccut : codeAt K 281 "cut" = true
  kcut : keepIn K (.ref 281) = true
  vUNFIT : nsIn K mainGlobals "UNFIT" = some (some (.int (-1) 594))
  vNO_VERSION : nsIn K mainGlobals "NO_VERSION" = some (some (.int (-2) 597))
  vNO_ROOM : nsIn K mainGlobals "NO_ROOM" = some (some (.int (-5) 600))
  vTOO_LONG : nsIn K mainGlobals "TOO_LONG" = some (some (.int (-6) 603))
  vMOST_VERSIONS : nsIn K mainGlobals "MOST_VERSIONS" = some (some (.int (60) 605))
  vMOST_BYTES : nsIn K mainGlobals "MOST_BYTES" = some (some (.int (1099511627776) 607))
  vMOST_AT_ONCE : nsIn K mainGlobals "MOST_AT_ONCE" = some (some (.int (200) 609))
  vHIGHEST_BYTE : nsIn K mainGlobals "HIGHEST_BYTE" = some (some (.int (255) 611))
  ais_range : nsIn K mainGlobals "is_range" = some (some (.ref 330))
  lis_range : fshape K 330 = some (fdue "is_range" "is_range" s_is_range .none)
  cis_range : codeAt K 330 "is_range" = true
  kis_range : keepIn K (.ref 330) = true
  ainsert_answer : nsIn K mainGlobals "insert_answer" = some (some (.ref 337))
  linsert_answer : fshape K 337 = some (fdue "insert_answer" "insert_answer" s_insert_answer .none)
  cinsert_answer : codeAt K 337 "insert_answer" = true
  kinsert_answer : keepIn K (.ref 337) = true
  adelete_answer : nsIn K mainGlobals "delete_answer" = some (some (.ref 344))
  ldelete_answer : fshape K 344 = some (fdue "delete_answer" "delete_answer" s_delete_answer .none)
  cdelete_answer : codeAt K 344 "delete_answer" = true
  kdelete_answer : keepIn K (.ref 344) = true
  acopy_answer : nsIn K mainGlobals "copy_answer" = some (some (.ref 351))
  lcopy_answer : fshape K 351 = some (fdue "copy_answer" "copy_answer" s_copy_answer .none)
  ccopy_answer : codeAt K 351 "copy_answer" = true
  kcopy_answer : keepIn K (.ref 351) = true
  apart_answer : nsIn K mainGlobals "part_answer" = some (some (.ref 358))
  lpart_answer : fshape K 358 = some (fdue "part_answer" "part_answer" s_part_answer .none)
  cpart_answer : codeAt K 358 "part_answer" = true
  kpart_answer : keepIn K (.ref 358) = true
  aline_answer : nsIn K mainGlobals "line_answer" = some (some (.ref 365))
  lline_answer : fshape K 365 = some (fdue "line_answer" "line_answer" s_line_answer .none)
  cline_answer : codeAt K 365 "line_answer" = true
  kline_answer : keepIn K (.ref 365) = true
  awhere_answer : nsIn K mainGlobals "where_answer" = some (some (.ref 372))
  lwhere_answer : fshape K 372 = some (fdue "where_answer" "where_answer" s_where_answer .none)
  cwhere_answer : codeAt K 372 "where_answer" = true
  kwhere_answer : keepIn K (.ref 372) = true
  alongest_answer : nsIn K mainGlobals "longest_answer" = some (some (.ref 379))
  llongest_answer : fshape K 379 = some (fdue "longest_answer" "longest_answer" s_longest_answer .none)
  clongest_answer : codeAt K 379 "longest_answer" = true
  klongest_answer : keepIn K (.ref 379) = true
  ashape_answer : nsIn K mainGlobals "shape_answer" = some (some (.ref 386))
  lshape_answer : fshape K 386 = some (fdue "shape_answer" "shape_answer" s_shape_answer .none)
  cshape_answer : codeAt K 386 "shape_answer" = true
  kshape_answer : keepIn K (.ref 386) = true
  aalike_answer : nsIn K mainGlobals "alike_answer" = some (some (.ref 393))
  lalike_answer : fshape K 393 = some (fdue "alike_answer" "alike_answer" s_alike_answer .none)
  calike_answer : codeAt K 393 "alike_answer" = true
  kalike_answer : keepIn K (.ref 393) = true
  aall_answer : nsIn K mainGlobals "all_answer" = some (some (.ref 400))
  lall_answer : fshape K 400 = some (fdue "all_answer" "all_answer" s_all_answer .none)
  call_answer : codeAt K 400 "all_answer" = true
  kall_answer : keepIn K (.ref 400) = true
  vINSERT : nsIn K mainGlobals "INSERT" = some (some (.int (0) 790))
  vDELETE : nsIn K mainGlobals "DELETE" = some (some (.int (1) 792))
  vCOPY : nsIn K mainGlobals "COPY" = some (some (.int (2) 794))
  vPART : nsIn K mainGlobals "PART" = some (some (.int (3) 796))
  vLINE : nsIn K mainGlobals "LINE" = some (some (.int (4) 798))
  vWHERE : nsIn K mainGlobals "WHERE" = some (some (.int (5) 800))
  vLONGEST : nsIn K mainGlobals "LONGEST" = some (some (.int (6) 802))
  vSHAPE : nsIn K mainGlobals "SHAPE" = some (some (.int (7) 804))
  vALIKE : nsIn K mainGlobals "ALIKE" = some (some (.int (8) 806))
  vCALL_LENGTHS : nsIn K mainGlobals "CALL_LENGTHS" = some (some (.ref 401))
  wCALL_LENGTHS : seqAt K 401 = some (.type "tuple", [.int 4 808, .int 4 809, .int 6 810, .int 4 811, .int 3 812, .int 3 813, .int 2 814, .int 2 815, .int 5 816, .int 1 817])
  vBYTE_COUNT : nsIn K mainGlobals "BYTE_COUNT" = some (some (.int (3) 819))
  acall_length : nsIn K mainGlobals "call_length" = some (some (.ref 408))
  lcall_length : fshape K 408 = some (fdue "call_length" "call_length" s_call_length .none)
  ccall_length : codeAt K 408 "call_length" = true
  kcall_length : keepIn K (.ref 408) = true
  acall_answer : nsIn K mainGlobals "call_answer" = some (some (.ref 415))
  lcall_answer : fshape K 415 = some (fdue "call_answer" "call_answer" s_call_answer .none)
  ccall_answer : codeAt K 415 "call_answer" = true
  kcall_answer : keepIn K (.ref 415) = true
  aanswers : nsIn K mainGlobals "answers" = some (some (.ref 422))
  lanswers : fshape K 422 = some (fdue "answers" "answers" s_answers .none)
  canswers : codeAt K 422 "answers" = true
  kanswers : keepIn K (.ref 422) = true
  blen : nsIn K mainGlobals "len" = some none
  bmax : nsIn K mainGlobals "max" = some none
  bmin : nsIn K mainGlobals "min" = some none
  babs : nsIn K mainGlobals "abs" = some none
  btuple : nsIn K mainGlobals "tuple" = some none
  blist : nsIn K mainGlobals "list" = some none
  brange : nsIn K mainGlobals "range" = some none
  breversed : nsIn K mainGlobals "reversed" = some none
structure Hf (K : PySem.W.Frag) : Prop extends Hf1 K, Hf2 K, Hf3 K
theorem hF1 (w : World) : Hf1 (hK w) where
  gCL := by kernel_rfl
  pgCL := by kernel_rfl
  hdCL := by kernel_rfl
  poCL := by kernel_rfl
  saCL := by kernel_rfl
  mkCL := by kernel_rfl
  kcCL := by kernel_rfl
  nCL := (all_list (.cons (show NoAttr (hK w) 31 "number" by unfold NoAttr; kernel_rfl) (.cons (show NoAttr (hK w) 31 "content" by unfold NoAttr; kernel_rfl) (.cons (show NoAttr (hK w) 31 "height" by unfold NoAttr; kernel_rfl) (.cons (show NoAttr (hK w) 31 "size" by unfold NoAttr; kernel_rfl) (.cons (show NoAttr (hK w) 31 "leaves" by unfold NoAttr; kernel_rfl) (.cons (show NoAttr (hK w) 31 "feeds" by unfold NoAttr; kernel_rfl) (.cons (show NoAttr (hK w) 31 "head" by unfold NoAttr; kernel_rfl) (.cons (show NoAttr (hK w) 31 "tail" by unfold NoAttr; kernel_rfl) (.cons (show NoAttr (hK w) 31 "longest" by unfold NoAttr; kernel_rfl) .nil))))))))))
  aLeaf_init := by kernel_rfl
  lLeaf_init := by kernel_rfl
  cLeaf_init := by kernel_rfl
  kLeaf_init := by kernel_rfl
  iLeaf_init := by kernel_rfl
  gCF := by kernel_rfl
  pgCF := by kernel_rfl
  hdCF := by kernel_rfl
  poCF := by kernel_rfl
  saCF := by kernel_rfl
  mkCF := by kernel_rfl
  kcCF := by kernel_rfl
  nCF := (all_list (.cons (show NoAttr (hK w) 52 "number" by unfold NoAttr; kernel_rfl) (.cons (show NoAttr (hK w) 52 "first" by unfold NoAttr; kernel_rfl) (.cons (show NoAttr (hK w) 52 "second" by unfold NoAttr; kernel_rfl) (.cons (show NoAttr (hK w) 52 "height" by unfold NoAttr; kernel_rfl) (.cons (show NoAttr (hK w) 52 "size" by unfold NoAttr; kernel_rfl) (.cons (show NoAttr (hK w) 52 "leaves" by unfold NoAttr; kernel_rfl) (.cons (show NoAttr (hK w) 52 "feeds" by unfold NoAttr; kernel_rfl) (.cons (show NoAttr (hK w) 52 "head" by unfold NoAttr; kernel_rfl) (.cons (show NoAttr (hK w) 52 "tail" by unfold NoAttr; kernel_rfl) (.cons (show NoAttr (hK w) 52 "longest" by unfold NoAttr; kernel_rfl) .nil)))))))))))
  aFork_init := by kernel_rfl
  lFork_init := by kernel_rfl
  cFork_init := by kernel_rfl
  kFork_init := by kernel_rfl
  iFork_init := by kernel_rfl
  gCM := by kernel_rfl
  pgCM := by kernel_rfl
  hdCM := by kernel_rfl
  poCM := by kernel_rfl
  saCM := by kernel_rfl
  mkCM := by kernel_rfl
  kcCM := by kernel_rfl
  nCM := (all_list (.cons (show NoAttr (hK w) 87 "made" by unfold NoAttr; kernel_rfl) .nil))
  aMaker_init := by kernel_rfl
  lMaker_init := by kernel_rfl
  cMaker_init := by kernel_rfl
  kMaker_init := by kernel_rfl
  iMaker_init := by kernel_rfl
  aMaker_leaf := by kernel_rfl
  lMaker_leaf := by kernel_rfl
  cMaker_leaf := by kernel_rfl
  kMaker_leaf := by kernel_rfl
  iMaker_leaf := by kernel_rfl
  aMaker_over := by kernel_rfl
  lMaker_over := by kernel_rfl
  cMaker_over := by kernel_rfl
  kMaker_over := by kernel_rfl
  iMaker_over := by kernel_rfl
  gCH := by kernel_rfl
  pgCH := by kernel_rfl
  hdCH := by kernel_rfl
  poCH := by kernel_rfl
  saCH := by kernel_rfl
  mkCH := by kernel_rfl
  kcCH := by kernel_rfl
  nCH := (all_list (.cons (show NoAttr (hK w) 319 "maker" by unfold NoAttr; kernel_rfl) (.cons (show NoAttr (hK w) 319 "trees" by unfold NoAttr; kernel_rfl) .nil)))
  aHouse_init := by kernel_rfl
  lHouse_init := by kernel_rfl
  cHouse_init := by kernel_rfl
  kHouse_init := by kernel_rfl
  iHouse_init := by kernel_rfl
  aHouse_has := by kernel_rfl
  lHouse_has := by kernel_rfl
  cHouse_has := by kernel_rfl
  kHouse_has := by kernel_rfl
  iHouse_has := by kernel_rfl
  aHouse_is_full := by kernel_rfl
  lHouse_is_full := by kernel_rfl
  cHouse_is_full := by kernel_rfl
  kHouse_is_full := by kernel_rfl
  iHouse_is_full := by kernel_rfl
  aHouse_keep := by kernel_rfl
  lHouse_keep := by kernel_rfl
  cHouse_keep := by kernel_rfl
  kHouse_keep := by kernel_rfl
  iHouse_keep := by kernel_rfl
  vLINE_FEED := by kernel_rfl
  aline_sizes := by kernel_rfl
  lline_sizes := by kernel_rfl
  cline_sizes := by kernel_rfl
  kline_sizes := by kernel_rfl
  alongest_over := by kernel_rfl
  llongest_over := by kernel_rfl
  clongest_over := by kernel_rfl
  klongest_over := by kernel_rfl
  acount_nodes := by kernel_rfl
  lcount_nodes := by kernel_rfl
  ccount_nodes := by kernel_rfl
  kcount_nodes := by kernel_rfl
  dcn := by kernel_rfl
theorem hF2 (w : World) : Hf2 (hK w) where
  asize_of := by kernel_rfl
  lsize_of := by kernel_rfl
  csize_of := by kernel_rfl
  ksize_of := by kernel_rfl
  afeeds_of := by kernel_rfl
  lfeeds_of := by kernel_rfl
  cfeeds_of := by kernel_rfl
  kfeeds_of := by kernel_rfl
  aheight_of := by kernel_rfl
  lheight_of := by kernel_rfl
  cheight_of := by kernel_rfl
  kheight_of := by kernel_rfl
  aleaves_of := by kernel_rfl
  lleaves_of := by kernel_rfl
  cleaves_of := by kernel_rfl
  kleaves_of := by kernel_rfl
  alongest_of := by kernel_rfl
  llongest_of := by kernel_rfl
  clongest_of := by kernel_rfl
  klongest_of := by kernel_rfl
  abytes_between := by kernel_rfl
  lbytes_between := by kernel_rfl
  cbytes_between := by kernel_rfl
  kbytes_between := by kernel_rfl
  aplace_behind_feed := by kernel_rfl
  lplace_behind_feed := by kernel_rfl
  cplace_behind_feed := by kernel_rfl
  kplace_behind_feed := by kernel_rfl
  aline_begin := by kernel_rfl
  lline_begin := by kernel_rfl
  cline_begin := by kernel_rfl
  kline_begin := by kernel_rfl
  aline_end := by kernel_rfl
  lline_end := by kernel_rfl
  cline_end := by kernel_rfl
  kline_end := by kernel_rfl
  afeeds_ahead := by kernel_rfl
  lfeeds_ahead := by kernel_rfl
  cfeeds_ahead := by kernel_rfl
  kfeeds_ahead := by kernel_rfl
  acount_alike := by kernel_rfl
  lcount_alike := by kernel_rfl
  ccount_alike := by kernel_rfl
  kcount_alike := by kernel_rfl
  vMOST_IN_LEAF := by kernel_rfl
  awith_behind := by kernel_rfl
  lwith_behind := by kernel_rfl
  cwith_behind := by kernel_rfl
  kwith_behind := by kernel_rfl
  awith_ahead := by kernel_rfl
  lwith_ahead := by kernel_rfl
  cwith_ahead := by kernel_rfl
  kwith_ahead := by kernel_rfl
  ajoined := by kernel_rfl
  ljoined := by kernel_rfl
  cjoined := by kernel_rfl
  kjoined := by kernel_rfl
  afirst_leaf := by kernel_rfl
  lfirst_leaf := by kernel_rfl
  cfirst_leaf := by kernel_rfl
  kfirst_leaf := by kernel_rfl
  alast_leaf := by kernel_rfl
  llast_leaf := by kernel_rfl
  clast_leaf := by kernel_rfl
  klast_leaf := by kernel_rfl
  awithout_first_leaf := by kernel_rfl
  lwithout_first_leaf := by kernel_rfl
  cwithout_first_leaf := by kernel_rfl
  kwithout_first_leaf := by kernel_rfl
  awithout_last_leaf := by kernel_rfl
  lwithout_last_leaf := by kernel_rfl
  cwithout_last_leaf := by kernel_rfl
  kwithout_last_leaf := by kernel_rfl
  asewn := by kernel_rfl
  lsewn := by kernel_rfl
  csewn := by kernel_rfl
  ksewn := by kernel_rfl
  aparted := by kernel_rfl
  lparted := by kernel_rfl
  cparted := by kernel_rfl
  kparted := by kernel_rfl
  amade_of_bytes := by kernel_rfl
  lmade_of_bytes := by kernel_rfl
  cmade_of_bytes := by kernel_rfl
  kmade_of_bytes := by kernel_rfl
  aput_in := by kernel_rfl
  lput_in := by kernel_rfl
  cput_in := by kernel_rfl
  kput_in := by kernel_rfl
  ataken_out := by kernel_rfl
  ltaken_out := by kernel_rfl
theorem hF3 (w : World) : Hf3 (hK w) where
  ctaken_out := by kernel_rfl
  ktaken_out := by kernel_rfl
  acut := by kernel_rfl
  lcut := by kernel_rfl
  ccut := by kernel_rfl
  kcut := by kernel_rfl
  vUNFIT := by kernel_rfl
  vNO_VERSION := by kernel_rfl
  vNO_ROOM := by kernel_rfl
  vTOO_LONG := by kernel_rfl
  vMOST_VERSIONS := by kernel_rfl
  vMOST_BYTES := by kernel_rfl
  vMOST_AT_ONCE := by kernel_rfl
  vHIGHEST_BYTE := by kernel_rfl
  ais_range := by kernel_rfl
  lis_range := by kernel_rfl
  cis_range := by kernel_rfl
  kis_range := by kernel_rfl
  ainsert_answer := by kernel_rfl
  linsert_answer := by kernel_rfl
  cinsert_answer := by kernel_rfl
  kinsert_answer := by kernel_rfl
  adelete_answer := by kernel_rfl
  ldelete_answer := by kernel_rfl
  cdelete_answer := by kernel_rfl
  kdelete_answer := by kernel_rfl
  acopy_answer := by kernel_rfl
  lcopy_answer := by kernel_rfl
  ccopy_answer := by kernel_rfl
  kcopy_answer := by kernel_rfl
  apart_answer := by kernel_rfl
  lpart_answer := by kernel_rfl
  cpart_answer := by kernel_rfl
  kpart_answer := by kernel_rfl
  aline_answer := by kernel_rfl
  lline_answer := by kernel_rfl
  cline_answer := by kernel_rfl
  kline_answer := by kernel_rfl
  awhere_answer := by kernel_rfl
  lwhere_answer := by kernel_rfl
  cwhere_answer := by kernel_rfl
  kwhere_answer := by kernel_rfl
  alongest_answer := by kernel_rfl
  llongest_answer := by kernel_rfl
  clongest_answer := by kernel_rfl
  klongest_answer := by kernel_rfl
  ashape_answer := by kernel_rfl
  lshape_answer := by kernel_rfl
  cshape_answer := by kernel_rfl
  kshape_answer := by kernel_rfl
  aalike_answer := by kernel_rfl
  lalike_answer := by kernel_rfl
  calike_answer := by kernel_rfl
  kalike_answer := by kernel_rfl
  aall_answer := by kernel_rfl
  lall_answer := by kernel_rfl
  call_answer := by kernel_rfl
  kall_answer := by kernel_rfl
  vINSERT := by kernel_rfl
  vDELETE := by kernel_rfl
  vCOPY := by kernel_rfl
  vPART := by kernel_rfl
  vLINE := by kernel_rfl
  vWHERE := by kernel_rfl
  vLONGEST := by kernel_rfl
  vSHAPE := by kernel_rfl
  vALIKE := by kernel_rfl
  vCALL_LENGTHS := by kernel_rfl
  wCALL_LENGTHS := by kernel_rfl
  vBYTE_COUNT := by kernel_rfl
  acall_length := by kernel_rfl
  lcall_length := by kernel_rfl
  ccall_length := by kernel_rfl
  kcall_length := by kernel_rfl
  acall_answer := by kernel_rfl
  lcall_answer := by kernel_rfl
  ccall_answer := by kernel_rfl
  kcall_answer := by kernel_rfl
  aanswers := by kernel_rfl
  lanswers := by kernel_rfl
  canswers := by kernel_rfl
  kanswers := by kernel_rfl
  blen := by kernel_rfl
  bmax := by kernel_rfl
  bmin := by kernel_rfl
  babs := by kernel_rfl
  btuple := by kernel_rfl
  blist := by kernel_rfl
  brange := by kernel_rfl
  breversed := by kernel_rfl
theorem hF (w : World) : Hf (hK w) := ⟨hF1 w, hF2 w, hF3 w⟩
theorem hSeen1 (w : World) : (hfast w).map (fun s => (PySem.W.Fast.tw4187177175401517315 hq ["count_nodes"] (importedModules hp.main.body) hX true s).1) = some (expectedOf hq) := by kernel_rfl
theorem hSeen2 (w : World) : (hfast w).map (fun s => ((PySem.W.Fast.tw4187177175401517315 hq ["count_nodes"] (importedModules hp.main.body) hX true s).2.1, (PySem.W.Fast.tw4187177175401517315 hq ["count_nodes"] (importedModules hp.main.body) hX true s).2.2.2.1)) = some (bltViewBooted, true) := by kernel_rfl
theorem hSeen3 (w : World) : (hfast w).map (fun s => (PySem.W.Fast.tw4187177175401517315 hq ["count_nodes"] (importedModules hp.main.body) hX true s).2.2.1) = some true := by kernel_rfl
theorem hSeen4 (w : World) : (hfast w).map (fun s => ((PySem.W.Fast.tw4187177175401517315 hq ["count_nodes"] (importedModules hp.main.body) hX true s).2.2.2.2.1, (PySem.W.Fast.tw4187177175401517315 hq ["count_nodes"] (importedModules hp.main.body) hX true s).2.2.2.2.2.1, (PySem.W.Fast.tw4187177175401517315 hq ["count_nodes"] (importedModules hp.main.body) hX true s).2.2.2.2.2.2.1)) = some ((pinGoodD (drecsOf hq)), (plainGoodE hq (looseW hq ["count_nodes"])), (plainGoodD hq ["count_nodes"])) := by kernel_rfl
theorem hSeen5 (w : World) : (hfast w).map (fun s => ((PySem.W.Fast.tw4187177175401517315 hq ["count_nodes"] (importedModules hp.main.body) hX true s).2.2.2.2.2.2.2.1, (PySem.W.Fast.tw4187177175401517315 hq ["count_nodes"] (importedModules hp.main.body) hX true s).2.2.2.2.2.2.2.2)) = some ((wideGood hq), (clsGoodW hq ["count_nodes"])) := by kernel_rfl
end Pw
set_option linter.all false
namespace Ph

/-- a tree, each node with its number -/
inductive T where
  | leaf (i : Nat) (w : List Nat)
  | fork (i : Nat) (a b : T)
namespace T
def id : T → Nat
  | leaf i _ => i
  | fork i _ _ => i
def ht : T → Nat
  | leaf _ _ => 0
  | fork _ a b => max a.ht b.ht + 1
def bytes : T → List Nat
  | leaf _ w => w
  | fork _ a b => a.bytes ++ b.bytes
def size : T → Nat
  | leaf _ w => w.length
  | fork _ a b => a.size + b.size
def sum : T → Ue01.Sum
  | leaf _ w => Ue01.sumOf w
  | fork _ a b => Ue01.both a.sum b.sum
def leaves : T → Nat
  | leaf _ _ => 1
  | fork _ a b => a.leaves + b.leaves
def ids : T → List Nat
  | leaf i _ => [i]
  | fork i a b => i :: (a.ids ++ b.ids)
/-- the last leaf's bytes, the first's -/
def lastW : T → List Nat
  | leaf _ w => w
  | fork _ _ b => b.lastW
def firstW : T → List Nat
  | leaf _ w => w
  | fork _ a _ => a.firstW
def Avl : T → Prop
  | leaf _ _ => True
  | fork _ a b => a.ht ≤ b.ht + 1 ∧ b.ht ≤ a.ht + 1 ∧ a.Avl ∧ b.Avl
/-- leaves of 1 to 8 bytes -/
def Wf : T → Prop
  | leaf _ w => 1 ≤ w.length ∧ w.length ≤ 8
  | fork _ a b => a.Wf ∧ b.Wf
/-- numbers below n -/
def Below (n : Nat) : T → Prop
  | leaf i _ => i < n
  | fork i a b => i < n ∧ a.Below n ∧ b.Below n
/-- numbers fall on the way down -/
def Dec : T → Prop
  | leaf _ _ => True
  | fork i a b => a.Below i ∧ b.Below i ∧ a.Dec ∧ b.Dec
/-- another numbering -/
def ren (ρ : Nat → Nat) : T → T
  | leaf i w => leaf (ρ i) w
  | fork i a b => fork (ρ i) (a.ren ρ) (b.ren ρ)

theorem size_bytes : ∀ t : T, t.bytes.length = t.size
  | leaf _ _ => rfl
  | fork _ a b => by simp [bytes, size, size_bytes a, size_bytes b]
theorem size_pos : ∀ t : T, t.Wf → 1 ≤ t.size
  | leaf _ _, h => h.1
  | fork _ a b, h => by have := size_pos a h.1; simp [size]; omega
theorem ht_fork_of {t : T} (h : 0 < t.ht) : ∃ i a b, t = fork i a b := by
  cases t with
  | leaf i w => simp [ht] at h
  | fork i a b => exact ⟨i, a, b, rfl⟩
theorem Below.mono {n m : Nat} (h : n ≤ m) : ∀ {t : T}, t.Below n → t.Below m
  | leaf _ _, q => Nat.lt_of_lt_of_le q h
  | fork _ a b, q => ⟨Nat.lt_of_lt_of_le q.1 h, Below.mono h q.2.1, Below.mono h q.2.2⟩
theorem Below.id {n : Nat} : ∀ {t : T}, t.Below n → t.id < n
  | leaf _ _, q => q
  | fork _ _ _, q => q.1
theorem below_iff {n : Nat} : ∀ {t : T}, t.Below n ↔ ∀ i ∈ t.ids, i < n
  | leaf i w => by simp [Below, ids]
  | fork i a b => by
    simp only [Below, ids, List.mem_cons, List.mem_append, below_iff (t := a), below_iff (t := b)]
    constructor
    · rintro ⟨h, h1, h2⟩ j (rfl | hj | hj)
      · exact h
      · exact h1 j hj
      · exact h2 j hj
    · intro h
      exact ⟨h i (.inl rfl), fun j hj => h j (.inr (.inl hj)), fun j hj => h j (.inr (.inr hj))⟩
theorem id_mem : ∀ t : T, t.id ∈ t.ids
  | leaf _ _ => by simp [id, ids]
  | fork _ _ _ => by simp [id, ids]

/-! another numbering changes nothing else -/
variable (ρ : Nat → Nat)
@[simp] theorem ren_id (t : T) : (t.ren ρ).id = ρ t.id := by cases t <;> rfl
@[simp] theorem ren_ht : ∀ t : T, (t.ren ρ).ht = t.ht
  | leaf _ _ => rfl
  | fork _ a b => by simp [ren, ht, ren_ht a, ren_ht b]
@[simp] theorem ren_size : ∀ t : T, (t.ren ρ).size = t.size
  | leaf _ _ => rfl
  | fork _ a b => by simp [ren, size, ren_size a, ren_size b]
@[simp] theorem ren_bytes : ∀ t : T, (t.ren ρ).bytes = t.bytes
  | leaf _ _ => rfl
  | fork _ a b => by simp [ren, bytes, ren_bytes a, ren_bytes b]
@[simp] theorem ren_sum : ∀ t : T, (t.ren ρ).sum = t.sum
  | leaf _ _ => rfl
  | fork _ a b => by simp [ren, sum, ren_sum a, ren_sum b]
@[simp] theorem ren_leaves : ∀ t : T, (t.ren ρ).leaves = t.leaves
  | leaf _ _ => rfl
  | fork _ a b => by simp [ren, leaves, ren_leaves a, ren_leaves b]
@[simp] theorem ren_lastW : ∀ t : T, (t.ren ρ).lastW = t.lastW
  | leaf _ _ => rfl
  | fork _ a b => by simp [ren, lastW, ren_lastW b]
@[simp] theorem ren_firstW : ∀ t : T, (t.ren ρ).firstW = t.firstW
  | leaf _ _ => rfl
  | fork _ a b => by simp [ren, firstW, ren_firstW a]
theorem ren_ids : ∀ t : T, (t.ren ρ).ids = t.ids.map ρ
  | leaf _ _ => rfl
  | fork _ a b => by simp [ren, ids, ren_ids a, ren_ids b]
theorem ren_avl : ∀ t : T, (t.ren ρ).Avl ↔ t.Avl
  | leaf _ _ => Iff.rfl
  | fork _ a b => by simp [ren, Avl, ren_avl a, ren_avl b]
theorem ren_wf : ∀ t : T, (t.ren ρ).Wf ↔ t.Wf
  | leaf _ _ => Iff.rfl
  | fork _ a b => by simp [ren, Wf, ren_wf a, ren_wf b]
theorem ren_ren (σ : Nat → Nat) : ∀ t : T, (t.ren σ).ren ρ = t.ren (fun i => ρ (σ i))
  | leaf _ _ => rfl
  | fork _ a b => by simp [ren, ren_ren σ a, ren_ren σ b]
theorem ren_congr {ρ σ : Nat → Nat} {n : Nat} (h : ∀ i, i < n → ρ i = σ i) : ∀ {t : T}, t.Below n → t.ren ρ = t.ren σ
  | leaf i _, q => by simp [ren, h i q]
  | fork i a b, q => by simp [ren, h i q.1, ren_congr h q.2.1, ren_congr h q.2.2]
theorem ren_same {ρ : Nat → Nat} {n : Nat} (h : ∀ i, i < n → ρ i = i) : ∀ {t : T}, t.Below n → t.ren ρ = t
  | leaf i _, q => by simp [ren, h i q]
  | fork i a b, q => by simp [ren, h i q.1, ren_same h q.2.1, ren_same h q.2.2]
end T
open T

/-! ## the operations, over a counter -/
/-- x with t behind it -/
def lean (n : Nat) (x t : T) : T × Nat :=
  if t.ht ≤ x.ht + 1 then (.fork n x t, n + 1) else match t with
  | .leaf i w => (.fork n x (.leaf i w), n + 1)
  | .fork i p q => if p.ht ≤ q.ht then (.fork (n + 1) (.fork n x p) q, n + 2) else match p with
    | .leaf j w => (.fork n x (.fork i (.leaf j w) q), n + 1)
    | .fork _ y z => (.fork (n + 2) (.fork n x y) (.fork (n + 1) z q), n + 3)
/-- x with t ahead of it -/
def leanB (n : Nat) (t x : T) : T × Nat :=
  if t.ht ≤ x.ht + 1 then (.fork n t x, n + 1) else match t with
  | .leaf i w => (.fork n (.leaf i w) x, n + 1)
  | .fork i p q => if q.ht ≤ p.ht then (.fork (n + 1) p (.fork n q x), n + 2) else match q with
    | .leaf j w => (.fork n (.fork i p (.leaf j w)) x, n + 1)
    | .fork _ y z => (.fork (n + 2) (.fork n p y) (.fork (n + 1) z x), n + 3)
def joinStep (rec : T → T → T × Nat) (n : Nat) (a b : T) : T × Nat := if b.ht + 1 < a.ht then (match a with
      | .leaf i w => (.fork n (.leaf i w) b, n + 1)
      | .fork _ x y => lean (rec y b).2 x (rec y b).1)
    else if a.ht + 1 < b.ht then (match b with
      | .leaf i w => (.fork n a (.leaf i w), n + 1)
      | .fork _ x y => leanB (rec a x).2 (rec a x).1 y)
    else (.fork n a b, n + 1)
def joinF : Nat → Nat → T → T → T × Nat
  | 0, n, a, b => (.fork n a b, n + 1)
  | f + 1, n, a, b => joinStep (fun a b => joinF f n a b) n a b
theorem joinF_zero (n : Nat) (a b : T) : joinF 0 n a b = (.fork n a b, n + 1) := rfl
theorem joinF_succ (f n : Nat) (a b : T) : joinF (f + 1) n a b = joinStep (fun a b => joinF f n a b) n a b := rfl
theorem joinF_enough : ∀ (f g n : Nat) (a b : T), a.ht + b.ht ≤ f → a.ht + b.ht ≤ g → joinF f n a b = joinF g n a b
  | 0, g, n, a, b, h, h' => by
    cases g with
    | zero => rfl
    | succ g =>
      rw [joinF_zero, joinF_succ, joinStep.eq_def, if_neg (by omega), if_neg (by omega)]
  | f + 1, 0, n, a, b, h, h' => by
    rw [joinF_zero, joinF_succ, joinStep.eq_def, if_neg (by omega), if_neg (by omega)]
  | f + 1, g + 1, n, a, b, h, h' => by
    rw [joinF_succ, joinF_succ, joinStep.eq_def, joinStep.eq_def]
    by_cases h1 : b.ht + 1 < a.ht
    · rw [if_pos h1, if_pos h1]
      cases a with
      | leaf i w => rfl
      | fork i x y =>
        simp only [ht] at h h' h1
        have e := joinF_enough f g n y b (by omega) (by omega)
        simp only [e]
    · rw [if_neg h1, if_neg h1]
      by_cases h2 : a.ht + 1 < b.ht
      · rw [if_pos h2, if_pos h2]
        cases b with
        | leaf i w => rfl
        | fork i x y =>
          simp only [ht] at h h' h2
          have e := joinF_enough f g n a x (by omega) (by omega)
          simp only [e]
      · rw [if_neg h2, if_neg h2]
def join (n : Nat) (a b : T) : T × Nat := joinF (a.ht + b.ht) n a b
theorem join_near {n : Nat} {a b : T} (h1 : a.ht ≤ b.ht + 1) (h2 : b.ht ≤ a.ht + 1) : join n a b = (.fork n a b, n + 1) := by
  unfold join
  cases e : a.ht + b.ht with
  | zero => rfl
  | succ f => rw [joinF_succ, joinStep.eq_def, if_neg (by omega), if_neg (by omega)]
theorem join_left {n i : Nat} {x y b : T} (h : b.ht + 1 < (T.fork i x y).ht) : join n (.fork i x y) b = lean (join n y b).2 x (join n y b).1 := by
  unfold join
  cases e : (T.fork i x y).ht + b.ht with
  | zero => omega
  | succ f =>
    rw [joinF_succ, joinStep.eq_def, if_pos h]
    have hy : y.ht + 1 ≤ (T.fork i x y).ht := by simp only [ht]; omega
    have q := joinF_enough f (y.ht + b.ht) n y b (by omega) (Nat.le_refl _)
    simp only [q]
theorem join_right {n i : Nat} {a x y : T} (h : a.ht + 1 < (T.fork i x y).ht) : join n a (.fork i x y) = leanB (join n a x).2 (join n a x).1 y := by
  unfold join
  cases e : a.ht + (T.fork i x y).ht with
  | zero => omega
  | succ f =>
    rw [joinF_succ, joinStep.eq_def, if_neg (by omega), if_pos h]
    have hy : x.ht + 1 ≤ (T.fork i x y).ht := by simp only [ht]; omega
    have q := joinF_enough f (a.ht + x.ht) n a x (by omega) (Nat.le_refl _)
    simp only [q]
/-- the three ways of join, as an induction -/
theorem join_ind {P : T → T → Prop} (near : ∀ a b, a.ht ≤ b.ht + 1 → b.ht ≤ a.ht + 1 → P a b)
    (left : ∀ i x y b, b.ht + 1 < (T.fork i x y).ht → P y b → P (.fork i x y) b)
    (right : ∀ i x y a, a.ht + 1 < (T.fork i x y).ht → P a x → P a (.fork i x y)) : ∀ a b, P a b := by
  have key : ∀ f a b, a.ht + b.ht ≤ f → P a b := by
    intro f
    induction f with
    | zero => intro a b h; exact near a b (by omega) (by omega)
    | succ f ih =>
      intro a b h
      by_cases h1 : b.ht + 1 < a.ht
      · cases a with
        | leaf i w => simp only [ht] at h1; omega
        | fork i x y =>
          refine left i x y b h1 (ih y b ?_)
          simp only [ht] at h; omega
      · by_cases h2 : a.ht + 1 < b.ht
        · cases b with
          | leaf i w => simp only [ht] at h2; omega
          | fork i x y =>
            refine right i x y a h2 (ih a x ?_)
            simp only [ht] at h; omega
        · exact near a b (by omega) (by omega)
  exact fun a b => key _ a b (Nat.le_refl _)
def joinO (n : Nat) : Option T → Option T → Option T × Nat
  | none, b => (b, n)
  | some a, none => (some a, n)
  | some a, some b => (some (join n a b).1, (join n a b).2)
def lessLast (n : Nat) : T → Option T × Nat
  | .leaf _ _ => (none, n)
  | .fork _ x y => joinO (lessLast n y).2 (some x) (lessLast n y).1
def lessFirst (n : Nat) : T → Option T × Nat
  | .leaf _ _ => (none, n)
  | .fork _ x y => joinO (lessFirst n x).2 (lessFirst n x).1 (some y)
/-- sewn, in the document's formal order -/
def sewS (n : Nat) : Option T → Option T → Option T × Nat
  | none, b => (b, n)
  | some a, none => (some a, n)
  | some a, some b => if 8 < a.lastW.length + b.firstW.length then (some (join n a b).1, (join n a b).2) else
    let p := lessLast n a
    let q := lessFirst p.2 b
    let t := joinO (q.2 + 1) p.1 (some (.leaf q.2 (a.lastW ++ b.firstW)))
    joinO t.2 t.1 q.1
/-- sewn, in the program's order -/
def sewC (n : Nat) : Option T → Option T → Option T × Nat
  | none, b => (b, n)
  | some a, none => (some a, n)
  | some a, some b => if 8 < a.lastW.length + b.firstW.length then (some (join n a b).1, (join n a b).2) else
    let p := lessLast n a
    let t := joinO (p.2 + 1) p.1 (some (.leaf p.2 (a.lastW ++ b.firstW)))
    let q := lessFirst t.2 b
    joinO q.2 t.1 q.1
abbrev Sew := Nat → Option T → Option T → Option T × Nat
def split (sw : Sew) (n : Nat) : T → Nat → (Option T × Option T) × Nat
  | .leaf i w, p => if p = 0 then ((none, some (.leaf i w)), n) else if w.length ≤ p then ((some (.leaf i w), none), n) else
      ((some (.leaf n (w.take p)), some (.leaf (n + 1) (w.drop p))), n + 2)
  | .fork i x y, p => if p = 0 then ((none, some (.fork i x y)), n) else if x.size + y.size ≤ p then ((some (.fork i x y), none), n) else
    if p ≤ x.size then
      let s := split sw n x p
      let r := sw s.2 s.1.2 (some y)
      ((s.1.1, r.1), r.2)
    else
      let s := split sw n y (p - x.size)
      let r := sw s.2 (some x) s.1.1
      ((r.1, s.1.2), r.2)
def splitO (sw : Sew) (n : Nat) : Option T → Nat → (Option T × Option T) × Nat
  | none, _ => ((none, none), n)
  | some t, p => split sw n t p
def putIn (sw : Sew) (n : Nat) (r : Option T) (p : Nat) (m : Option T) : Option T × Nat :=
  let x := splitO sw n r p
  let y := sw x.2 x.1.1 m
  sw y.2 y.1 x.1.2
def takeOut (sw : Sew) (n : Nat) (r : Option T) (a b : Nat) : Option T × Nat :=
  let x := splitO sw n r a
  let y := splitO sw x.2 x.1.2 (b - a)
  sw y.2 x.1.1 y.1.2
def cut (sw : Sew) (n : Nat) (r : Option T) (a b : Nat) : Option T × Nat :=
  let x := splitO sw n r b
  let y := splitO sw x.2 x.1.1 a
  (y.1.2, y.2)
/-- leaves of eight bytes, joined one behind another -/
def built : Nat → Nat → Option T → List Nat → Option T × Nat
  | 0, n, t, _ => (t, n)
  | f + 1, n, t, w => if w.isEmpty = true then (t, n) else
    let v := joinO (n + 1) t (some (.leaf n (w.take 8)))
    built f v.2 v.1 (w.drop 8)
end Ph
set_option linter.all false
set_option maxRecDepth 20000
namespace Ph
open T
theorem lean_cases {P : T × Nat → Prop} {n : Nat} {x t : T} (h1 : t.ht ≤ x.ht + 1 → P (.fork n x t, n + 1))
    (h2 : ∀ i p q, t = .fork i p q → ¬ t.ht ≤ x.ht + 1 → p.ht ≤ q.ht → P (.fork (n + 1) (.fork n x p) q, n + 2))
    (h3 : ∀ i j y z q, t = .fork i (.fork j y z) q → ¬ t.ht ≤ x.ht + 1 → ¬ (T.fork j y z).ht ≤ q.ht → P (.fork (n + 2) (.fork n x y) (.fork (n + 1) z q), n + 3)) : P (lean n x t) := by
  rw [lean.eq_def]
  by_cases c : t.ht ≤ x.ht + 1
  · rw [if_pos c]; exact h1 c
  · rw [if_neg c]
    cases t with
    | leaf i w => simp [ht] at c
    | fork i p q =>
      show P (if p.ht ≤ q.ht then _ else _)
      by_cases d : p.ht ≤ q.ht
      · rw [if_pos d]; exact h2 i p q rfl c d
      · rw [if_neg d]
        cases p with
        | leaf j w => simp [ht] at d
        | fork j y z => exact h3 i j y z q rfl c d
theorem leanB_cases {P : T × Nat → Prop} {n : Nat} {x t : T} (h1 : t.ht ≤ x.ht + 1 → P (.fork n t x, n + 1))
    (h2 : ∀ i p q, t = .fork i p q → ¬ t.ht ≤ x.ht + 1 → q.ht ≤ p.ht → P (.fork (n + 1) p (.fork n q x), n + 2))
    (h3 : ∀ i j p y z, t = .fork i p (.fork j y z) → ¬ t.ht ≤ x.ht + 1 → ¬ (T.fork j y z).ht ≤ p.ht → P (.fork (n + 2) (.fork n p y) (.fork (n + 1) z x), n + 3)) : P (leanB n t x) := by
  rw [leanB.eq_def]
  by_cases c : t.ht ≤ x.ht + 1
  · rw [if_pos c]; exact h1 c
  · rw [if_neg c]
    cases t with
    | leaf i w => simp [ht] at c
    | fork i p q =>
      show P (if q.ht ≤ p.ht then _ else _)
      by_cases d : q.ht ≤ p.ht
      · rw [if_pos d]; exact h2 i p q rfl c d
      · rw [if_neg d]
        cases q with
        | leaf j w => simp [ht] at d
        | fork j y z => exact h3 i j p y z rfl c d

/-! ### balance, and how many are made -/
theorem lean_avl {n : Nat} {x t : T} (ax : x.Avl) (at_ : t.Avl) (g1 : t.ht ≤ x.ht + 2) (g2 : x.ht ≤ t.ht + 1) :
    (lean n x t).1.Avl ∧ max x.ht t.ht ≤ (lean n x t).1.ht ∧ (lean n x t).1.ht ≤ max x.ht t.ht + 1 ∧ (t.ht ≤ x.ht + 1 → (lean n x t).1.ht = max x.ht t.ht + 1) ∧ n < (lean n x t).2 ∧ (lean n x t).2 ≤ n + 3 := by
  refine lean_cases (P := fun r => r.1.Avl ∧ max x.ht t.ht ≤ r.1.ht ∧ r.1.ht ≤ max x.ht t.ht + 1 ∧ (t.ht ≤ x.ht + 1 → r.1.ht = max x.ht t.ht + 1) ∧ n < r.2 ∧ r.2 ≤ n + 3) (fun c => ?_) (fun i p q e c d => ?_) (fun i j y z q e c d => ?_)
  · simp only [Avl, ht]; exact ⟨⟨g2, c, ax, at_⟩, by omega, by omega, fun _ => True.intro, by omega, by omega⟩
  · subst e
    simp only [Avl, ht] at *
    obtain ⟨b1, b2, a1, a2⟩ := at_
    exact ⟨⟨by omega, by omega, ⟨by omega, by omega, ax, a1⟩, a2⟩, by omega, by omega, by omega, by omega, by omega⟩
  · subst e
    simp only [Avl, ht] at *
    obtain ⟨b1, b2, ⟨b3, b4, a1, a2⟩, a3⟩ := at_
    exact ⟨⟨by omega, by omega, ⟨by omega, by omega, ax, a1⟩, ⟨by omega, by omega, a2, a3⟩⟩, by omega, by omega, by omega, by omega, by omega⟩
theorem leanB_avl {n : Nat} {x t : T} (ax : x.Avl) (at_ : t.Avl) (g1 : t.ht ≤ x.ht + 2) (g2 : x.ht ≤ t.ht + 1) :
    (leanB n t x).1.Avl ∧ max x.ht t.ht ≤ (leanB n t x).1.ht ∧ (leanB n t x).1.ht ≤ max x.ht t.ht + 1 ∧ (t.ht ≤ x.ht + 1 → (leanB n t x).1.ht = max x.ht t.ht + 1) ∧ n < (leanB n t x).2 ∧ (leanB n t x).2 ≤ n + 3 := by
  refine leanB_cases (P := fun r => r.1.Avl ∧ max x.ht t.ht ≤ r.1.ht ∧ r.1.ht ≤ max x.ht t.ht + 1 ∧ (t.ht ≤ x.ht + 1 → r.1.ht = max x.ht t.ht + 1) ∧ n < r.2 ∧ r.2 ≤ n + 3) (fun c => ?_) (fun i p q e c d => ?_) (fun i j p y z e c d => ?_)
  · simp only [Avl, ht]; exact ⟨⟨c, g2, at_, ax⟩, by omega, by omega, fun _ => by omega, by omega, by omega⟩
  · subst e
    simp only [Avl, ht] at *
    obtain ⟨b1, b2, a1, a2⟩ := at_
    exact ⟨⟨by omega, by omega, a1, ⟨by omega, by omega, a2, ax⟩⟩, by omega, by omega, by omega, by omega, by omega⟩
  · subst e
    simp only [Avl, ht] at *
    obtain ⟨b1, b2, a3, ⟨b3, b4, a1, a2⟩⟩ := at_
    exact ⟨⟨by omega, by omega, ⟨by omega, by omega, a3, a1⟩, ⟨by omega, by omega, a2, ax⟩⟩, by omega, by omega, by omega, by omega, by omega⟩
/-- what join gives, of balanced ones -/
structure JoinOk (n : Nat) (a b : T) (r : T × Nat) : Prop where
  avl : r.1.Avl
  lo : max a.ht b.ht ≤ r.1.ht
  hi : r.1.ht ≤ max a.ht b.ht + 1
  eq : a.ht ≤ b.ht + 1 → b.ht ≤ a.ht + 1 → r.1.ht = max a.ht b.ht + 1
  up : n < r.2
  cost : r.2 ≤ n + 1 + 3 * (a.ht - b.ht - 1) + 3 * (b.ht - a.ht - 1)
theorem join_avl (n : Nat) : ∀ a b : T, a.Avl → b.Avl → JoinOk n a b (join n a b) := by
  refine join_ind (P := fun a b => a.Avl → b.Avl → JoinOk n a b (join n a b)) (fun a b h1 h2 aa ab => ?_) (fun i x y b h ih aa ab => ?_) (fun i x y a h ih aa ab => ?_)
  · rw [join_near h1 h2]
    exact ⟨⟨h1, h2, aa, ab⟩, by simp only [ht]; omega, by simp only [ht]; omega, fun _ _ => by simp only [ht], by omega, by simp only []; omega⟩
  · rw [join_left h]
    obtain ⟨b1, b2, ax, ay⟩ := aa
    obtain ⟨q1, q2, q3, q4, q5, q6⟩ := ih ay ab
    simp only [ht] at h
    have k := lean_avl (n := (join n y b).2) ax q1 (by omega) (by omega)
    obtain ⟨k1, k2, k3, k4, k5, k6⟩ := k
    refine ⟨k1, ?_, ?_, ?_, by omega, ?_⟩
    all_goals simp only [ht]
    all_goals omega
  · rw [join_right h]
    obtain ⟨b1, b2, ax, ay⟩ := ab
    obtain ⟨q1, q2, q3, q4, q5, q6⟩ := ih aa ax
    simp only [ht] at h
    have k := leanB_avl (n := (join n a x).2) ay q1 (by omega) (by omega)
    obtain ⟨k1, k2, k3, k4, k5, k6⟩ := k
    refine ⟨k1, ?_, ?_, ?_, by omega, ?_⟩
    all_goals simp only [ht]
    all_goals omega
/-! ### bytes, leaves -/
theorem lean_bytes (n : Nat) (x t : T) : (lean n x t).1.bytes = x.bytes ++ t.bytes ∧ (x.Wf → t.Wf → (lean n x t).1.Wf) := by
  refine lean_cases (P := fun r => r.1.bytes = x.bytes ++ t.bytes ∧ (x.Wf → t.Wf → r.1.Wf)) (fun c => ?_) (fun i p q e c d => ?_) (fun i j y z q e c d => ?_)
  · exact ⟨rfl, fun h1 h2 => ⟨h1, h2⟩⟩
  · subst e; exact ⟨by simp [bytes], fun h1 h2 => ⟨⟨h1, h2.1⟩, h2.2⟩⟩
  · subst e; exact ⟨by simp [bytes], fun h1 h2 => ⟨⟨h1, h2.1.1⟩, ⟨h2.1.2, h2.2⟩⟩⟩
theorem leanB_bytes (n : Nat) (t x : T) : (leanB n t x).1.bytes = t.bytes ++ x.bytes ∧ (x.Wf → t.Wf → (leanB n t x).1.Wf) := by
  refine leanB_cases (P := fun r => r.1.bytes = t.bytes ++ x.bytes ∧ (x.Wf → t.Wf → r.1.Wf)) (fun c => ?_) (fun i p q e c d => ?_) (fun i j p y z e c d => ?_)
  · exact ⟨rfl, fun h1 h2 => ⟨h2, h1⟩⟩
  · subst e; exact ⟨by simp [bytes], fun h1 h2 => ⟨h2.1, ⟨h2.2, h1⟩⟩⟩
  · subst e; exact ⟨by simp [bytes], fun h1 h2 => ⟨⟨h2.1, h2.2.1⟩, ⟨h2.2.2, h1⟩⟩⟩
theorem join_bytes (n : Nat) : ∀ a b : T, (join n a b).1.bytes = a.bytes ++ b.bytes ∧ (a.Wf → b.Wf → (join n a b).1.Wf) := by
  refine join_ind (P := fun a b => (join n a b).1.bytes = a.bytes ++ b.bytes ∧ (a.Wf → b.Wf → (join n a b).1.Wf)) (fun a b h1 h2 => ?_) (fun i x y b h ih => ?_) (fun i x y a h ih => ?_)
  · rw [join_near h1 h2]; exact ⟨rfl, fun u v => ⟨u, v⟩⟩
  · rw [join_left h]
    have k := lean_bytes (join n y b).2 x (join n y b).1
    exact ⟨by rw [k.1, ih.1]; simp [bytes], fun u v => k.2 u.1 (ih.2 u.2 v)⟩
  · rw [join_right h]
    have k := leanB_bytes (join n a x).2 (join n a x).1 y
    exact ⟨by rw [k.1, ih.1]; simp [bytes], fun u v => k.2 v.2 (ih.2 u v.1)⟩
/-! ### a tree or none -/
def bytesO : Option T → List Nat
  | none => []
  | some t => t.bytes
def sizeO : Option T → Nat
  | none => 0
  | some t => t.size
def htO : Option T → Nat
  | none => 0
  | some t => t.ht
theorem htO_some (t : T) : htO (some t) = t.ht := rfl
/-- balanced, with good leaves -/
def Ok : Option T → Prop
  | none => True
  | some t => t.Avl ∧ t.Wf
theorem sizeO_bytes (o : Option T) : (bytesO o).length = sizeO o := by cases o <;> simp [bytesO, sizeO, size_bytes]
theorem joinO_bytes (n : Nat) (a b : Option T) : bytesO (joinO n a b).1 = bytesO a ++ bytesO b := by
  cases a <;> cases b <;> simp [joinO, bytesO, (join_bytes _ _ _).1]
theorem joinO_ok {n : Nat} {a b : Option T} (ha : Ok a) (hb : Ok b) : Ok (joinO n a b).1 := by
  cases a with
  | none => exact hb
  | some a =>
    cases b with
    | none => exact ha
    | some b => exact ⟨(join_avl n a b ha.1 hb.1).avl, (join_bytes n a b).2 ha.2 hb.2⟩
theorem joinO_cost {n : Nat} {a b : Option T} (ha : Ok a) (hb : Ok b) : n ≤ (joinO n a b).2 ∧ (joinO n a b).2 ≤ n + 1 + 3 * max (htO a) (htO b) ∧ htO (joinO n a b).1 ≤ max (htO a) (htO b) + 1 := by
  cases a with
  | none => simp [joinO, htO]; omega
  | some a =>
    cases b with
    | none => simp [joinO, htO]; omega
    | some b =>
      have k := join_avl n a b ha.1 hb.1
      have := k.up; have := k.cost; have := k.hi
      simp only [joinO, htO]
      omega
theorem lessLast_none {n : Nat} : ∀ {t : T}, (lessLast n t).1 = none → ∃ i w, t = .leaf i w ∧ (lessLast n t).2 = n
  | .leaf i w, _ => ⟨i, w, rfl, rfl⟩
  | .fork i x y, h => by
    simp only [lessLast] at h
    cases e : (lessLast n y).1 <;> rw [e] at h <;> simp [joinO] at h
theorem lessFirst_none {n : Nat} : ∀ {t : T}, (lessFirst n t).1 = none → ∃ i w, t = .leaf i w ∧ (lessFirst n t).2 = n
  | .leaf i w, _ => ⟨i, w, rfl, rfl⟩
  | .fork i x y, h => by
    simp only [lessFirst] at h
    cases e : (lessFirst n x).1 <;> rw [e] at h <;> simp [joinO] at h
theorem lessLast_bytes (n : Nat) : ∀ t : T, bytesO (lessLast n t).1 ++ t.lastW = t.bytes
  | .leaf i w => by simp [lessLast, bytesO, lastW, bytes]
  | .fork i x y => by
    have ih := lessLast_bytes n y
    rw [lessLast, joinO_bytes, lastW, List.append_assoc, ih]; rfl
theorem lessFirst_bytes (n : Nat) : ∀ t : T, t.firstW ++ bytesO (lessFirst n t).1 = t.bytes
  | .leaf i w => by simp [lessFirst, bytesO, firstW, bytes]
  | .fork i x y => by
    have ih := lessFirst_bytes n x
    rw [lessFirst, joinO_bytes, firstW, ← List.append_assoc, ih]; rfl
theorem lastW_wf : ∀ {t : T}, t.Wf → 1 ≤ t.lastW.length ∧ t.lastW.length ≤ 8
  | .leaf _ _, h => h
  | .fork _ _ b, h => lastW_wf (t := b) h.2
theorem firstW_wf : ∀ {t : T}, t.Wf → 1 ≤ t.firstW.length ∧ t.firstW.length ≤ 8
  | .leaf _ _, h => h
  | .fork _ a _, h => firstW_wf (t := a) h.1
theorem lessLast_ok (n : Nat) : ∀ t : T, t.Avl → t.Wf → Ok (lessLast n t).1 ∧ n ≤ (lessLast n t).2 ∧ (lessLast n t).2 ≤ n + 4 * t.ht ∧ htO (lessLast n t).1 ≤ t.ht ∧ t.ht ≤ htO (lessLast n t).1 + 1
  | .leaf i w, _, _ => by simp [lessLast, Ok, ht, htO]
  | .fork i x y, a, w => by
    obtain ⟨o, c1, c2, c3, c4⟩ := lessLast_ok n y a.2.2.2 w.2
    obtain ⟨b1, b2, ax, ay⟩ := a
    simp only [lessLast]
    cases e : (lessLast n y).1 with
    | none =>
      obtain ⟨j, v, ey, en⟩ := lessLast_none e
      subst ey
      rw [en]
      simp only [joinO, htO, ht] at *
      refine ⟨⟨ax, w.1⟩, ?_, ?_, ?_, ?_⟩ <;> omega
    | some r =>
      rw [e] at o c3 c4
      simp only [htO] at c3 c4
      have k := join_avl (lessLast n y).2 x r ax o.1
      have k1 := k.lo; have k2 := k.hi; have k3 := k.eq; have k4 := k.up; have k5 := k.cost
      simp only [joinO, htO, ht]
      refine ⟨⟨k.avl, (join_bytes _ _ _).2 w.1 o.2⟩, ?_, ?_, ?_, ?_⟩ <;> omega
theorem lessFirst_ok (n : Nat) : ∀ t : T, t.Avl → t.Wf → Ok (lessFirst n t).1 ∧ n ≤ (lessFirst n t).2 ∧ (lessFirst n t).2 ≤ n + 4 * t.ht ∧ htO (lessFirst n t).1 ≤ t.ht ∧ t.ht ≤ htO (lessFirst n t).1 + 1
  | .leaf i w, _, _ => by simp [lessFirst, Ok, ht, htO]
  | .fork i x y, a, w => by
    obtain ⟨o, c1, c2, c3, c4⟩ := lessFirst_ok n x a.2.2.1 w.1
    obtain ⟨b1, b2, ax, ay⟩ := a
    simp only [lessFirst]
    cases e : (lessFirst n x).1 with
    | none =>
      obtain ⟨j, v, ey, en⟩ := lessFirst_none e
      subst ey
      rw [en]
      simp only [joinO, htO, ht] at *
      refine ⟨⟨ay, w.2⟩, ?_, ?_, ?_, ?_⟩ <;> omega
    | some r =>
      rw [e] at o c3 c4
      simp only [htO] at c3 c4
      have k := join_avl (lessFirst n x).2 r y o.1 ay
      have k1 := k.lo; have k2 := k.hi; have k3 := k.eq; have k4 := k.up; have k5 := k.cost
      simp only [joinO, htO, ht]
      refine ⟨⟨k.avl, (join_bytes _ _ _).2 o.2 w.2⟩, ?_, ?_, ?_, ?_⟩ <;> omega
theorem sewC_ok {n : Nat} {a b : Option T} (ha : Ok a) (hb : Ok b) : Ok (sewC n a b).1 ∧ bytesO (sewC n a b).1 = bytesO a ++ bytesO b ∧ n ≤ (sewC n a b).2 ∧ (sewC n a b).2 ≤ n + 14 * max (htO a) (htO b) + 6 := by
  cases a with
  | none => simp [sewC, bytesO, hb]; omega
  | some a =>
    cases b with
    | none => simp [sewC, bytesO, ha]; omega
    | some b =>
      simp only [sewC]
      by_cases c : 8 < a.lastW.length + b.firstW.length
      · rw [if_pos c]
        have k := join_avl n a b ha.1 hb.1
        have k4 := k.up; have k5 := k.cost
        refine ⟨⟨k.avl, (join_bytes _ _ _).2 ha.2 hb.2⟩, by simp [bytesO, (join_bytes _ _ _).1], ?_, ?_⟩
        · simp only []; omega
        · simp only [htO]; omega
      · rw [if_neg c]
        obtain ⟨p1, p2, p3, p4, p5⟩ := lessLast_ok n a ha.1 ha.2
        have wl : Ok (some (T.leaf (lessLast n a).2 (a.lastW ++ b.firstW))) := ⟨True.intro, by
          have := lastW_wf ha.2
          simp only [Wf, List.length_append]; omega⟩
        have o1 := joinO_ok (n := (lessLast n a).2 + 1) p1 wl
        obtain ⟨c1, c2, c3⟩ := joinO_cost (n := (lessLast n a).2 + 1) p1 wl
        obtain ⟨q1, q2, q3, q4, q5⟩ := lessFirst_ok (joinO ((lessLast n a).2 + 1) (lessLast n a).1 (some (T.leaf (lessLast n a).2 (a.lastW ++ b.firstW)))).2 b hb.1 hb.2
        have o2 := joinO_ok (n := (lessFirst (joinO ((lessLast n a).2 + 1) (lessLast n a).1 (some (T.leaf (lessLast n a).2 (a.lastW ++ b.firstW)))).2 b).2) o1 q1
        obtain ⟨d1, d2, d3⟩ := joinO_cost (n := (lessFirst (joinO ((lessLast n a).2 + 1) (lessLast n a).1 (some (T.leaf (lessLast n a).2 (a.lastW ++ b.firstW)))).2 b).2) o1 q1
        refine ⟨o2, ?_, by omega, ?_⟩
        · rw [joinO_bytes, joinO_bytes]
          have e1 := lessLast_bytes n a
          have e2 := lessFirst_bytes (joinO ((lessLast n a).2 + 1) (lessLast n a).1 (some (T.leaf (lessLast n a).2 (a.lastW ++ b.firstW)))).2 b
          show bytesO (lessLast n a).1 ++ (a.lastW ++ b.firstW) ++ _ = a.bytes ++ b.bytes
          rw [← e1, ← e2]
          simp
        · simp only [htO_some, ht] at c2 c3 d2 p4 ⊢
          omega
/-! ### heights of balanced trees -/
def fibs : Nat → Nat × Nat
  | 0 => (1, 2)
  | h + 1 => ((fibs h).2, (fibs h).1 + (fibs h).2)
theorem fibs_le : ∀ h, 1 ≤ (fibs h).1 ∧ (fibs h).1 ≤ (fibs h).2 ∧ (fibs h).2 ≤ 2 * (fibs h).1
  | 0 => by decide
  | h + 1 => by have := fibs_le h; simp only [fibs]; omega
theorem fibs_mono : ∀ {h k : Nat}, h ≤ k → (fibs h).1 ≤ (fibs k).1 := by
  intro h k hk
  induction hk with
  | refl => exact Nat.le_refl _
  | step _ ih => exact Nat.le_trans ih (fibs_le _).2.1
theorem fib_size : ∀ t : T, t.Avl → t.Wf → (fibs t.ht).1 ≤ t.size
  | .leaf i w, _, h => h.1
  | .fork i a b, av, wf => by
    have ha := fib_size a av.2.2.1 wf.1
    have hb := fib_size b av.2.2.2 wf.2
    obtain ⟨h1, h2, _⟩ := av
    simp only [ht, size]
    by_cases c : a.ht ≤ b.ht
    · have e : max a.ht b.ht = b.ht := by omega
      rw [e]
      show (fibs b.ht).2 ≤ _
      cases eb : b.ht with
      | zero =>
        have e0 : a.ht = 0 := by omega
        rw [e0] at ha; rw [eb] at hb
        have : (fibs 0).1 = 1 := rfl
        have : (fibs 0).2 = 2 := rfl
        omega
      | succ k =>
        have m : (fibs k).1 ≤ (fibs a.ht).1 := fibs_mono (by omega)
        rw [eb] at hb
        have e1 : (fibs (k + 1)).2 = (fibs k).1 + (fibs k).2 := rfl
        have e2 : (fibs (k + 1)).1 = (fibs k).2 := rfl
        omega
    · have e : max a.ht b.ht = a.ht := by omega
      rw [e]
      show (fibs a.ht).2 ≤ _
      cases ea : a.ht with
      | zero => omega
      | succ k =>
        have m : (fibs k).1 ≤ (fibs b.ht).1 := fibs_mono (by omega)
        rw [ea] at ha
        have e1 : (fibs (k + 1)).2 = (fibs k).1 + (fibs k).2 := rfl
        have e2 : (fibs (k + 1)).1 = (fibs k).2 := rfl
        omega
theorem ht_small {t : T} (a : t.Avl) (w : t.Wf) (h : t.size ≤ 2 ^ 40) : t.ht ≤ 57 := by
  have k := fib_size t a w
  by_cases c : t.ht ≤ 57
  · exact c
  · have m : (fibs 58).1 ≤ (fibs t.ht).1 := fibs_mono (by omega)
    have e : (fibs 58).1 = 1548008755920 := by decide +kernel
    rw [e] at m
    have : (2 : Nat) ^ 40 = 1099511627776 := by decide
    omega
theorem htO_small {o : Option T} (k : Ok o) (h : sizeO o ≤ 2 ^ 40) : htO o ≤ 57 := by
  cases o with
  | none => exact Nat.zero_le _
  | some t => exact ht_small k.1 k.2 h
theorem sewC_cost {n : Nat} {a b : Option T} (ha : Ok a) (hb : Ok b) (sa : sizeO a ≤ 2 ^ 40) (sb : sizeO b ≤ 2 ^ 40) : (sewC n a b).2 ≤ n + 804 := by
  have h := (sewC_ok (n := n) ha hb).2.2.2
  have h1 := htO_small ha sa
  have h2 := htO_small hb sb
  omega
/-- what a part gives -/
structure SplitOk (n : Nat) (t : Option T) (p : Nat) (c : Nat) (r : (Option T × Option T) × Nat) : Prop where
  ok1 : Ok r.1.1
  ok2 : Ok r.1.2
  b1 : bytesO r.1.1 = (bytesO t).take p
  b2 : bytesO r.1.2 = (bytesO t).drop p
  up : n ≤ r.2
  cost : r.2 ≤ n + c
theorem split_ok (n : Nat) : ∀ (t : T) (p : Nat), t.Avl → t.Wf → t.size ≤ 2 ^ 40 → SplitOk n (some t) p (2 + 804 * t.ht) (split sewC n t p)
  | .leaf i w, p, a, wf, s => by
    simp only [split]
    by_cases c : p = 0
    · subst c
      exact ⟨True.intro, ⟨a, wf⟩, by simp [bytesO], by simp [bytesO], Nat.le_refl _, by simp [ht]⟩
    · rw [if_neg c]
      by_cases d : w.length ≤ p
      · rw [if_pos d]
        exact ⟨⟨a, wf⟩, True.intro, by simp [bytesO, bytes, List.take_of_length_le d], by simp [bytesO, bytes, d], Nat.le_refl _, by simp [ht]⟩
      · rw [if_neg d]
        simp only [Wf] at wf
        exact ⟨⟨True.intro, by simp only [Wf, List.length_take]; omega⟩, ⟨True.intro, by simp only [Wf, List.length_drop]; omega⟩, rfl, rfl, by simp only []; omega, by simp [ht]⟩
  | .fork i x y, p, a, wf, s => by
    simp only [split]
    by_cases c : p = 0
    · subst c
      rw [if_pos rfl]
      exact ⟨True.intro, ⟨a, wf⟩, by simp [bytesO], by simp [bytesO], Nat.le_refl _, Nat.le_add_right _ _⟩
    · rw [if_neg c]
      by_cases d : x.size + y.size ≤ p
      · rw [if_pos d]
        have e : (T.fork i x y).bytes.length ≤ p := by rw [size_bytes]; exact d
        exact ⟨⟨a, wf⟩, True.intro, by simp only [bytesO]; rw [List.take_of_length_le e], by simp only [bytesO]; rw [List.drop_of_length_le e], Nat.le_refl _, Nat.le_add_right _ _⟩
      · rw [if_neg d]
        have sx : x.size ≤ 2 ^ 40 := by simp only [size] at s; omega
        have sy : y.size ≤ 2 ^ 40 := by simp only [size] at s; omega
        have lx := size_bytes x
        have ly := size_bytes y
        by_cases e : p ≤ x.size
        · rw [if_pos e]
          obtain ⟨o1, o2, b1, b2, u, k⟩ := split_ok n x p a.2.2.1 wf.1 sx
          have sr : sizeO (split sewC n x p).1.2 ≤ 2 ^ 40 := by
            rw [← sizeO_bytes, b2, List.length_drop]; simp only [bytesO]; omega
          obtain ⟨g1, g2, g3, _⟩ := sewC_ok (n := (split sewC n x p).2) (a := (split sewC n x p).1.2) (b := some y) o2 ⟨a.2.2.2, wf.2⟩
          have g5 := sewC_cost (n := (split sewC n x p).2) (a := (split sewC n x p).1.2) (b := some y) o2 ⟨a.2.2.2, wf.2⟩ sr sy
          refine ⟨o1, g1, ?_, ?_, Nat.le_trans u g3, ?_⟩
          · show bytesO (split sewC n x p).1.1 = _
            rw [b1]; simp only [bytesO, bytes]; rw [List.take_append_of_le_length (by omega)]
          · show bytesO (sewC _ _ _).1 = _
            rw [g2, b2]; simp only [bytesO, bytes]; rw [List.drop_append_of_le_length (by omega)]
          · show (sewC _ _ _).2 ≤ _
            simp only [ht]
            have : x.ht ≤ max x.ht y.ht := Nat.le_max_left _ _
            omega
        · rw [if_neg e]
          obtain ⟨o1, o2, b1, b2, u, k⟩ := split_ok n y (p - x.size) a.2.2.2 wf.2 sy
          have sr : sizeO (split sewC n y (p - x.size)).1.1 ≤ 2 ^ 40 := by
            rw [← sizeO_bytes, b1, List.length_take]; simp only [bytesO]; omega
          obtain ⟨g1, g2, g3, _⟩ := sewC_ok (n := (split sewC n y (p - x.size)).2) (a := some x) (b := (split sewC n y (p - x.size)).1.1) ⟨a.2.2.1, wf.1⟩ o1
          have g5 := sewC_cost (n := (split sewC n y (p - x.size)).2) (a := some x) (b := (split sewC n y (p - x.size)).1.1) ⟨a.2.2.1, wf.1⟩ o1 sx sr
          refine ⟨g1, o2, ?_, ?_, Nat.le_trans u g3, ?_⟩
          · show bytesO (sewC _ _ _).1 = _
            rw [g2, b1]; simp only [bytesO, bytes]
            rw [List.take_append, lx, List.take_of_length_le (by omega : x.bytes.length ≤ p)]
          · show bytesO (split sewC n y (p - x.size)).1.2 = _
            rw [b2]; simp only [bytesO, bytes]
            rw [List.drop_append, lx, List.drop_of_length_le (by omega : x.bytes.length ≤ p), List.nil_append]
          · show (sewC _ _ _).2 ≤ _
            simp only [ht]
            have : y.ht ≤ max x.ht y.ht := Nat.le_max_right _ _
            omega
theorem splitO_ok {n : Nat} {t : Option T} {p : Nat} (k : Ok t) (s : sizeO t ≤ 2 ^ 40) : SplitOk n t p 45830 (splitO sewC n t p) := by
  cases t with
  | none => exact ⟨True.intro, True.intro, by simp [splitO, bytesO], by simp [splitO, bytesO], Nat.le_refl _, Nat.le_add_right _ _⟩
  | some t =>
    obtain ⟨o1, o2, b1, b2, u, c⟩ := split_ok n t p k.1 k.2 s
    have h := ht_small k.1 k.2 s
    exact ⟨o1, o2, b1, b2, u, by show (split sewC n t p).2 ≤ _; omega⟩
end Ph
set_option linter.all false
set_option maxRecDepth 20000
namespace Ph
open T
/-! ## whole operations in the program's order: bytes, balance, how many are made -/
structure OpOk (n : Nat) (r : Option T × Nat) (bs : List Nat) (c : Nat) : Prop where
  ok : Ok r.1
  bytes : bytesO r.1 = bs
  up : n ≤ r.2
  cost : r.2 ≤ n + c
theorem putIn_ok {n : Nat} {r m : Option T} {p : Nat} (kr : Ok r) (km : Ok m) (s : sizeO r + sizeO m ≤ 2 ^ 40) :
    OpOk n (putIn sewC n r p m) ((bytesO r).take p ++ bytesO m ++ (bytesO r).drop p) 47438 := by
  obtain ⟨o1, o2, b1, b2, u, c⟩ := splitO_ok (n := n) (p := p) kr (by omega)
  have l1 : sizeO (splitO sewC n r p).1.1 ≤ sizeO r := by rw [← sizeO_bytes, ← sizeO_bytes, b1, List.length_take]; omega
  have l2 : sizeO (splitO sewC n r p).1.2 ≤ sizeO r := by rw [← sizeO_bytes, ← sizeO_bytes, b2, List.length_drop]; omega
  obtain ⟨g1, g2, g3, _⟩ := sewC_ok (n := (splitO sewC n r p).2) o1 km
  have g4 := sewC_cost (n := (splitO sewC n r p).2) o1 km (by omega) (by omega)
  have l3 : sizeO (sewC (splitO sewC n r p).2 (splitO sewC n r p).1.1 m).1 ≤ sizeO r + sizeO m := by
    rw [← sizeO_bytes, g2, List.length_append, sizeO_bytes, sizeO_bytes]; omega
  obtain ⟨h1, h2, h3, _⟩ := sewC_ok (n := (sewC (splitO sewC n r p).2 (splitO sewC n r p).1.1 m).2) g1 o2
  have h4 := sewC_cost (n := (sewC (splitO sewC n r p).2 (splitO sewC n r p).1.1 m).2) g1 o2 (by omega) (by omega)
  refine ⟨h1, ?_, ?_, ?_⟩
  · show bytesO (sewC _ _ _).1 = _
    rw [h2, g2, b1, b2]
  · show n ≤ (sewC _ _ _).2
    omega
  · show (sewC _ _ _).2 ≤ _
    omega
theorem takeOut_ok {n : Nat} {r : Option T} {a b : Nat} (kr : Ok r) (s : sizeO r ≤ 2 ^ 40) (h : a ≤ b) :
    OpOk n (takeOut sewC n r a b) ((bytesO r).take a ++ (bytesO r).drop b) 92464 := by
  obtain ⟨o1, o2, b1, b2, u, c⟩ := splitO_ok (n := n) (p := a) kr (by omega)
  have l1 : sizeO (splitO sewC n r a).1.1 ≤ sizeO r := by rw [← sizeO_bytes, ← sizeO_bytes, b1, List.length_take]; omega
  have l2 : sizeO (splitO sewC n r a).1.2 ≤ sizeO r := by rw [← sizeO_bytes, ← sizeO_bytes, b2, List.length_drop]; omega
  obtain ⟨p1, p2, d1, d2, v, e⟩ := splitO_ok (n := (splitO sewC n r a).2) (p := b - a) o2 (by omega)
  have l3 : sizeO (splitO sewC (splitO sewC n r a).2 (splitO sewC n r a).1.2 (b - a)).1.2 ≤ sizeO r := by rw [← sizeO_bytes, d2, List.length_drop, sizeO_bytes]; omega
  obtain ⟨h1, h2, h3, _⟩ := sewC_ok (n := (splitO sewC (splitO sewC n r a).2 (splitO sewC n r a).1.2 (b - a)).2) o1 p2
  have h4 := sewC_cost (n := (splitO sewC (splitO sewC n r a).2 (splitO sewC n r a).1.2 (b - a)).2) o1 p2 (by omega) (by omega)
  refine ⟨h1, ?_, ?_, ?_⟩
  · show bytesO (sewC _ _ _).1 = _
    rw [h2, b1, d2, b2, List.drop_drop, show a + (b - a) = b by omega]
  · show n ≤ (sewC _ _ _).2
    omega
  · show (sewC _ _ _).2 ≤ _
    omega
theorem cut_ok {n : Nat} {r : Option T} {a b : Nat} (kr : Ok r) (s : sizeO r ≤ 2 ^ 40) :
    OpOk n (cut sewC n r a b) (((bytesO r).take b).drop a) 91660 := by
  obtain ⟨o1, o2, b1, b2, u, c⟩ := splitO_ok (n := n) (p := b) kr (by omega)
  have l1 : sizeO (splitO sewC n r b).1.1 ≤ sizeO r := by rw [← sizeO_bytes, ← sizeO_bytes, b1, List.length_take]; omega
  obtain ⟨p1, p2, d1, d2, v, e⟩ := splitO_ok (n := (splitO sewC n r b).2) (p := a) o1 (by omega)
  refine ⟨p2, ?_, ?_, ?_⟩
  · show bytesO (splitO sewC _ _ _).1.2 = _
    rw [d2, b1]
  · show n ≤ (splitO sewC _ _ _).2
    omega
  · show (splitO sewC _ _ _).2 ≤ _
    omega
theorem built_ok : ∀ (f n : Nat) (t : Option T) (w : List Nat), w.length ≤ f → Ok t → sizeO t + w.length ≤ 2 ^ 40 → OpOk n (built f n t w) (bytesO t ++ w) (173 * w.length)
  | 0, n, t, w, h, k, s => by
    have e : w = [] := List.length_eq_zero_iff.mp (by omega)
    subst e
    exact ⟨k, by simp [built], Nat.le_refl _, Nat.le_refl _⟩
  | f + 1, n, t, w, h, k, s => by
    rw [built]
    by_cases c : w.isEmpty = true
    · rw [if_pos c]
      have e : w = [] := List.isEmpty_iff.mp c
      subst e
      exact ⟨k, by simp, Nat.le_refl _, Nat.le_refl _⟩
    · rw [if_neg c]
      dsimp only
      have hw : 0 < w.length := by
        cases w with
        | nil => simp at c
        | cons a l => simp
      have kl : Ok (some (T.leaf n (w.take 8))) := ⟨True.intro, by simp only [Wf, List.length_take]; omega⟩
      have o1 := joinO_ok (n := n + 1) k kl
      obtain ⟨c1, c2, c3⟩ := joinO_cost (n := n + 1) k kl
      have hs := htO_small k (by omega)
      have b1 := joinO_bytes (n + 1) t (some (T.leaf n (w.take 8)))
      have s1 : sizeO (joinO (n + 1) t (some (T.leaf n (w.take 8)))).1 = sizeO t + (w.take 8).length := by
        rw [← sizeO_bytes, b1, List.length_append, sizeO_bytes]; rfl
      obtain ⟨r1, r2, r3, r4⟩ := built_ok f (joinO (n + 1) t (some (T.leaf n (w.take 8)))).2 (joinO (n + 1) t (some (T.leaf n (w.take 8)))).1 (w.drop 8) (by rw [List.length_drop]; omega) o1 (by
        rw [s1, List.length_drop, List.length_take]; omega)
      refine ⟨r1, ?_, ?_, ?_⟩
      · rw [r2, b1, List.append_assoc]
        show bytesO t ++ (w.take 8 ++ w.drop 8) = _
        rw [List.take_append_drop]
      · omega
      · rw [htO_some, show (T.leaf n (w.take 8)).ht = 0 from rfl] at c2
        rw [List.length_drop] at r4
        have e : max (htO t) 0 ≤ 57 := by omega
        have g : 173 * (w.length - 8) + 173 ≤ 173 * w.length := by omega
        omega

/-! ## fresh numbers -/
/-- numbers below n, falling on the way down -/
def Fr (n : Nat) (t : T) : Prop := t.Below n ∧ t.Dec
theorem Fr.mono {n m : Nat} {t : T} (h : Fr n t) (k : n ≤ m) : Fr m t := ⟨h.1.mono k, h.2⟩
def FrO (n : Nat) (o : Option T) : Prop := ∀ t, o = Option.some t → Fr n t
theorem FrO.mono {n m : Nat} {o : Option T} (h : FrO n o) (k : n ≤ m) : FrO m o := fun t e => (h t e).mono k
theorem FrO.none {n : Nat} : FrO n Option.none := fun _ e => by cases e
theorem FrO.some {n : Nat} {t : T} (h : Fr n t) : FrO n (Option.some t) := fun _ e => by cases e; exact h
theorem FrO.of {n : Nat} {t : T} (h : FrO n (Option.some t)) : Fr n t := h t rfl
theorem Fr.fork {n i : Nat} {a b : T} (h1 : Fr n a) (h2 : Fr n b) (hi : n ≤ i) : Fr (i + 1) (.fork i a b) :=
  ⟨⟨Nat.lt_succ_self _, h1.1.mono (by omega), h2.1.mono (by omega)⟩, h1.1.mono hi, h2.1.mono hi, h1.2, h2.2⟩
theorem Fr.leaf {n i : Nat} {w : List Nat} (h : i < n) : Fr n (.leaf i w) := ⟨h, True.intro⟩
theorem Fr.kids {n i : Nat} {a b : T} (h : Fr n (.fork i a b)) : Fr n a ∧ Fr n b := ⟨⟨h.1.2.1, h.2.2.2.1⟩, ⟨h.1.2.2, h.2.2.2.2⟩⟩
theorem lean_fr {n : Nat} {x t : T} (hx : Fr n x) (ht : Fr n t) : Fr (lean n x t).2 (lean n x t).1 ∧ n ≤ (lean n x t).2 := by
  refine lean_cases (P := fun r => Fr r.2 r.1 ∧ n ≤ r.2) (fun c => ?_) (fun i p q e c d => ?_) (fun i j y z q e c d => ?_)
  · exact ⟨hx.fork ht (Nat.le_refl _), by simp only []; omega⟩
  · subst e
    obtain ⟨hp, hq⟩ := ht.kids
    exact ⟨(hx.fork hp (Nat.le_refl n)).fork (hq.mono (Nat.le_succ n)) (Nat.le_refl _), by simp only []; omega⟩
  · subst e
    obtain ⟨hp, hq⟩ := ht.kids
    obtain ⟨hy, hz⟩ := hp.kids
    exact ⟨((hx.fork hy (Nat.le_refl n)).mono (Nat.le_succ _)).fork ((hz.mono (Nat.le_succ n)).fork (hq.mono (Nat.le_succ n)) (Nat.le_refl _)) (Nat.le_refl _), by simp only []; omega⟩
theorem leanB_fr {n : Nat} {x t : T} (hx : Fr n x) (ht : Fr n t) : Fr (leanB n t x).2 (leanB n t x).1 ∧ n ≤ (leanB n t x).2 := by
  refine leanB_cases (P := fun r => Fr r.2 r.1 ∧ n ≤ r.2) (fun c => ?_) (fun i p q e c d => ?_) (fun i j p y z e c d => ?_)
  · exact ⟨ht.fork hx (Nat.le_refl _), by simp only []; omega⟩
  · subst e
    obtain ⟨hp, hq⟩ := ht.kids
    exact ⟨(hp.mono (Nat.le_succ n)).fork (hq.fork hx (Nat.le_refl n)) (Nat.le_refl _), by simp only []; omega⟩
  · subst e
    obtain ⟨hp, hq⟩ := ht.kids
    obtain ⟨hy, hz⟩ := hq.kids
    exact ⟨((hp.fork hy (Nat.le_refl n)).mono (Nat.le_succ _)).fork ((hz.mono (Nat.le_succ n)).fork (hx.mono (Nat.le_succ n)) (Nat.le_refl _)) (Nat.le_refl _), by simp only []; omega⟩
theorem join_fr (n : Nat) : ∀ a b : T, Fr n a → Fr n b → Fr (join n a b).2 (join n a b).1 ∧ n ≤ (join n a b).2 := by
  refine join_ind (P := fun a b => Fr n a → Fr n b → Fr (join n a b).2 (join n a b).1 ∧ n ≤ (join n a b).2) (fun a b h1 h2 ha hb => ?_) (fun i x y b h ih ha hb => ?_) (fun i x y a h ih ha hb => ?_)
  · rw [join_near h1 h2]; exact ⟨ha.fork hb (Nat.le_refl _), by simp only []; omega⟩
  · rw [join_left h]
    obtain ⟨hx, hy⟩ := ha.kids
    obtain ⟨k1, k2⟩ := ih hy hb
    obtain ⟨l1, l2⟩ := lean_fr (hx.mono k2) k1
    exact ⟨l1, Nat.le_trans k2 l2⟩
  · rw [join_right h]
    obtain ⟨hx, hy⟩ := hb.kids
    obtain ⟨k1, k2⟩ := ih ha hx
    obtain ⟨l1, l2⟩ := leanB_fr (hy.mono k2) k1
    exact ⟨l1, Nat.le_trans k2 l2⟩
theorem joinO_fr {n : Nat} {a b : Option T} (ha : FrO n a) (hb : FrO n b) : FrO (joinO n a b).2 (joinO n a b).1 ∧ n ≤ (joinO n a b).2 := by
  cases a with
  | none => exact ⟨hb, Nat.le_refl _⟩
  | some a =>
    cases b with
    | none => exact ⟨ha, Nat.le_refl _⟩
    | some b =>
      obtain ⟨h1, h2⟩ := join_fr n a b ha.of hb.of
      exact ⟨.some h1, h2⟩
theorem lessLast_fr (n : Nat) : ∀ t : T, Fr n t → FrO (lessLast n t).2 (lessLast n t).1 ∧ n ≤ (lessLast n t).2
  | .leaf i w, h => ⟨.none, Nat.le_refl _⟩
  | .fork i x y, h => by
    obtain ⟨k1, k2⟩ := lessLast_fr n y h.kids.2
    obtain ⟨l1, l2⟩ := joinO_fr (n := (lessLast n y).2) (.some (h.kids.1.mono k2)) k1
    exact ⟨l1, Nat.le_trans k2 l2⟩
theorem lessFirst_fr (n : Nat) : ∀ t : T, Fr n t → FrO (lessFirst n t).2 (lessFirst n t).1 ∧ n ≤ (lessFirst n t).2
  | .leaf i w, h => ⟨.none, Nat.le_refl _⟩
  | .fork i x y, h => by
    obtain ⟨k1, k2⟩ := lessFirst_fr n x h.kids.1
    obtain ⟨l1, l2⟩ := joinO_fr (n := (lessFirst n x).2) k1 (.some (h.kids.2.mono k2))
    exact ⟨l1, Nat.le_trans k2 l2⟩
theorem sewS_fr {n : Nat} {a b : Option T} (ha : FrO n a) (hb : FrO n b) : FrO (sewS n a b).2 (sewS n a b).1 ∧ n ≤ (sewS n a b).2 := by
  cases a with
  | none => exact ⟨hb, Nat.le_refl _⟩
  | some a =>
    cases b with
    | none => exact ⟨ha, Nat.le_refl _⟩
    | some b =>
      simp only [sewS]
      by_cases c : 8 < a.lastW.length + b.firstW.length
      · rw [if_pos c]
        obtain ⟨h1, h2⟩ := join_fr n a b ha.of hb.of
        exact ⟨.some h1, h2⟩
      · rw [if_neg c]
        obtain ⟨p1, p2⟩ := lessLast_fr n a ha.of
        obtain ⟨q1, q2⟩ := lessFirst_fr (lessLast n a).2 b (hb.of.mono p2)
        obtain ⟨t1, t2⟩ := joinO_fr (n := (lessFirst (lessLast n a).2 b).2 + 1) (p1.mono (by omega)) (.some (Fr.leaf (i := (lessFirst (lessLast n a).2 b).2) (w := a.lastW ++ b.firstW) (Nat.lt_succ_self _)))
        obtain ⟨r1, r2⟩ := joinO_fr (n := (joinO ((lessFirst (lessLast n a).2 b).2 + 1) (lessLast n a).1 (some (.leaf (lessFirst (lessLast n a).2 b).2 (a.lastW ++ b.firstW)))).2) t1 (q1.mono (by omega))
        exact ⟨r1, by omega⟩
theorem split_fr (n : Nat) : ∀ (t : T) (p : Nat), Fr n t → FrO (split sewS n t p).2 (split sewS n t p).1.1 ∧ FrO (split sewS n t p).2 (split sewS n t p).1.2 ∧ n ≤ (split sewS n t p).2
  | .leaf i w, p, h => by
    simp only [split]
    by_cases c : p = 0
    · rw [if_pos c]; exact ⟨.none, .some h, Nat.le_refl _⟩
    · rw [if_neg c]
      by_cases d : w.length ≤ p
      · rw [if_pos d]; exact ⟨.some h, .none, Nat.le_refl _⟩
      · rw [if_neg d]; exact ⟨.some (Fr.leaf (by omega)), .some (Fr.leaf (by omega)), by simp only []; omega⟩
  | .fork i x y, p, h => by
    simp only [split]
    by_cases c : p = 0
    · rw [if_pos c]; exact ⟨.none, .some h, Nat.le_refl _⟩
    · rw [if_neg c]
      by_cases d : x.size + y.size ≤ p
      · rw [if_pos d]; exact ⟨.some h, .none, Nat.le_refl _⟩
      · rw [if_neg d]
        by_cases e : p ≤ x.size
        · rw [if_pos e]
          obtain ⟨k1, k2, k3⟩ := split_fr n x p h.kids.1
          obtain ⟨l1, l2⟩ := sewS_fr (n := (split sewS n x p).2) k2 (.some (h.kids.2.mono k3))
          exact ⟨k1.mono l2, l1, Nat.le_trans k3 l2⟩
        · rw [if_neg e]
          obtain ⟨k1, k2, k3⟩ := split_fr n y (p - x.size) h.kids.2
          obtain ⟨l1, l2⟩ := sewS_fr (n := (split sewS n y (p - x.size)).2) (.some (h.kids.1.mono k3)) k1
          exact ⟨l1, k2.mono l2, Nat.le_trans k3 l2⟩
theorem splitO_fr {n : Nat} {t : Option T} (p : Nat) (h : FrO n t) : FrO (splitO sewS n t p).2 (splitO sewS n t p).1.1 ∧ FrO (splitO sewS n t p).2 (splitO sewS n t p).1.2 ∧ n ≤ (splitO sewS n t p).2 := by
  cases t with
  | none => exact ⟨.none, .none, Nat.le_refl _⟩
  | some t => exact split_fr n t p h.of
theorem built_fr : ∀ (f n : Nat) (t : Option T) (w : List Nat), FrO n t → FrO (built f n t w).2 (built f n t w).1 ∧ n ≤ (built f n t w).2
  | 0, n, t, w, h => ⟨h, Nat.le_refl _⟩
  | f + 1, n, t, w, h => by
    rw [built]
    by_cases c : w.isEmpty = true
    · rw [if_pos c]; exact ⟨h, Nat.le_refl _⟩
    · rw [if_neg c]
      dsimp only
      obtain ⟨l1, l2⟩ := joinO_fr (n := n + 1) (h.mono (Nat.le_succ _)) (.some (Fr.leaf (i := n) (w := w.take 8) (Nat.lt_succ_self n)))
      obtain ⟨r1, r2⟩ := built_fr f _ _ (w.drop 8) l1
      exact ⟨r1, by omega⟩
theorem putIn_fr {n : Nat} {r m : Option T} {p : Nat} (hr : FrO n r) (hm : FrO n m) : FrO (putIn sewS n r p m).2 (putIn sewS n r p m).1 ∧ n ≤ (putIn sewS n r p m).2 := by
  obtain ⟨k1, k2, k3⟩ := splitO_fr (n := n) p hr
  obtain ⟨l1, l2⟩ := sewS_fr (n := (splitO sewS n r p).2) k1 (hm.mono k3)
  obtain ⟨j1, j2⟩ := sewS_fr (n := (sewS (splitO sewS n r p).2 (splitO sewS n r p).1.1 m).2) l1 (k2.mono l2)
  exact ⟨j1, Nat.le_trans k3 (Nat.le_trans l2 j2)⟩
theorem takeOut_fr {n : Nat} {r : Option T} {a b : Nat} (hr : FrO n r) : FrO (takeOut sewS n r a b).2 (takeOut sewS n r a b).1 ∧ n ≤ (takeOut sewS n r a b).2 := by
  obtain ⟨k1, k2, k3⟩ := splitO_fr (n := n) a hr
  obtain ⟨l1, l2, l3⟩ := splitO_fr (n := (splitO sewS n r a).2) (b - a) k2
  obtain ⟨j1, j2⟩ := sewS_fr (n := (splitO sewS (splitO sewS n r a).2 (splitO sewS n r a).1.2 (b - a)).2) (k1.mono l3) l2
  exact ⟨j1, Nat.le_trans k3 (Nat.le_trans l3 j2)⟩
theorem cut_fr {n : Nat} {r : Option T} {a b : Nat} (hr : FrO n r) : FrO (cut sewS n r a b).2 (cut sewS n r a b).1 ∧ n ≤ (cut sewS n r a b).2 := by
  obtain ⟨k1, k2, k3⟩ := splitO_fr (n := n) b hr
  obtain ⟨l1, l2, l3⟩ := splitO_fr (n := (splitO sewS n r b).2) a k1
  exact ⟨l2, Nat.le_trans k3 l3⟩
end Ph
set_option linter.all false
set_option maxRecDepth 20000
namespace Ph
open T
/-! ## another numbering, another counter -/
section
variable {ρ : Nat → Nat} {n n' : Nat}
theorem lean_eqv (h : ∀ i, ρ (n + i) = n' + i) (x t : T) : ∃ k, (lean n x t).2 = n + k ∧ lean n' (x.ren ρ) (t.ren ρ) = ((lean n x t).1.ren ρ, n' + k) := by
  have h0 := h 0
  have h1 := h 1
  have h2 := h 2
  simp only [Nat.add_zero] at h0
  rw [lean.eq_def, lean.eq_def]
  simp only [ren_ht]
  by_cases c : t.ht ≤ x.ht + 1
  · simp only [if_pos c]
    exact ⟨1, rfl, by simp [ren, h0]⟩
  · simp only [if_neg c]
    cases t with
    | leaf i w => simp [ht] at c
    | fork i p q =>
      simp only [ren, ren_ht]
      by_cases d : p.ht ≤ q.ht
      · simp only [if_pos d]
        exact ⟨2, rfl, by simp [ren, h0, h1]⟩
      · simp only [if_neg d]
        cases p with
        | leaf j w => simp [ht] at d
        | fork j y z =>
          simp only [ren]
          exact ⟨3, rfl, by simp [ren, h0, h1, h2]⟩
theorem leanB_eqv (h : ∀ i, ρ (n + i) = n' + i) (x t : T) : ∃ k, (leanB n t x).2 = n + k ∧ leanB n' (t.ren ρ) (x.ren ρ) = ((leanB n t x).1.ren ρ, n' + k) := by
  have h0 := h 0
  have h1 := h 1
  have h2 := h 2
  simp only [Nat.add_zero] at h0
  rw [leanB.eq_def, leanB.eq_def]
  simp only [ren_ht]
  by_cases c : t.ht ≤ x.ht + 1
  · simp only [if_pos c]
    exact ⟨1, rfl, by simp [ren, h0]⟩
  · simp only [if_neg c]
    cases t with
    | leaf i w => simp [ht] at c
    | fork i p q =>
      simp only [ren, ren_ht]
      by_cases d : q.ht ≤ p.ht
      · simp only [if_pos d]
        exact ⟨2, rfl, by simp [ren, h0, h1]⟩
      · simp only [if_neg d]
        cases q with
        | leaf j w => simp [ht] at d
        | fork j y z =>
          simp only [ren]
          exact ⟨3, rfl, by simp [ren, h0, h1, h2]⟩
theorem shift {k : Nat} (h : ∀ i, ρ (n + i) = n' + i) : ∀ i, ρ (n + k + i) = n' + k + i := fun i => by
  rw [Nat.add_assoc, h, Nat.add_assoc]
theorem join_eqv (h : ∀ i, ρ (n + i) = n' + i) : ∀ a b : T, ∃ k, (join n a b).2 = n + k ∧ join n' (a.ren ρ) (b.ren ρ) = ((join n a b).1.ren ρ, n' + k) := by
  refine join_ind (P := fun a b => ∃ k, (join n a b).2 = n + k ∧ join n' (a.ren ρ) (b.ren ρ) = ((join n a b).1.ren ρ, n' + k)) (fun a b h1 h2 => ?_) (fun i x y b c ih => ?_) (fun i x y a c ih => ?_)
  · rw [join_near h1 h2, join_near (by simpa using h1) (by simpa using h2)]
    have h0 := h 0
    simp only [Nat.add_zero] at h0
    exact ⟨1, rfl, by simp [ren, h0]⟩
  · obtain ⟨k, e1, e2⟩ := ih
    rw [join_left c, ren, join_left (by
      have e : (T.fork (ρ i) (x.ren ρ) (y.ren ρ)).ht = (T.fork i x y).ht := by simp [ht]
      rw [e]; simpa using c), e2, e1]
    obtain ⟨k2, f1, f2⟩ := lean_eqv (shift (k := k) h) x (join n y b).1
    exact ⟨k + k2, by rw [f1]; omega, by simp only []; rw [f2]; simp only [Nat.add_assoc]⟩
  · obtain ⟨k, e1, e2⟩ := ih
    rw [join_right c, ren, join_right (by
      have e : (T.fork (ρ i) (x.ren ρ) (y.ren ρ)).ht = (T.fork i x y).ht := by simp [ht]
      rw [e]; simpa using c), e2, e1]
    obtain ⟨k2, f1, f2⟩ := leanB_eqv (shift (k := k) h) y (join n a x).1
    exact ⟨k + k2, by rw [f1]; omega, by simp only []; rw [f2]; simp only [Nat.add_assoc]⟩
theorem joinO_eqv (h : ∀ i, ρ (n + i) = n' + i) (a b : Option T) : ∃ k, (joinO n a b).2 = n + k ∧ joinO n' (a.map (ren ρ)) (b.map (ren ρ)) = ((joinO n a b).1.map (ren ρ), n' + k) := by
  cases a with
  | none => exact ⟨0, rfl, rfl⟩
  | some a =>
    cases b with
    | none => exact ⟨0, rfl, rfl⟩
    | some b =>
      obtain ⟨k, e1, e2⟩ := join_eqv h a b
      exact ⟨k, e1, by simp [joinO, e2]⟩
theorem lessLast_eqv (h : ∀ i, ρ (n + i) = n' + i) : ∀ t : T, ∃ k, (lessLast n t).2 = n + k ∧ lessLast n' (t.ren ρ) = ((lessLast n t).1.map (ren ρ), n' + k)
  | .leaf i w => ⟨0, rfl, rfl⟩
  | .fork i x y => by
    obtain ⟨k, e1, e2⟩ := lessLast_eqv h y
    obtain ⟨k2, f1, f2⟩ := joinO_eqv (shift (k := k) h) (some x) (lessLast n y).1
    refine ⟨k + k2, ?_, ?_⟩
    · rw [lessLast, e1, f1]; omega
    · rw [ren, lessLast, e2, lessLast, e1]
      simp only [Option.map_some] at f2
      simp only []; rw [f2]; simp only [Nat.add_assoc]
theorem lessFirst_eqv (h : ∀ i, ρ (n + i) = n' + i) : ∀ t : T, ∃ k, (lessFirst n t).2 = n + k ∧ lessFirst n' (t.ren ρ) = ((lessFirst n t).1.map (ren ρ), n' + k)
  | .leaf i w => ⟨0, rfl, rfl⟩
  | .fork i x y => by
    obtain ⟨k, e1, e2⟩ := lessFirst_eqv h x
    obtain ⟨k2, f1, f2⟩ := joinO_eqv (shift (k := k) h) (lessFirst n x).1 (some y)
    refine ⟨k + k2, ?_, ?_⟩
    · rw [lessFirst, e1, f1]; omega
    · rw [ren, lessFirst, e2, lessFirst, e1]
      simp only [Option.map_some] at f2
      simp only []; rw [f2]; simp only [Nat.add_assoc]
end

/-! ## the two orders -/
/-- one to one, and nothing is changed from n on -/
structure Good (ρ : Nat → Nat) (n : Nat) : Prop where
  inj : ∀ i j, ρ i = ρ j → i = j
  fix : ∀ i, n ≤ i → ρ i = i
theorem Good.mono {ρ : Nat → Nat} {n m : Nat} (g : Good ρ n) (h : n ≤ m) : Good ρ m := ⟨g.inj, fun i hi => g.fix i (Nat.le_trans h hi)⟩
theorem Good.lt {ρ : Nat → Nat} {n i : Nat} (g : Good ρ n) (h : i < n) : ρ i < n := by
  by_cases c : ρ i < n
  · exact c
  · have e := g.fix (ρ i) (by omega)
    have := g.inj _ _ e
    omega
theorem Good.id (n : Nat) : Good (fun i => i) n := ⟨fun _ _ h => h, fun _ _ => rfl⟩
/-- ρ' goes on from ρ -/
structure Ext (n : Nat) (ρ ρ' : Nat → Nat) : Prop where
  old : ∀ i, i < n → ρ' i = ρ i
  new : ∀ i, n ≤ i → n ≤ ρ' i
theorem Ext.refl {n : Nat} {ρ : Nat → Nat} (g : Good ρ n) : Ext n ρ ρ := ⟨fun _ _ => rfl, fun i h => by rw [g.fix i h]; exact h⟩
theorem Ext.trans {n m : Nat} {ρ ρ' ρ'' : Nat → Nat} (h : n ≤ m) (a : Ext n ρ ρ') (b : Ext m ρ' ρ'') : Ext n ρ ρ'' :=
  ⟨fun i hi => (b.old i (by omega)).trans (a.old i hi), fun i hi => by
    by_cases c : i < m
    · rw [b.old i c]; exact a.new i hi
    · exact Nat.le_trans h (b.new i (by omega))⟩
theorem Ext.ren {n : Nat} {ρ ρ' : Nat → Nat} (e : Ext n ρ ρ') {t : T} (h : t.Below n) : t.ren ρ' = t.ren ρ := ren_congr (fun i hi => e.old i hi) h
theorem Ext.renO {n : Nat} {ρ ρ' : Nat → Nat} (e : Ext n ρ ρ') {o : Option T} (h : FrO n o) : o.map (T.ren ρ') = o.map (T.ren ρ) := by
  cases o with
  | none => rfl
  | some t => simp [e.ren h.of.1]
theorem renO_congr {ρ σ : Nat → Nat} {n : Nat} (h : ∀ i, i < n → ρ i = σ i) {o : Option T} (q : FrO n o) : o.map (T.ren ρ) = o.map (T.ren σ) := by
  cases o with
  | none => rfl
  | some t => simp [ren_congr h q.of.1]
theorem sew_sim {ρ : Nat → Nat} {n : Nat} {a b : Option T} (g : Good ρ n) (ha : FrO n a) (hb : FrO n b) :
    ∃ ρ', Ext n ρ ρ' ∧ Good ρ' (sewS n a b).2 ∧ sewC n (a.map (ren ρ)) (b.map (ren ρ)) = ((sewS n a b).1.map (ren ρ'), (sewS n a b).2) := by
  have sh : ∀ i, ρ (n + i) = n + i := fun i => g.fix _ (by omega)
  cases a with
  | none => exact ⟨ρ, Ext.refl g, g, rfl⟩
  | some a =>
    cases b with
    | none => exact ⟨ρ, Ext.refl g, g, rfl⟩
    | some b =>
      simp only [sewS, sewC, Option.map_some, ren_lastW, ren_firstW]
      by_cases c : 8 < a.lastW.length + b.firstW.length
      · simp only [if_pos c]
        obtain ⟨k, e1, e2⟩ := join_eqv sh a b
        refine ⟨ρ, Ext.refl g, g.mono ?_, ?_⟩
        · omega
        · rw [e2, e1]; rfl
      · simp only [if_neg c]
        obtain ⟨p1, p2⟩ := lessLast_fr n a ha.of
        obtain ⟨d0, ep1, ep2⟩ := lessLast_eqv sh a
        have gm1 : Good ρ (lessLast n a).2 := g.mono p2
        rw [ep2, ← ep1]
        generalize em1 : (lessLast n a).2 = m1 at *
        generalize epp : (lessLast n a).1 = pp at *
        obtain ⟨q1, q2⟩ := lessFirst_fr m1 b (hb.of.mono p2)
        generalize ew : a.lastW ++ b.firstW = w at *
        -- how many the first leaf's loss makes
        obtain ⟨d1, eq1, _⟩ := lessFirst_eqv (ρ := ρ) (n := m1) (n' := m1) (fun i => gm1.fix _ (by omega)) b
        generalize em2 : (lessFirst m1 b).2 = m2 at *
        generalize eqq : (lessFirst m1 b).1 = qq at *
        obtain ⟨t1, t2⟩ := joinO_fr (n := m2 + 1) (a := pp) (b := some (.leaf m2 w)) (p1.mono (by omega)) (.some (Fr.leaf (Nat.lt_succ_self _)))
        -- the leaf and the joining
        obtain ⟨m3, em3⟩ : ∃ m3, (joinO (m2 + 1) pp (some (.leaf m2 w))).2 = m3 := ⟨_, rfl⟩
        rw [em3] at t1 t2
        let τ2 : Nat → Nat := fun i => if i < m1 then ρ i else if i < m2 then i + (m3 - m2) else i - d1
        have h2 : ∀ i, τ2 (m2 + 1 + i) = m1 + 1 + i := fun i => by
          show (if m2 + 1 + i < m1 then _ else if m2 + 1 + i < m2 then _ else m2 + 1 + i - d1) = _
          rw [if_neg (by omega), if_neg (by omega)]; omega
        obtain ⟨d2, et1, et2⟩ := joinO_eqv h2 pp (some (.leaf m2 w))
        have e2m : τ2 m2 = m1 := by
          show (if m2 < m1 then _ else if m2 < m2 then _ else m2 - d1) = _
          rw [if_neg (by omega), if_neg (by omega)]; omega
        have epp2 : pp.map (ren τ2) = pp.map (ren ρ) := renO_congr (n := m1) (fun i hi => if_pos hi) p1
        rw [epp2, Option.map_some, ren, e2m] at et2
        rw [et2]
        rw [em3] at et1 ⊢
        generalize ett : (joinO (m2 + 1) pp (some (.leaf m2 w))).1 = tt at *
        -- the first leaf's loss, later
        let τ1 : Nat → Nat := fun i => if i < m1 then ρ i else i + (m3 - m2)
        have h1 : ∀ i, τ1 (m1 + i) = (m1 + 1 + d2) + i := fun i => by
          show (if m1 + i < m1 then _ else m1 + i + (m3 - m2)) = _
          rw [if_neg (by omega)]; omega
        obtain ⟨d1', eq1', eq2'⟩ := lessFirst_eqv h1 b
        have eb : b.ren τ1 = b.ren ρ := ren_congr (n := m1) (fun i hi => if_pos hi) (hb.of.mono p2).1
        rw [eb] at eq2'
        dsimp only
        rw [eq2']
        rw [em2] at eq1'
        rw [eqq]
        -- both
        let τ : Nat → Nat := fun i => if i < m1 then ρ i else if i < m2 then i + (m3 - m2) else if i < m3 then i - d1 else i
        have c1 : qq.map (ren τ1) = qq.map (ren τ) := renO_congr (n := m2) (fun i hi => by
          show (if i < m1 then ρ i else i + (m3 - m2)) = (if i < m1 then ρ i else if i < m2 then i + (m3 - m2) else if i < m3 then i - d1 else i)
          by_cases z : i < m1
          · rw [if_pos z, if_pos z]
          · rw [if_neg z, if_neg z, if_pos hi]) q1
        have c2 : tt.map (ren τ2) = tt.map (ren τ) := renO_congr (n := m3) (fun i hi => by
          show (if i < m1 then ρ i else if i < m2 then i + (m3 - m2) else i - d1) = (if i < m1 then ρ i else if i < m2 then i + (m3 - m2) else if i < m3 then i - d1 else i)
          rw [if_pos hi]) t1
        have h3 : ∀ i, τ (m3 + i) = m3 + i := fun i => by
          show (if m3 + i < m1 then _ else if m3 + i < m2 then _ else if m3 + i < m3 then _ else m3 + i) = _
          rw [if_neg (by omega), if_neg (by omega), if_neg (by omega)]
        obtain ⟨d3, er1, er2⟩ := joinO_eqv h3 tt qq
        refine ⟨τ, ⟨fun i hi => if_pos (by omega), fun i hi => ?_⟩, ⟨fun i j e => ?_, fun i hi => ?_⟩, ?_⟩
        · show n ≤ (if i < m1 then ρ i else if i < m2 then i + (m3 - m2) else if i < m3 then i - d1 else i)
          by_cases z : i < m1
          · rw [if_pos z, g.fix i hi]; exact hi
          · rw [if_neg z]
            split
            · omega
            · split <;> omega
        · have e' : (if i < m1 then ρ i else if i < m2 then i + (m3 - m2) else if i < m3 then i - d1 else i) = (if j < m1 then ρ j else if j < m2 then j + (m3 - m2) else if j < m3 then j - d1 else j) := e
          have li : i < m1 → ρ i < m1 := fun h => gm1.lt h
          have lj : j < m1 → ρ j < m1 := fun h => gm1.lt h
          by_cases zi : i < m1
          · rw [if_pos zi] at e'
            have := li zi
            by_cases zj : j < m1
            · rw [if_pos zj] at e'; exact g.inj _ _ e'
            · rw [if_neg zj] at e'
              exfalso
              split at e'
              · omega
              · split at e' <;> omega
          · rw [if_neg zi] at e'
            by_cases zj : j < m1
            · rw [if_pos zj] at e'
              have := lj zj
              exfalso
              split at e'
              · omega
              · split at e' <;> omega
            · rw [if_neg zj] at e'
              split at e'
              · split at e'
                · omega
                · split at e' <;> omega
              · split at e'
                · split at e'
                  · omega
                  · split at e' <;> omega
                · split at e'
                  · omega
                  · split at e' <;> omega
        · have := hi
          show (if i < m1 then ρ i else if i < m2 then i + (m3 - m2) else if i < m3 then i - d1 else i) = i
          rw [er1] at hi
          rw [if_neg (by omega), if_neg (by omega), if_neg (by omega)]
        · rw [c1, c2, show m1 + 1 + d2 + d1' = m3 by omega, er2, er1]
theorem split_sim {ρ : Nat → Nat} {n : Nat} (g : Good ρ n) : ∀ (t : T) (p : Nat), Fr n t →
    ∃ ρ', Ext n ρ ρ' ∧ Good ρ' (split sewS n t p).2 ∧ split sewC n (t.ren ρ) p = (((split sewS n t p).1.1.map (ren ρ'), (split sewS n t p).1.2.map (ren ρ')), (split sewS n t p).2)
  | .leaf i w, p, h => by
    simp only [split, ren]
    by_cases c : p = 0
    · simp only [if_pos c]; exact ⟨ρ, Ext.refl g, g, rfl⟩
    · simp only [if_neg c]
      by_cases d : w.length ≤ p
      · simp only [if_pos d]; exact ⟨ρ, Ext.refl g, g, rfl⟩
      · simp only [if_neg d]
        exact ⟨ρ, Ext.refl g, g.mono (by omega), by simp [ren, g.fix n (Nat.le_refl _), g.fix (n + 1) (by omega)]⟩
  | .fork i x y, p, h => by
    simp only [split, ren, ren_size]
    by_cases c : p = 0
    · simp only [if_pos c]; exact ⟨ρ, Ext.refl g, g, rfl⟩
    · simp only [if_neg c]
      by_cases d : x.size + y.size ≤ p
      · simp only [if_pos d]; exact ⟨ρ, Ext.refl g, g, rfl⟩
      · simp only [if_neg d]
        by_cases e : p ≤ x.size
        · simp only [if_pos e]
          obtain ⟨k1, k2, k3⟩ := split_fr n x p h.kids.1
          obtain ⟨ρ1, x1, g1, e1⟩ := split_sim g x p h.kids.1
          obtain ⟨ρ2, x2, g2, e2⟩ := sew_sim g1 k2 (.some (h.kids.2.mono k3))
          refine ⟨ρ2, x1.trans k3 x2, g2, ?_⟩
          rw [e1]
          simp only []
          rw [Option.map_some, x1.ren h.kids.2.1] at e2
          rw [e2, x2.renO k1]
        · simp only [if_neg e]
          obtain ⟨k1, k2, k3⟩ := split_fr n y (p - x.size) h.kids.2
          obtain ⟨ρ1, x1, g1, e1⟩ := split_sim g y (p - x.size) h.kids.2
          obtain ⟨ρ2, x2, g2, e2⟩ := sew_sim g1 (.some (h.kids.1.mono k3)) k1
          refine ⟨ρ2, x1.trans k3 x2, g2, ?_⟩
          rw [e1]
          simp only []
          rw [Option.map_some, x1.ren h.kids.1.1] at e2
          rw [e2, x2.renO k2]
theorem splitO_sim {ρ : Nat → Nat} {n : Nat} (g : Good ρ n) (t : Option T) (p : Nat) (h : FrO n t) :
    ∃ ρ', Ext n ρ ρ' ∧ Good ρ' (splitO sewS n t p).2 ∧ splitO sewC n (t.map (ren ρ)) p = (((splitO sewS n t p).1.1.map (ren ρ'), (splitO sewS n t p).1.2.map (ren ρ')), (splitO sewS n t p).2) := by
  cases t with
  | none => exact ⟨ρ, Ext.refl g, g, rfl⟩
  | some t => exact split_sim g t p h.of
theorem built_sim {ρ : Nat → Nat} : ∀ (f n : Nat) (t : Option T) (w : List Nat), Good ρ n → FrO n t →
    Good ρ (built f n t w).2 ∧ built f n (t.map (ren ρ)) w = ((built f n t w).1.map (ren ρ), (built f n t w).2)
  | 0, n, t, w, g, h => ⟨g, rfl⟩
  | f + 1, n, t, w, g, h => by
    rw [built, built]
    by_cases c : w.isEmpty = true
    · rw [if_pos c, if_pos c]; exact ⟨g, rfl⟩
    · rw [if_neg c, if_neg c]
      dsimp only
      obtain ⟨l1, l2⟩ := joinO_fr (n := n + 1) (h.mono (Nat.le_succ _)) (.some (Fr.leaf (i := n) (w := w.take 8) (Nat.lt_succ_self n)))
      obtain ⟨k, e1, e2⟩ := joinO_eqv (ρ := ρ) (n := n + 1) (n' := n + 1) (fun i => g.fix _ (by omega)) t (some (.leaf n (w.take 8)))
      rw [Option.map_some, ren, g.fix n (Nat.le_refl _), ← e1] at e2
      rw [e2]
      exact built_sim f _ _ _ (g.mono (by omega)) l1
theorem putIn_sim {ρ : Nat → Nat} {n : Nat} {r m : Option T} {p : Nat} (g : Good ρ n) (hr : FrO n r) (hm : FrO n m) :
    ∃ ρ', Ext n ρ ρ' ∧ Good ρ' (putIn sewS n r p m).2 ∧ putIn sewC n (r.map (ren ρ)) p (m.map (ren ρ)) = ((putIn sewS n r p m).1.map (ren ρ'), (putIn sewS n r p m).2) := by
  obtain ⟨k1, k2, k3⟩ := splitO_fr (n := n) p hr
  obtain ⟨l1, l2⟩ := sewS_fr (n := (splitO sewS n r p).2) k1 (hm.mono k3)
  obtain ⟨ρ1, x1, g1, e1⟩ := splitO_sim g r p hr
  obtain ⟨ρ2, x2, g2, e2⟩ := sew_sim g1 k1 (hm.mono k3)
  obtain ⟨ρ3, x3, g3, e3⟩ := sew_sim g2 l1 (k2.mono l2)
  refine ⟨ρ3, (x1.trans k3 x2).trans (Nat.le_trans k3 l2) x3, g3, ?_⟩
  rw [x1.renO hm] at e2
  rw [x2.renO k2] at e3
  simp only [putIn]
  rw [e1]
  dsimp only
  rw [e2]
  dsimp only
  rw [e3]
theorem takeOut_sim {ρ : Nat → Nat} {n : Nat} {r : Option T} {a b : Nat} (g : Good ρ n) (hr : FrO n r) :
    ∃ ρ', Ext n ρ ρ' ∧ Good ρ' (takeOut sewS n r a b).2 ∧ takeOut sewC n (r.map (ren ρ)) a b = ((takeOut sewS n r a b).1.map (ren ρ'), (takeOut sewS n r a b).2) := by
  obtain ⟨k1, k2, k3⟩ := splitO_fr (n := n) a hr
  obtain ⟨l1, l2, l3⟩ := splitO_fr (n := (splitO sewS n r a).2) (b - a) k2
  obtain ⟨ρ1, x1, g1, e1⟩ := splitO_sim g r a hr
  obtain ⟨ρ2, x2, g2, e2⟩ := splitO_sim g1 _ (b - a) k2
  obtain ⟨ρ3, x3, g3, e3⟩ := sew_sim g2 (k1.mono l3) l2
  refine ⟨ρ3, (x1.trans k3 x2).trans (Nat.le_trans k3 l3) x3, g3, ?_⟩
  rw [x2.renO k1] at e3
  simp only [takeOut]
  rw [e1]
  dsimp only
  rw [e2]
  dsimp only
  rw [e3]
theorem cut_sim {ρ : Nat → Nat} {n : Nat} {r : Option T} {a b : Nat} (g : Good ρ n) (hr : FrO n r) :
    ∃ ρ', Ext n ρ ρ' ∧ Good ρ' (cut sewS n r a b).2 ∧ cut sewC n (r.map (ren ρ)) a b = ((cut sewS n r a b).1.map (ren ρ'), (cut sewS n r a b).2) := by
  obtain ⟨k1, k2, k3⟩ := splitO_fr (n := n) b hr
  obtain ⟨l1, l2, l3⟩ := splitO_fr (n := (splitO sewS n r b).2) a k1
  obtain ⟨ρ1, x1, g1, e1⟩ := splitO_sim g r b hr
  obtain ⟨ρ2, x2, g2, e2⟩ := splitO_sim g1 _ a k1
  refine ⟨ρ2, x1.trans k3 x2, g2, ?_⟩
  simp only [cut]
  rw [e1]
  dsimp only
  rw [e2]
end Ph
set_option linter.all false
set_option maxRecDepth 20000
namespace Ph
open T
/-! ## the specification's store bears trees -/
abbrev Store := Ue01.Store
def cellOf : T → Ue01.Cell
  | .leaf _ w => ⟨none, w, 0, Ue01.sumOf w, 1⟩
  | .fork _ a b => ⟨some (a.id, b.id), [], max a.ht b.ht + 1, Ue01.both a.sum b.sum, a.leaves + b.leaves⟩
def Is (s : Store) : T → Prop
  | .leaf i w => s[i]? = some (cellOf (.leaf i w))
  | .fork i a b => s[i]? = some (cellOf (.fork i a b)) ∧ Is s a ∧ Is s b
theorem Is.at {s : Store} : ∀ {t : T}, Is s t → s[t.id]? = some (cellOf t)
  | .leaf _ _, h => h
  | .fork _ _ _, h => h.1
theorem Is.cell {s : Store} {t : T} (h : Is s t) : Ue01.cell s t.id = cellOf t := by
  have e := h.at
  unfold Ue01.cell
  rw [Array.getD_eq_getD_getElem?, e]; rfl
theorem Is.high {s : Store} {t : T} (h : Is s t) : Ue01.high s t.id = t.ht := by
  unfold Ue01.high
  rw [h.cell]; cases t <;> rfl
theorem Is.sum {s : Store} {t : T} (h : Is s t) : (Ue01.cell s t.id).sum = t.sum := by
  rw [h.cell]; cases t <;> rfl
theorem Is.leaves {s : Store} {t : T} (h : Is s t) : (Ue01.cell s t.id).leaves = t.leaves := by
  rw [h.cell]; cases t <;> rfl
theorem Is.kids {s : Store} {i : Nat} {a b : T} (h : Is s (.fork i a b)) : (Ue01.cell s i).kids = some (a.id, b.id) := by
  have := Is.cell h
  rw [show (T.fork i a b).id = i from rfl] at this
  rw [this]; rfl
theorem Is.kidsL {s : Store} {i : Nat} {w : List Nat} (h : Is s (.leaf i w)) : (Ue01.cell s i).kids = none := by
  have := Is.cell h
  rw [show (T.leaf i w).id = i from rfl] at this
  rw [this]; rfl
theorem Is.bytesL {s : Store} {i : Nat} {w : List Nat} (h : Is s (.leaf i w)) : (Ue01.cell s i).bytes = w := by
  have := Is.cell h
  rw [show (T.leaf i w).id = i from rfl] at this
  rw [this]; rfl
theorem Is.lt {s : Store} {t : T} (h : Is s t) : t.id < s.size := by
  have e := h.at
  exact (Array.getElem?_eq_some_iff.mp e).1
theorem Is.below {s : Store} : ∀ {t : T}, Is s t → t.Below s.size
  | .leaf _ _, h => h.lt
  | .fork _ _ _, h => ⟨h.lt, h.2.1.below, h.2.2.below⟩
/-- one node, one tree -/
theorem Is.inj {s : Store} : ∀ {t u : T}, Is s t → Is s u → t.id = u.id → t = u
  | .leaf i w, .leaf j v, h, k, e => by
    have e' : i = j := e
    subst e'
    have := h.bytesL.symm.trans k.bytesL
    rw [this]
  | .leaf i w, .fork j c d, h, k, e => by
    have e' : i = j := e
    subst e'
    have := h.kidsL.symm.trans k.kids
    cases this
  | .fork i a b, .leaf j v, h, k, e => by
    have e' : i = j := e
    subst e'
    have := h.kids.symm.trans k.kidsL
    cases this
  | .fork i a b, .fork j c d, h, k, e => by
    have e' : i = j := e
    subst e'
    have q := h.kids.symm.trans k.kids
    simp only [Option.some.injEq, Prod.mk.injEq] at q
    rw [Is.inj h.2.1 k.2.1 q.1, Is.inj h.2.2 k.2.2 q.2]
/-- nothing is lost -/
def Grows (s s' : Store) : Prop := s.size ≤ s'.size ∧ ∀ (i : Nat) (c : Ue01.Cell), s[i]? = some c → s'[i]? = some c
theorem Grows.refl (s : Store) : Grows s s := ⟨Nat.le_refl _, fun _ _ h => h⟩
theorem Grows.trans {s s' s'' : Store} (a : Grows s s') (b : Grows s' s'') : Grows s s'' := ⟨Nat.le_trans a.1 b.1, fun i c h => b.2 i c (a.2 i c h)⟩
theorem Grows.push (s : Store) (c : Ue01.Cell) : Grows s (s.push c) := ⟨by simp, fun i d h => by
  have := (Array.getElem?_eq_some_iff.mp h).1
  rw [Array.getElem?_push, if_neg (by omega)]; exact h⟩
theorem Is.grow {s s' : Store} (g : Grows s s') : ∀ {t : T}, Is s t → Is s' t
  | .leaf _ _, h => g.2 _ _ h
  | .fork _ _ _, h => ⟨g.2 _ _ h.1, h.2.1.grow g, h.2.2.grow g⟩
def IsO (s : Store) (o : Option T) : Prop := ∀ t, o = some t → Is s t
theorem IsO.none' {s : Store} : IsO s none := fun _ e => by cases e
theorem IsO.some' {s : Store} {t : T} (h : Is s t) : IsO s (some t) := fun _ e => by cases e; exact h
theorem IsO.of {s : Store} {t : T} (h : IsO s (some t)) : Is s t := h t rfl
theorem IsO.grow {s s' : Store} (g : Grows s s') {o : Option T} (h : IsO s o) : IsO s' o := fun t e => (h t e).grow g
/-- an operation's outcome -/
structure Out (s : Store) (o : Store × Nat) (r : T × Nat) : Prop where
  size : o.1.size = r.2
  grow : Grows s o.1
  is : Is o.1 r.1
  id : o.2 = r.1.id
structure OutO (s : Store) (o : Store × Option Nat) (r : Option T × Nat) : Prop where
  size : o.1.size = r.2
  grow : Grows s o.1
  is : IsO o.1 r.1
  id : o.2 = r.1.map T.id
theorem Out.some {s : Store} {o : Store × Nat} {r : T × Nat} (h : Out s o r) : OutO s (o.1, Option.some o.2) (Option.some r.1, r.2) := ⟨h.size, h.grow, .some' h.is, by simp [h.id]⟩
theorem Out.from {s s' : Store} {o : Store × Nat} {r : T × Nat} (h : Out s' o r) (g : Grows s s') : Out s o r := ⟨h.size, g.trans h.grow, h.is, h.id⟩
theorem OutO.from {s s' : Store} {o : Store × Option Nat} {r : Option T × Nat} (h : OutO s' o r) (g : Grows s s') : OutO s o r := ⟨h.size, g.trans h.grow, h.is, h.id⟩
theorem max_if (x y : Nat) : (if x < y then y else x) = max x y := by
  split <;> omega
theorem node_out {s : Store} {a b : T} (ha : Is s a) (hb : Is s b) : Out s (Ue01.node s a.id b.id) (.fork s.size a b, s.size + 1) := by
  have e1 : Ue01.node s a.id b.id = (s.push (cellOf (.fork s.size a b)), s.size) := by
    unfold Ue01.node
    simp only [ha.cell, hb.cell]
    have h1 : (cellOf a).height = a.ht := by cases a <;> rfl
    have h2 : (cellOf b).height = b.ht := by cases b <;> rfl
    have h3 : (cellOf a).sum = a.sum := by cases a <;> rfl
    have h4 : (cellOf b).sum = b.sum := by cases b <;> rfl
    have h5 : (cellOf a).leaves = a.leaves := by cases a <;> rfl
    have h6 : (cellOf b).leaves = b.leaves := by cases b <;> rfl
    rw [h1, h2, h3, h4, h5, h6, max_if]
    rfl
  rw [e1]
  have g := Grows.push s (cellOf (.fork s.size a b))
  exact ⟨by simp, g, ⟨by simp [T.id], ha.grow g, hb.grow g⟩, rfl⟩
theorem leaf_out (s : Store) (w : List Nat) : Out s (Ue01.leaf s w) (.leaf s.size w, s.size + 1) := by
  have e1 : Ue01.leaf s w = (s.push (cellOf (.leaf s.size w)), s.size) := rfl
  rw [e1]
  exact ⟨by simp, Grows.push _ _, by simp [Is], rfl⟩
/-- a node made in a later store -/
theorem node_then {s : Store} {o : Store × Nat} {r : T × Nat} {a b : T} {i j : Nat} (h : Grows s o.1) (hs : o.1.size = r.2) (ha : Is o.1 a) (hb : Is o.1 b) (ei : i = a.id) (ej : j = b.id) : Out s (Ue01.node o.1 i j) (.fork r.2 a b, r.2 + 1) := by
  subst ei ej
  have := (node_out ha hb).from h
  rw [hs] at this
  exact this
theorem lean_out {s : Store} {x t : T} (hx : Is s x) (ht : Is s t) : Out s (Ue01.leaning s x.id t.id) (lean s.size x t) := by
  unfold Ue01.leaning
  rw [lean.eq_def, ht.high, hx.high]
  by_cases c : t.ht ≤ x.ht + 1
  · rw [if_pos c, if_pos c]; exact node_out hx ht
  · rw [if_neg c, if_neg c]
    cases t with
    | leaf i w => simp [T.ht] at c
    | fork i p q =>
      rw [show (T.fork i p q).id = i from rfl, ht.kids]
      obtain ⟨_, hp, hq⟩ := ht
      simp only [hp.high, hq.high]
      by_cases d : p.ht ≤ q.ht
      · rw [if_pos d, if_pos d]
        have u := node_out hx hp
        exact node_then u.grow u.size u.is (hq.grow u.grow) u.id rfl
      · rw [if_neg d, if_neg d]
        cases p with
        | leaf j w => simp [T.ht] at d
        | fork j y z =>
          rw [show (T.fork j y z).id = j from rfl, hp.kids]
          obtain ⟨_, hy, hz⟩ := hp
          have u := node_out hx hy
          have v := node_then (r := (T.fork s.size x y, s.size + 1)) u.grow u.size (hz.grow u.grow) (hq.grow u.grow) rfl rfl
          have g2 : Grows (Ue01.node s x.id y.id).1 (Ue01.node (Ue01.node s x.id y.id).1 z.id q.id).1 := (node_out (hz.grow u.grow) (hq.grow u.grow)).grow
          exact node_then v.grow v.size (u.is.grow g2) v.is u.id v.id
theorem leanB_out {s : Store} {x t : T} (hx : Is s x) (ht : Is s t) : Out s (Ue01.leaningBack s t.id x.id) (leanB s.size t x) := by
  unfold Ue01.leaningBack
  rw [leanB.eq_def, ht.high, hx.high]
  by_cases c : t.ht ≤ x.ht + 1
  · rw [if_pos c, if_pos c]; exact node_out ht hx
  · rw [if_neg c, if_neg c]
    cases t with
    | leaf i w => simp [T.ht] at c
    | fork i p q =>
      rw [show (T.fork i p q).id = i from rfl, ht.kids]
      obtain ⟨_, hp, hq⟩ := ht
      simp only [hp.high, hq.high]
      by_cases d : q.ht ≤ p.ht
      · rw [if_pos d, if_pos d]
        have u := node_out hq hx
        exact node_then u.grow u.size (hp.grow u.grow) u.is rfl u.id
      · rw [if_neg d, if_neg d]
        cases q with
        | leaf j w => simp [T.ht] at d
        | fork j y z =>
          rw [show (T.fork j y z).id = j from rfl, hq.kids]
          obtain ⟨_, hy, hz⟩ := hq
          have u := node_out hp hy
          have v := node_then (r := (T.fork s.size p y, s.size + 1)) u.grow u.size (hz.grow u.grow) (hx.grow u.grow) rfl rfl
          have g2 : Grows (Ue01.node s p.id y.id).1 (Ue01.node (Ue01.node s p.id y.id).1 z.id x.id).1 := (node_out (hz.grow u.grow) (hx.grow u.grow)).grow
          exact node_then v.grow v.size (u.is.grow g2) v.is u.id v.id
theorem joinF_out : ∀ (f : Nat) {s : Store} {a b : T}, Is s a → Is s b → Out s (Ue01.join f s a.id b.id) (joinF f s.size a b)
  | 0, s, a, b, ha, hb => node_out ha hb
  | f + 1, s, a, b, ha, hb => by
    rw [joinF_succ, joinStep.eq_def]
    show Out s (if Ue01.high s b.id + 1 < Ue01.high s a.id then _ else _) _
    rw [ha.high, hb.high]
    by_cases c : b.ht + 1 < a.ht
    · rw [if_pos c, if_pos c]
      cases a with
      | leaf i w => simp only [T.ht] at c; omega
      | fork i x y =>
        rw [show (T.fork i x y).id = i from rfl, ha.kids]
        have ih := joinF_out f ha.2.2 hb
        have k := (lean_out (ha.2.1.grow ih.grow) ih.is).from ih.grow
        rw [ih.size, ← ih.id] at k
        exact k
    · rw [if_neg c, if_neg c]
      by_cases d : a.ht + 1 < b.ht
      · rw [if_pos d, if_pos d]
        cases b with
        | leaf i w => simp only [T.ht] at d; omega
        | fork i x y =>
          rw [show (T.fork i x y).id = i from rfl, hb.kids]
          have ih := joinF_out f ha hb.2.1
          have k := (leanB_out (hb.2.2.grow ih.grow) ih.is).from ih.grow
          rw [ih.size, ← ih.id] at k
          exact k
      · rw [if_neg d, if_neg d]
        exact node_out ha hb
theorem join_out {s : Store} {a b : T} (ha : Is s a) (hb : Is s b) : Out s (Ue01.joined s a.id b.id) (join s.size a b) := by
  unfold Ue01.joined join
  rw [ha.high, hb.high]
  exact joinF_out _ ha hb
theorem joinO_out {s : Store} {a b : Option T} (ha : IsO s a) (hb : IsO s b) : OutO s (Ue01.joinedIf s (a.map T.id) (b.map T.id)) (joinO s.size a b) := by
  cases a with
  | none => exact ⟨rfl, Grows.refl _, hb, rfl⟩
  | some a =>
    cases b with
    | none => exact ⟨rfl, Grows.refl _, ha, rfl⟩
    | some b => exact (join_out ha.of hb.of).some
/-- joined in a later store -/
theorem joinO_then {s : Store} {s1 : Store} {m : Nat} {a b : Option T} {i j : Option Nat} (g : Grows s s1) (hs : s1.size = m) (ha : IsO s1 a) (hb : IsO s1 b) (ei : i = a.map T.id) (ej : j = b.map T.id) : OutO s (Ue01.joinedIf s1 i j) (joinO m a b) := by
  subst ei ej hs
  exact (joinO_out ha hb).from g
theorem sumOf_size (w : List Nat) : (Ue01.sumOf w).size = w.length := by
  have key : ∀ (w : List Nat) (x : Ue01.Sum), (w.foldl (fun s b => Ue01.both s (Ue01.oneOf b)) x).size = x.size + w.length := by
    intro w
    induction w with
    | nil => intro x; rfl
    | cons b w ih =>
      intro x
      rw [List.foldl_cons, ih, List.length_cons]
      have e : (Ue01.oneOf b).size = 1 := by unfold Ue01.oneOf; split <;> rfl
      show x.size + (Ue01.oneOf b).size + w.length = _
      omega
  have := key w Ue01.zero
  rw [show (Ue01.zero).size = 0 from rfl, Nat.zero_add] at this
  exact this
theorem lastOf_is {s : Store} : ∀ (f : Nat) {t : T}, Is s t → t.ht ≤ f → (Ue01.cell s (Ue01.lastOf f s t.id)).bytes = t.lastW ∧ Ue01.size s (Ue01.lastOf f s t.id) = t.lastW.length
  | 0, .leaf i w, h, _ => by
    have e : (Ue01.cell s i) = _ := Is.cell h
    exact ⟨h.bytesL, by show (Ue01.cell s i).sum.size = _; rw [e]; exact sumOf_size w⟩
  | 0, .fork i a b, h, k => by simp [T.ht] at k
  | f + 1, .leaf i w, h, _ => by
    have e : (Ue01.cell s i) = _ := Is.cell h
    have q : Ue01.lastOf (f + 1) s i = i := by rw [Ue01.lastOf, h.kidsL]
    rw [show (T.leaf i w).id = i from rfl, q]
    exact ⟨h.bytesL, by show (Ue01.cell s i).sum.size = _; rw [e]; exact sumOf_size w⟩
  | f + 1, .fork i a b, h, k => by
    have q : Ue01.lastOf (f + 1) s i = Ue01.lastOf f s b.id := by rw [Ue01.lastOf, h.kids]
    rw [show (T.fork i a b).id = i from rfl, q]
    simp only [T.ht] at k
    exact lastOf_is f h.2.2 (by omega)
theorem firstOf_is {s : Store} : ∀ (f : Nat) {t : T}, Is s t → t.ht ≤ f → (Ue01.cell s (Ue01.firstOf f s t.id)).bytes = t.firstW ∧ Ue01.size s (Ue01.firstOf f s t.id) = t.firstW.length
  | 0, .leaf i w, h, _ => by
    have e : (Ue01.cell s i) = _ := Is.cell h
    exact ⟨h.bytesL, by show (Ue01.cell s i).sum.size = _; rw [e]; exact sumOf_size w⟩
  | 0, .fork i a b, h, k => by simp [T.ht] at k
  | f + 1, .leaf i w, h, _ => by
    have e : (Ue01.cell s i) = _ := Is.cell h
    have q : Ue01.firstOf (f + 1) s i = i := by rw [Ue01.firstOf, h.kidsL]
    rw [show (T.leaf i w).id = i from rfl, q]
    exact ⟨h.bytesL, by show (Ue01.cell s i).sum.size = _; rw [e]; exact sumOf_size w⟩
  | f + 1, .fork i a b, h, k => by
    have q : Ue01.firstOf (f + 1) s i = Ue01.firstOf f s a.id := by rw [Ue01.firstOf, h.kids]
    rw [show (T.fork i a b).id = i from rfl, q]
    simp only [T.ht] at k
    exact firstOf_is f h.2.1 (by omega)
theorem sum_size : ∀ t : T, t.sum.size = t.size
  | .leaf _ w => sumOf_size w
  | .fork _ a b => by show a.sum.size + b.sum.size = _; rw [sum_size a, sum_size b]; rfl
theorem Is.size {s : Store} {t : T} (h : Is s t) : Ue01.size s t.id = t.size := by
  unfold Ue01.size
  rw [h.sum, sum_size]
theorem lessLast_out : ∀ (f : Nat) {s : Store} {t : T}, Is s t → t.ht < f → OutO s (Ue01.lessLast f s t.id) (lessLast s.size t)
  | 0, s, t, h, k => by omega
  | f + 1, s, .leaf i w, h, k => by
    rw [show (T.leaf i w).id = i from rfl, Ue01.lessLast, h.kidsL]
    exact ⟨rfl, Grows.refl _, .none', rfl⟩
  | f + 1, s, .fork i x y, h, k => by
    rw [show (T.fork i x y).id = i from rfl, Ue01.lessLast, h.kids]
    simp only [T.ht] at k
    have ih := lessLast_out f h.2.2 (by omega : y.ht < f)
    exact joinO_then ih.grow ih.size (.some' (h.2.1.grow ih.grow)) ih.is rfl ih.id
theorem lessFirst_out : ∀ (f : Nat) {s : Store} {t : T}, Is s t → t.ht < f → OutO s (Ue01.lessFirst f s t.id) (lessFirst s.size t)
  | 0, s, t, h, k => by omega
  | f + 1, s, .leaf i w, h, k => by
    rw [show (T.leaf i w).id = i from rfl, Ue01.lessFirst, h.kidsL]
    exact ⟨rfl, Grows.refl _, .none', rfl⟩
  | f + 1, s, .fork i x y, h, k => by
    rw [show (T.fork i x y).id = i from rfl, Ue01.lessFirst, h.kids]
    simp only [T.ht] at k
    have ih := lessFirst_out f h.2.1 (by omega : x.ht < f)
    exact joinO_then ih.grow ih.size ih.is (.some' (h.2.2.grow ih.grow)) ih.id rfl
theorem sew_out {s : Store} {a b : Option T} (ha : IsO s a) (hb : IsO s b) : OutO s (Ue01.sewn s (a.map T.id) (b.map T.id)) (sewS s.size a b) := by
  cases a with
  | none => exact ⟨rfl, Grows.refl _, hb, rfl⟩
  | some a =>
    cases b with
    | none => exact ⟨rfl, Grows.refl _, ha, rfl⟩
    | some b =>
      have ia := ha.of
      have ib := hb.of
      obtain ⟨l1, l2⟩ := lastOf_is a.ht ia (Nat.le_refl _)
      obtain ⟨f1, f2⟩ := firstOf_is b.ht ib (Nat.le_refl _)
      show OutO s (Ue01.sewn s (some a.id) (some b.id)) _
      simp only [Ue01.sewn, sewS, ia.high, ib.high, l1, l2, f1, f2]
      rw [show Ue01.LEAF = 8 from rfl]
      by_cases c : 8 < a.lastW.length + b.firstW.length
      · rw [if_pos c, if_pos c]
        exact joinO_out ha hb
      · rw [if_neg c, if_neg c]
        have p := lessLast_out (a.ht + 1) ia (Nat.lt_succ_self _)
        have q := lessFirst_out (b.ht + 1) (ib.grow p.grow) (Nat.lt_succ_self _)
        rw [p.size] at q
        have m := leaf_out (Ue01.lessFirst (b.ht + 1) (Ue01.lessLast (a.ht + 1) s a.id).1 b.id).1 (a.lastW ++ b.firstW)
        rw [q.size] at m
        have g2 := (p.grow.trans q.grow).trans m.grow
        have t := joinO_then (j := some (Ue01.leaf (Ue01.lessFirst (b.ht + 1) (Ue01.lessLast (a.ht + 1) s a.id).1 b.id).1 (a.lastW ++ b.firstW)).2) g2 m.size (p.is.grow (q.grow.trans m.grow)) (.some' m.is) p.id (by rw [m.id]; rfl)
        have gt := (joinO_out (p.is.grow (q.grow.trans m.grow)) (.some' m.is)).grow
        have e : Ue01.joinedIf (Ue01.leaf (Ue01.lessFirst (b.ht + 1) (Ue01.lessLast (a.ht + 1) s a.id).1 b.id).1 (a.lastW ++ b.firstW)).1 (Ue01.lessLast (a.ht + 1) s a.id).2 (some (Ue01.leaf (Ue01.lessFirst (b.ht + 1) (Ue01.lessLast (a.ht + 1) s a.id).1 b.id).1 (a.lastW ++ b.firstW)).2)
          = Ue01.joinedIf (Ue01.leaf (Ue01.lessFirst (b.ht + 1) (Ue01.lessLast (a.ht + 1) s a.id).1 b.id).1 (a.lastW ++ b.firstW)).1 ((lessLast s.size a).1.map T.id) ((some (T.leaf (lessFirst (lessLast s.size a).2 b).2 (a.lastW ++ b.firstW))).map T.id) := by
          rw [p.id, m.id]; rfl
        rw [← e] at gt
        exact joinO_then t.grow t.size t.is (q.is.grow (m.grow.trans gt)) t.id q.id
/-- a part's outcome -/
structure OutP (s : Store) (o : Store × Option Nat × Option Nat) (r : (Option T × Option T) × Nat) : Prop where
  size : o.1.size = r.2
  grow : Grows s o.1
  is1 : IsO o.1 r.1.1
  is2 : IsO o.1 r.1.2
  id1 : o.2.1 = r.1.1.map T.id
  id2 : o.2.2 = r.1.2.map T.id
theorem sew_then {s s1 : Store} {m : Nat} {a b : Option T} {i j : Option Nat} (g : Grows s s1) (hs : s1.size = m) (ha : IsO s1 a) (hb : IsO s1 b) (ei : i = a.map T.id) (ej : j = b.map T.id) : OutO s (Ue01.sewn s1 i j) (sewS m a b) := by
  subst ei ej hs
  exact (sew_out ha hb).from g
theorem sew_grow {s1 : Store} {a b : Option T} {i j : Option Nat} (ha : IsO s1 a) (hb : IsO s1 b) (ei : i = a.map T.id) (ej : j = b.map T.id) : Grows s1 (Ue01.sewn s1 i j).1 := by
  subst ei ej
  exact (sew_out ha hb).grow
theorem split_out : ∀ (f : Nat) {s : Store} {t : T} (p : Nat), Is s t → t.ht < f → OutP s (Ue01.split f s t.id p) (split sewS s.size t p)
  | 0, s, t, p, h, k => by omega
  | f + 1, s, .leaf i w, p, h, k => by
    have sz : Ue01.size s i = w.length := Is.size h
    rw [show (T.leaf i w).id = i from rfl, Ue01.split, sz, h.kidsL, h.bytesL]
    simp only [split]
    by_cases c : p = 0
    · rw [if_pos c, if_pos c]; exact ⟨rfl, Grows.refl _, .none', .some' h, rfl, rfl⟩
    · rw [if_neg c, if_neg c]
      by_cases d : w.length ≤ p
      · rw [if_pos d, if_pos d]; exact ⟨rfl, Grows.refl _, .some' h, .none', rfl, rfl⟩
      · rw [if_neg d, if_neg d]
        have u := leaf_out s (w.take p)
        have v := leaf_out (Ue01.leaf s (w.take p)).1 (w.drop p)
        rw [u.size] at v
        exact ⟨v.size, u.grow.trans v.grow, .some' (u.is.grow v.grow), .some' v.is, by rw [u.id]; rfl, by rw [v.id]; rfl⟩
  | f + 1, s, .fork i x y, p, h, k => by
    have sz : Ue01.size s i = x.size + y.size := Is.size h
    have sx : Ue01.size s x.id = x.size := Is.size h.2.1
    rw [show (T.fork i x y).id = i from rfl, Ue01.split, sz, h.kids]
    simp only [split, sx]
    simp only [T.ht] at k
    by_cases c : p = 0
    · rw [if_pos c, if_pos c]; exact ⟨rfl, Grows.refl _, .none', .some' h, rfl, rfl⟩
    · rw [if_neg c, if_neg c]
      by_cases d : x.size + y.size ≤ p
      · rw [if_pos d, if_pos d]; exact ⟨rfl, Grows.refl _, .some' h, .none', rfl, rfl⟩
      · rw [if_neg d, if_neg d]
        by_cases e : p ≤ x.size
        · rw [if_pos e, if_pos e]
          have ih := split_out f p h.2.1 (by omega : x.ht < f)
          have iy : IsO (Ue01.split f s x.id p).1 (some y) := .some' (h.2.2.grow ih.grow)
          have r := sew_then ih.grow ih.size ih.is2 iy ih.id2 rfl
          have g := sew_grow ih.is2 iy ih.id2 rfl
          exact ⟨r.size, r.grow, ih.is1.grow g, r.is, ih.id1, r.id⟩
        · rw [if_neg e, if_neg e]
          have ih := split_out f (p - x.size) h.2.2 (by omega : y.ht < f)
          have ix : IsO (Ue01.split f s y.id (p - x.size)).1 (some x) := .some' (h.2.1.grow ih.grow)
          have r := sew_then ih.grow ih.size ix ih.is1 rfl ih.id1
          have g := sew_grow ix ih.is1 rfl ih.id1
          exact ⟨r.size, r.grow, r.is, ih.is2.grow g, r.id, ih.id2⟩
theorem splitO_out {s : Store} {t : Option T} (p : Nat) (h : IsO s t) : OutP s (Ue01.parted s (t.map T.id) p) (splitO sewS s.size t p) := by
  cases t with
  | none => exact ⟨rfl, Grows.refl _, .none', .none', rfl, rfl⟩
  | some t =>
    have := split_out (t.ht + 1) p h.of (Nat.lt_succ_self _)
    show OutP s (Ue01.split (Ue01.high s t.id + 1) s t.id p) _
    rw [h.of.high]
    exact this
theorem splitO_then {s s1 : Store} {m : Nat} {t : Option T} {i : Option Nat} (p : Nat) (g : Grows s s1) (hs : s1.size = m) (h : IsO s1 t) (ei : i = t.map T.id) : OutP s (Ue01.parted s1 i p) (splitO sewS m t p) ∧ Grows s1 (Ue01.parted s1 i p).1 := by
  subst ei hs
  have k := splitO_out p h
  exact ⟨⟨k.size, g.trans k.grow, k.is1, k.is2, k.id1, k.id2⟩, k.grow⟩
theorem built_out : ∀ (f : Nat) {s : Store} {t : Option T} {i : Option Nat} (w : List Nat), IsO s t → i = t.map T.id → OutO s (Ue01.built f s i w) (built f s.size t w)
  | 0, s, t, i, w, h, e => ⟨rfl, Grows.refl _, h, e⟩
  | f + 1, s, t, i, w, h, e => by
    rw [Ue01.built, built]
    by_cases c : w.isEmpty = true
    · rw [if_pos c, if_pos c]; exact ⟨rfl, Grows.refl _, h, e⟩
    · rw [if_neg c, if_neg c]
      dsimp only
      rw [show Ue01.LEAF = 8 from rfl]
      have u := leaf_out s (w.take 8)
      have v := joinO_then u.grow u.size (h.grow u.grow) (.some' u.is) e (by rw [u.id]; rfl : some (Ue01.leaf s (w.take 8)).2 = _)
      have r := built_out f (w.drop 8) v.is v.id
      rw [v.size] at r
      exact r.from v.grow
theorem putIn_out {s s1 : Store} {n : Nat} {r m : Option T} {i j : Option Nat} (p : Nat) (g : Grows s s1) (hn : s1.size = n) (hr : IsO s1 r) (hm : IsO s1 m) (ei : i = r.map T.id) (ej : j = m.map T.id) :
    OutO s (Ue01.putIn s1 i p j) (putIn sewS n r p m) := by
  obtain ⟨x, gx⟩ := splitO_then p g hn hr ei
  have y := sew_then x.grow x.size x.is1 (hm.grow gx) x.id1 ej
  have gy := sew_grow x.is1 (hm.grow gx) x.id1 ej
  exact sew_then y.grow y.size y.is (x.is2.grow gy) y.id x.id2
theorem takeOut_out {s : Store} {r : Option T} {i : Option Nat} (a b : Nat) (hr : IsO s r) (ei : i = r.map T.id) :
    OutO s (Ue01.sewn (Ue01.parted (Ue01.parted s i a).1 (Ue01.parted s i a).2.2 (b - a)).1 (Ue01.parted s i a).2.1 (Ue01.parted (Ue01.parted s i a).1 (Ue01.parted s i a).2.2 (b - a)).2.2) (takeOut sewS s.size r a b) := by
  obtain ⟨x, gx⟩ := splitO_then a (Grows.refl s) rfl hr ei
  obtain ⟨y, gy⟩ := splitO_then (b - a) x.grow x.size x.is2 x.id2
  exact sew_then y.grow y.size (x.is1.grow gy) y.is2 x.id1 y.id2
theorem cut_out {s : Store} {r : Option T} {i : Option Nat} (a b : Nat) (hr : IsO s r) (ei : i = r.map T.id) :
    OutO s ((Ue01.parted (Ue01.parted s i b).1 (Ue01.parted s i b).2.1 a).1, (Ue01.parted (Ue01.parted s i b).1 (Ue01.parted s i b).2.1 a).2.2) (cut sewS s.size r a b) := by
  obtain ⟨x, gx⟩ := splitO_then b (Grows.refl s) rfl hr ei
  obtain ⟨y, gy⟩ := splitO_then a x.grow x.size x.is1 x.id1
  exact ⟨y.size, y.grow, y.is2, y.id2⟩
end Ph
set_option linter.all false
set_option maxRecDepth 20000
namespace Ph
open T
/-! ## counting different nodes -/
def T.subs : T → List T
  | .leaf i w => [.leaf i w]
  | .fork i a b => .fork i a b :: (a.subs ++ b.subs)
theorem subs_self (t : T) : t ∈ t.subs := by cases t <;> simp [T.subs]
theorem subs_ids : ∀ t : T, t.ids = t.subs.map T.id
  | .leaf _ _ => rfl
  | .fork i a b => by simp [T.ids, T.subs, subs_ids a, subs_ids b, T.id]
theorem subs_trans : ∀ {t u v : T}, u ∈ t.subs → v ∈ u.subs → v ∈ t.subs
  | .leaf i w, u, v, h, k => by
    simp [T.subs] at h
    subst h; exact k
  | .fork i a b, u, v, h, k => by
    simp only [T.subs, List.mem_cons, List.mem_append] at h ⊢
    rcases h with rfl | h | h
    · simpa [T.subs] using k
    · exact .inr (.inl (subs_trans h k))
    · exact .inr (.inr (subs_trans h k))
def subsL (ts : List T) : List T := ts.flatMap T.subs
theorem mem_subsL {ts : List T} {u : T} : u ∈ subsL ts ↔ ∃ t ∈ ts, u ∈ t.subs := by simp [subsL]
theorem subsL_self {ts : List T} {t : T} (h : t ∈ ts) : t ∈ subsL ts := mem_subsL.mpr ⟨t, h, subs_self t⟩
theorem subsL_trans {ts : List T} {u v : T} (h : u ∈ subsL ts) (k : v ∈ u.subs) : v ∈ subsL ts := by
  obtain ⟨t, ht, hu⟩ := mem_subsL.mp h
  exact mem_subsL.mpr ⟨t, ht, subs_trans hu k⟩
/-- how many different nodes from number f on are in the trees -/
def Cnt (f : Nat) (ts : List T) (N : Nat) : Prop := ∃ S : List Nat, S.Nodup ∧ S.length = N ∧ ∀ i, i ∈ S ↔ f ≤ i ∧ ∃ t ∈ ts, i ∈ t.ids
theorem nodup_sub_len {S S' : List Nat} (h : S.Nodup) (k : ∀ i, i ∈ S → i ∈ S') : S.length ≤ S'.length := by
  induction S generalizing S' with
  | nil => simp
  | cons a S ih =>
    have ha : a ∈ S' := k a (by simp)
    obtain ⟨h1, h2⟩ := List.nodup_cons.mp h
    have := ih (S' := S'.erase a) h2 fun i hi => by
      have ne : i ≠ a := fun e => h1 (e ▸ hi)
      exact (List.mem_erase_of_ne ne).mpr (k i (by simp [hi]))
    rw [List.length_erase_of_mem ha] at this
    have hp : 0 < S'.length := List.length_pos_of_mem ha
    simp; omega
theorem nodup_lt_len {S : List Nat} {n : Nat} (h : S.Nodup) (k : ∀ i, i ∈ S → i < n) : S.length ≤ n := by
  have := nodup_sub_len (S' := List.range n) h fun i hi => List.mem_range.mpr (k i hi)
  simpa using this
theorem Cnt.unique {f : Nat} {ts : List T} {N M : Nat} (a : Cnt f ts N) (b : Cnt f ts M) : N = M := by
  obtain ⟨S, n1, l1, m1⟩ := a
  obtain ⟨S', n2, l2, m2⟩ := b
  have h1 := nodup_sub_len n1 fun i hi => (m2 i).mpr ((m1 i).mp hi)
  have h2 := nodup_sub_len n2 fun i hi => (m1 i).mpr ((m2 i).mp hi)
  omega
theorem nodup_map_inj {ρ : Nat → Nat} (hi : ∀ i j, ρ i = ρ j → i = j) : ∀ {S : List Nat}, S.Nodup → (S.map ρ).Nodup
  | [], _ => by simp
  | a :: S, h => by
    obtain ⟨h1, h2⟩ := List.nodup_cons.mp h
    refine List.nodup_cons.mpr ⟨fun q => ?_, nodup_map_inj hi h2⟩
    obtain ⟨b, hb, e⟩ := List.mem_map.mp q
    exact h1 (hi _ _ e ▸ hb)
theorem Cnt.ren {f : Nat} {ts : List T} {N : Nat} {ρ : Nat → Nat} (c : Cnt f ts N) (hi : ∀ i j, ρ i = ρ j → i = j) (hf : ∀ i, f ≤ i ↔ f ≤ ρ i) : Cnt f (ts.map (T.ren ρ)) N := by
  obtain ⟨S, n1, l1, m1⟩ := c
  refine ⟨S.map ρ, nodup_map_inj hi n1, by simpa using l1, fun i => ?_⟩
  constructor
  · intro h
    obtain ⟨j, hj, rfl⟩ := List.mem_map.mp h
    obtain ⟨h1, t, ht, hjt⟩ := (m1 j).mp hj
    exact ⟨(hf j).mp h1, t.ren ρ, List.mem_map.mpr ⟨t, ht, rfl⟩, by rw [ren_ids]; exact List.mem_map.mpr ⟨j, hjt, rfl⟩⟩
  · rintro ⟨h1, t', ht', hi'⟩
    obtain ⟨t, ht, rfl⟩ := List.mem_map.mp ht'
    rw [ren_ids] at hi'
    obtain ⟨j, hj, rfl⟩ := List.mem_map.mp hi'
    exact List.mem_map.mpr ⟨j, (m1 j).mpr ⟨(hf j).mpr h1, t, ht, hj⟩, rfl⟩
/-- one number, one tree -/
def Coh (ts : List T) : Prop := ∀ u v, u ∈ subsL ts → v ∈ subsL ts → u.id = v.id → u = v
/-- below an old node there are old ones alone -/
def Cl (f : Nat) (ts : List T) : Prop := ∀ u, u ∈ subsL ts → u.id < f → u.Below f
/-- a walk: S has been seen, L waits -/
structure Dfs (f : Nat) (ts : List T) (S : List Nat) (L : List T) : Prop where
  nd : S.Nodup
  sub : ∀ i, i ∈ S → f ≤ i ∧ ∃ t ∈ ts, i ∈ t.ids
  lsub : ∀ u, u ∈ L → u ∈ subsL ts
  root : ∀ t, t ∈ ts → t.id < f ∨ t.id ∈ S ∨ t ∈ L
  kid : ∀ i a b, T.fork i a b ∈ subsL ts → i ∈ S → (a.id < f ∨ a.id ∈ S ∨ a ∈ L) ∧ (b.id < f ∨ b.id ∈ S ∨ b ∈ L)
theorem Dfs.start (f : Nat) (ts : List T) : Dfs f ts [] ts :=
  ⟨List.nodup_nil, fun _ h => (by cases h), fun u h => subsL_self h, fun t h => .inr (.inr h), fun _ _ _ _ h => (by cases h)⟩
theorem Dfs.perm {f : Nat} {ts : List T} {S : List Nat} {L L' : List T} (d : Dfs f ts S L) (h : ∀ u, u ∈ L ↔ u ∈ L') : Dfs f ts S L' :=
  ⟨d.nd, d.sub, fun u hu => d.lsub u ((h u).mpr hu), fun t ht => (d.root t ht).imp id (Or.imp id (h t).mp), fun i a b hu hi => ⟨((d.kid i a b hu hi).1).imp id (Or.imp id (h a).mp), ((d.kid i a b hu hi).2).imp id (Or.imp id (h b).mp)⟩⟩
theorem Dfs.skip {f : Nat} {ts : List T} {S : List Nat} {L : List T} {u : T} (d : Dfs f ts S (u :: L)) (h : u.id < f ∨ u.id ∈ S) : Dfs f ts S L := by
  have key : ∀ v : T, v.id < f ∨ v.id ∈ S ∨ v ∈ u :: L → v.id < f ∨ v.id ∈ S ∨ v ∈ L := fun v q => by
    rcases q with q | q | q
    · exact .inl q
    · exact .inr (.inl q)
    · rcases (List.mem_cons.mp q) with rfl | q
      · rcases h with h | h
        · exact .inl h
        · exact .inr (.inl h)
      · exact .inr (.inr q)
  exact ⟨d.nd, d.sub, fun v hv => d.lsub v (List.mem_cons_of_mem _ hv), fun t ht => key t (d.root t ht), fun i a b hu hi => ⟨key a (d.kid i a b hu hi).1, key b (d.kid i a b hu hi).2⟩⟩
def T.kids : T → List T
  | .leaf _ _ => []
  | .fork _ a b => [a, b]
theorem Dfs.visit {f : Nat} {ts : List T} {S : List Nat} {L : List T} {u : T} (d : Dfs f ts S (u :: L)) (co : Coh ts) (h1 : f ≤ u.id) (h2 : u.id ∉ S) : Dfs f ts (u.id :: S) (u.kids ++ L) := by
  have hu := d.lsub u (by simp)
  have key : ∀ v : T, v.id < f ∨ v.id ∈ S ∨ v ∈ u :: L → v.id < f ∨ v.id ∈ u.id :: S ∨ v ∈ u.kids ++ L := fun v q => by
    rcases q with q | q | q
    · exact .inl q
    · exact .inr (.inl (List.mem_cons_of_mem _ q))
    · rcases (List.mem_cons.mp q) with rfl | q
      · exact .inr (.inl (by simp))
      · exact .inr (.inr (List.mem_append_right _ q))
  refine ⟨List.nodup_cons.mpr ⟨h2, d.nd⟩, fun i hi => ?_, fun v hv => ?_, fun t ht => key t (d.root t ht), fun i a b hf hi => ?_⟩
  · rcases List.mem_cons.mp hi with rfl | hi
    · obtain ⟨t, ht, q⟩ := mem_subsL.mp hu
      exact ⟨h1, t, ht, by rw [subs_ids]; exact List.mem_map.mpr ⟨u, q, rfl⟩⟩
    · exact d.sub i hi
  · rcases List.mem_append.mp hv with hv | hv
    · refine subsL_trans hu ?_
      cases u with
      | leaf i w => simp [T.kids] at hv
      | fork i a b =>
        simp only [T.kids, List.mem_cons, List.not_mem_nil, or_false] at hv
        simp only [T.subs, List.mem_cons, List.mem_append]
        rcases hv with rfl | rfl
        · exact .inr (.inl (subs_self _))
        · exact .inr (.inr (subs_self _))
    · exact d.lsub v (List.mem_cons_of_mem _ hv)
  · rcases List.mem_cons.mp hi with e | hi
    · have e2 := co _ _ hf hu e
      subst e2
      exact ⟨.inr (.inr (by simp [T.kids])), .inr (.inr (by simp [T.kids]))⟩
    · exact ⟨key a (d.kid i a b hf hi).1, key b (d.kid i a b hf hi).2⟩
theorem Dfs.done {f : Nat} {ts : List T} {S : List Nat} (d : Dfs f ts S []) (cl : Cl f ts) : Cnt f ts S.length := by
  have key : ∀ u : T, u ∈ subsL ts → u.id < f ∨ u.id ∈ S → ∀ i ∈ u.ids, f ≤ i → i ∈ S := by
    intro u
    induction u with
    | leaf j w =>
      intro hu h i hi hf
      simp [T.ids] at hi
      subst hi
      rcases h with h | h
      · simp only [T.id] at h; omega
      · exact h
    | fork j a b iha ihb =>
      intro hu h i hi hf
      rcases h with h | h
      · exact absurd (below_iff.mp (cl _ hu h) i hi) (by omega)
      · obtain ⟨ka, kb⟩ := d.kid j a b hu h
        have ka' : a.id < f ∨ a.id ∈ S := by
          rcases ka with q | q | q
          · exact .inl q
          · exact .inr q
          · cases q
        have kb' : b.id < f ∨ b.id ∈ S := by
          rcases kb with q | q | q
          · exact .inl q
          · exact .inr q
          · cases q
        simp only [T.ids, List.mem_cons, List.mem_append] at hi
        rcases hi with rfl | hi | hi
        · exact h
        · exact iha (subsL_trans hu (by simp [T.subs, subs_self])) ka' i hi hf
        · exact ihb (subsL_trans hu (by simp [T.subs, subs_self])) kb' i hi hf
  refine ⟨S, d.nd, rfl, fun i => ⟨d.sub i, fun ⟨hf, t, ht, hi⟩ => key t (subsL_self ht) ?_ i hi hf⟩⟩
  rcases d.root t ht with q | q | q
  · exact .inl q
  · exact .inr q
  · cases q
/-! ### the specification counts so -/
theorem Is.sub {s : Store} : ∀ {t u : T}, Is s t → u ∈ t.subs → Is s u
  | .leaf i w, u, h, k => by
    simp [T.subs] at k
    subst k; exact h
  | .fork i a b, u, h, k => by
    simp only [T.subs, List.mem_cons, List.mem_append] at k
    rcases k with rfl | k | k
    · exact h
    · exact Is.sub h.2.1 k
    · exact Is.sub h.2.2 k
theorem Dec.sub : ∀ {t u : T}, t.Dec → u ∈ t.subs → u.Dec
  | .leaf i w, u, h, k => by
    simp [T.subs] at k
    subst k; exact h
  | .fork i a b, u, h, k => by
    simp only [T.subs, List.mem_cons, List.mem_append] at k
    rcases k with rfl | k | k
    · exact h
    · exact Dec.sub h.2.2.1 k
    · exact Dec.sub h.2.2.2 k
theorem Dec.below {t : T} (h : t.Dec) : t.Below (t.id + 1) := by
  cases t with
  | leaf i w => exact Nat.lt_succ_self _
  | fork i a b => exact ⟨Nat.lt_succ_self _, h.1.mono (Nat.le_succ _), h.2.1.mono (Nat.le_succ _)⟩
theorem coh_of_is {s : Store} {ts : List T} (h : ∀ t ∈ ts, Is s t) : Coh ts := fun u v hu hv e => by
  obtain ⟨t, ht, q⟩ := mem_subsL.mp hu
  obtain ⟨t', ht', q'⟩ := mem_subsL.mp hv
  exact Is.inj ((h t ht).sub q) ((h t' ht').sub q') e
theorem cl_of_dec {f : Nat} {ts : List T} (h : ∀ t ∈ ts, t.Dec) : Cl f ts := fun u hu hf => by
  obtain ⟨t, ht, q⟩ := mem_subsL.mp hu
  exact (Dec.below (Dec.sub (h t ht) q)).mono (by omega)
theorem reach_cnt {s : Store} {f : Nat} {ts : List T} (his : ∀ t ∈ ts, Is s t) (hdec : ∀ t ∈ ts, t.Dec) :
    ∀ (fu : Nat) (L : List T) (S : List Nat) (seen : Array Bool) (n : Nat), Dfs f ts S L → seen.size = s.size → (∀ i, i < s.size → (seen.getD i true = true ↔ i ∈ S)) → n = S.length → L.length + 2 * (s.size - S.length) < fu →
      Cnt f ts (Ue01.reach fu s f (L.map T.id) seen n)
  | 0, L, S, seen, n, d, hs, hm, hn, hf => by omega
  | fu + 1, [], S, seen, n, d, hs, hm, hn, hf => by
    show Cnt f ts n
    rw [hn]
    exact d.done (cl_of_dec hdec)
  | fu + 1, u :: L, S, seen, n, d, hs, hm, hn, hf => by
    have hu := d.lsub u (by simp)
    have iu : Is s u := by
      obtain ⟨t, ht, q⟩ := mem_subsL.mp hu
      exact (his t ht).sub q
    have lu := iu.lt
    show Cnt f ts (if u.id < f ∨ seen.getD u.id true = true then _ else _)
    by_cases c : u.id < f ∨ seen.getD u.id true = true
    · rw [if_pos c]
      refine reach_cnt his hdec fu L S seen n (d.skip ?_) hs hm hn (by simp only [List.length_cons] at hf; omega)
      rcases c with c | c
      · exact .inl c
      · exact .inr ((hm _ lu).mp c)
    · rw [if_neg c]
      have c1 : f ≤ u.id := by omega
      have c2 : u.id ∉ S := fun q => c (.inr ((hm _ lu).mpr q))
      have d2 := d.visit (coh_of_is his) c1 c2
      have all : ∀ i, i ∈ u.id :: S → i < s.size := fun i hi => by
        obtain ⟨_, t, ht, hit⟩ := d2.sub i hi
        exact below_iff.mp (his t ht).below i hit
      have len : S.length + 1 ≤ s.size := by simpa using nodup_lt_len d2.nd all
      have hm2 : ∀ i, i < s.size → ((seen.set! u.id true).getD i true = true ↔ i ∈ u.id :: S) := fun i hi => by
        rw [Array.getD_eq_getD_getElem?, Array.set!_eq_setIfInBounds, Array.getElem?_setIfInBounds]
        by_cases e : u.id = i
        · subst e
          rw [if_pos rfl, if_pos (by omega)]
          simp
        · rw [if_neg e]
          have := hm i hi
          rw [Array.getD_eq_getD_getElem?] at this
          rw [this]
          simp [Ne.symm e]
      cases u with
      | leaf j w =>
        rw [show (T.leaf j w).id = j from rfl] at *
        rw [iu.kidsL]
        exact reach_cnt his hdec fu L (j :: S) _ _ d2 (by simpa using hs) hm2 (by simp [hn]) (by simp only [List.length_cons] at hf ⊢; omega)
      | fork j a b =>
        rw [show (T.fork j a b).id = j from rfl] at *
        rw [iu.kids]
        exact reach_cnt his hdec fu (a :: b :: L) (j :: S) _ _ d2 (by simpa using hs) hm2 (by simp [hn]) (by simp only [List.length_cons] at hf ⊢; omega)
theorem nodesFrom_cnt {s : Store} {f : Nat} {ts : List T} (his : ∀ t ∈ ts, Is s t) (hdec : ∀ t ∈ ts, t.Dec) : Cnt f ts (Ue01.nodesFrom s f (ts.map T.id)) := by
  unfold Ue01.nodesFrom
  refine reach_cnt his hdec _ ts [] _ 0 (Dfs.start f ts) (by simp) (fun i hi => ?_) rfl (by simp; omega)
  rw [Array.getD_eq_getD_getElem?]
  simp [hi]
end Ph
set_option linter.all false
set_option maxRecDepth 20000
namespace Ph
open T
/-! ## what is read -/
theorem sumOf_breaks (w : List Nat) : (Ue01.sumOf w).breaks = w.count 10 := by
  have key : ∀ (w : List Nat) (x : Ue01.Sum), (w.foldl (fun s b => Ue01.both s (Ue01.oneOf b)) x).breaks = x.breaks + w.count 10 := by
    intro w
    induction w with
    | nil => intro x; rfl
    | cons b w ih =>
      intro x
      rw [List.foldl_cons, ih]
      show x.breaks + (Ue01.oneOf b).breaks + w.count 10 = _
      unfold Ue01.oneOf
      by_cases c : b = 10
      · subst c
        rw [if_pos rfl, List.count_cons_self]
        show x.breaks + 1 + _ = _
        omega
      · rw [if_neg c, List.count_cons_of_ne c]
        rfl
  have := key w Ue01.zero
  rw [show (Ue01.zero).breaks = 0 from rfl, Nat.zero_add] at this
  exact this
theorem sum_breaks : ∀ t : T, t.sum.breaks = t.bytes.count 10
  | .leaf _ w => sumOf_breaks w
  | .fork _ a b => by show a.sum.breaks + b.sum.breaks = _; rw [sum_breaks a, sum_breaks b, bytes, List.count_append]
theorem piece_is {s : Store} : ∀ (f : Nat) {t : T} (a b : Nat), Is s t → t.ht < f → b ≤ t.size → Ue01.piece f s t.id a b = (t.bytes.take b).drop a
  | 0, t, a, b, h, k, _ => by omega
  | f + 1, .leaf i w, a, b, h, k, hb => by
    rw [show (T.leaf i w).id = i from rfl, Ue01.piece, h.kidsL, h.bytesL]
    by_cases c : b ≤ a
    · rw [if_pos c, List.drop_of_length_le]
      rw [List.length_take]; omega
    · rw [if_neg c]; rfl
  | f + 1, .fork i x y, a, b, h, k, hb => by
    rw [show (T.fork i x y).id = i from rfl, Ue01.piece, h.kids]
    by_cases c : b ≤ a
    · rw [if_pos c, List.drop_of_length_le]
      rw [List.length_take]; omega
    · rw [if_neg c]
      simp only [h.2.1.size]
      simp only [T.ht] at k
      simp only [T.size] at hb
      have lx := size_bytes x
      have ix : a < x.size → Ue01.piece f s x.id a (min b x.size) = (x.bytes.take (min b x.size)).drop a := fun _ => piece_is f a _ h.2.1 (by omega) (Nat.min_le_right _ _)
      have iy : x.size < b → Ue01.piece f s y.id (a - x.size) (b - x.size) = (y.bytes.take (b - x.size)).drop (a - x.size) := fun _ => piece_is f _ _ h.2.2 (by omega) (by omega)
      have e1 : (if a < x.size then Ue01.piece f s x.id a (min b x.size) else []) = (x.bytes.take b).drop a := by
        by_cases d : a < x.size
        · rw [if_pos d, ix d]
          by_cases e : b ≤ x.size
          · rw [Nat.min_eq_left e]
          · rw [Nat.min_eq_right (by omega), List.take_of_length_le (by omega), List.take_of_length_le (by omega)]
        · rw [if_neg d, List.drop_of_length_le]
          rw [List.length_take]; omega
      have e2 : (if x.size < b then Ue01.piece f s y.id (a - x.size) (b - x.size) else []) = (y.bytes.take (b - x.size)).drop (a - (x.bytes.take b).length) := by
        by_cases d : x.size < b
        · rw [if_pos d, iy d, List.length_take, lx, Nat.min_eq_right (by omega)]
        · rw [if_neg d, show b - x.size = 0 by omega]; simp
      rw [e1, e2, bytes, List.take_append, lx, List.drop_append]
theorem breaksTo_is {s : Store} : ∀ (f : Nat) {t : T} (p : Nat), Is s t → t.ht < f → Ue01.breaksTo f s t.id p = (t.bytes.take p).count 10
  | 0, t, p, h, k => by omega
  | f + 1, .leaf i w, p, h, k => by
    rw [show (T.leaf i w).id = i from rfl, Ue01.breaksTo, h.kidsL, h.bytesL]
    have e := Is.size h
    have e2 := Is.sum h
    rw [show (T.leaf i w).id = i from rfl] at e e2
    rw [e, e2]
    by_cases c : (T.leaf i w).size ≤ p
    · rw [if_pos c, sum_breaks, List.take_of_length_le (by rw [size_bytes]; exact c)]
    · rw [if_neg c]; rfl
  | f + 1, .fork i x y, p, h, k => by
    rw [show (T.fork i x y).id = i from rfl, Ue01.breaksTo, h.kids]
    have e := Is.size h
    have e2 := Is.sum h
    rw [show (T.fork i x y).id = i from rfl] at e e2
    rw [e, e2]
    by_cases c : (T.fork i x y).size ≤ p
    · rw [if_pos c, sum_breaks, List.take_of_length_le (by rw [size_bytes]; exact c)]
    · rw [if_neg c]
      simp only [h.2.1.size, h.2.1.sum]
      simp only [T.ht] at k
      have lx := size_bytes x
      by_cases d : p ≤ x.size
      · rw [if_pos d, breaksTo_is f p h.2.1 (by omega), bytes, List.take_append_of_le_length (by omega)]
      · rw [if_neg d, breaksTo_is f _ h.2.2 (by omega), sum_breaks, bytes, List.take_append, List.count_append, lx, List.take_of_length_le (show x.bytes.length ≤ p by omega)]
theorem behindIn_shift : ∀ (w : List Nat) (k n : Nat), Ue01.behindIn w k n = n + Ue01.behindIn w k 0
  | [], k, n => rfl
  | b :: w, k, n => by
    rw [Ue01.behindIn, Ue01.behindIn]
    by_cases c : b = 10
    · rw [if_pos c, if_pos c]
      by_cases d : k ≤ 1
      · rw [if_pos d, if_pos d]
      · rw [if_neg d, if_neg d, behindIn_shift w _ (n + 1), behindIn_shift w _ (0 + 1)]; omega
    · rw [if_neg c, if_neg c, behindIn_shift w _ (n + 1), behindIn_shift w _ (0 + 1)]; omega
theorem behindIn_left : ∀ (u v : List Nat) (k : Nat), 1 ≤ k → k ≤ u.count 10 → Ue01.behindIn (u ++ v) k 0 = Ue01.behindIn u k 0
  | [], v, k, h1, h2 => by simp at h2; omega
  | b :: u, v, k, h1, h2 => by
    rw [List.cons_append, Ue01.behindIn, Ue01.behindIn]
    by_cases c : b = 10
    · rw [if_pos c, if_pos c]
      subst c
      rw [List.count_cons_self] at h2
      by_cases d : k ≤ 1
      · rw [if_pos d, if_pos d]
      · rw [if_neg d, if_neg d, behindIn_shift, behindIn_shift u, behindIn_left u v (k - 1) (by omega) (by omega)]
    · rw [if_neg c, if_neg c]
      rw [List.count_cons_of_ne c] at h2
      rw [behindIn_shift, behindIn_shift u, behindIn_left u v k h1 h2]
theorem behindIn_right : ∀ (u v : List Nat) (k : Nat), u.count 10 < k → Ue01.behindIn (u ++ v) k 0 = u.length + Ue01.behindIn v (k - u.count 10) 0
  | [], v, k, h => by simp
  | b :: u, v, k, h => by
    rw [List.cons_append, Ue01.behindIn]
    by_cases c : b = 10
    · rw [if_pos c]
      subst c
      rw [List.count_cons_self] at h
      rw [if_neg (by omega), behindIn_shift, behindIn_right u v (k - 1) (by omega), List.count_cons_self, List.length_cons, show k - 1 - u.count 10 = k - (u.count 10 + 1) by omega]
      omega
    · rw [if_neg c]
      rw [List.count_cons_of_ne c] at h
      rw [behindIn_shift, behindIn_right u v k h, List.count_cons_of_ne c, List.length_cons]
      omega
theorem behind_is {s : Store} : ∀ (f : Nat) {t : T} (k : Nat), Is s t → t.ht < f → 1 ≤ k → Ue01.behind f s t.id k = Ue01.behindIn t.bytes k 0
  | 0, t, k, h, q, _ => by omega
  | f + 1, .leaf i w, k, h, q, _ => by
    rw [show (T.leaf i w).id = i from rfl, Ue01.behind, h.kidsL, h.bytesL]; rfl
  | f + 1, .fork i x y, k, h, q, hk => by
    rw [show (T.fork i x y).id = i from rfl, Ue01.behind, h.kids]
    simp only [h.2.1.size, h.2.1.sum, sum_breaks]
    simp only [T.ht] at q
    have lx := size_bytes x
    by_cases c : k ≤ x.bytes.count 10
    · rw [if_pos c, behind_is f k h.2.1 (by omega) hk, bytes, behindIn_left _ _ _ hk c]
    · rw [if_neg c, behind_is f _ h.2.2 (by omega) (by omega), bytes, behindIn_right _ _ _ (by omega), lx]
/-! ## the house -/
def sumO : Option T → Ue01.Sum
  | none => Ue01.zero
  | some t => t.sum
def leavesO : Option T → Nat
  | none => 0
  | some t => t.leaves
theorem sumO_size (o : Option T) : (sumO o).size = sizeO o := by cases o <;> simp [sumO, sizeO, sum_size, Ue01.zero]
theorem sumO_breaks (o : Option T) : (sumO o).breaks = (bytesO o).count 10 := by cases o <;> simp [sumO, bytesO, sum_breaks, Ue01.zero]
/-- the place at which a line begins -/
def startB (bs : List Nat) (k : Nat) : Nat := if k = 0 then 0 else Ue01.behindIn bs k 0
/-- the specification's house and the program's: n nodes have been made, vs are the versions' trees -/
structure RelW (g : Ue01.St) (n : Nat) (vs : List (Option T)) (ρ : Nat → Nat) (us : List (Option T)) : Prop where
  size : g.store.size = n
  good : Good ρ n
  vers : g.versions = us.map (Option.map T.id)
  is : ∀ o, o ∈ us → IsO g.store o
  fr : ∀ o, o ∈ us → FrO n o
  ren : vs = us.map (Option.map (T.ren ρ))
  ok : ∀ o, o ∈ vs → Ok o ∧ sizeO o ≤ 2 ^ 40
  made : n ≤ 140000 * (vs.length - 1)
  len : vs.length ≤ 60
  pos : 1 ≤ vs.length
def Rel (g : Ue01.St) (n : Nat) (vs : List (Option T)) : Prop := ∃ ρ us, RelW g n vs ρ us
theorem Rel.start : Rel Ue01.init 0 [none] := ⟨fun i => i, [none], rfl, Good.id 0, rfl, fun o h => by
  simp at h; subst h; exact .none', fun o h => by
  simp at h; subst h; exact .none, rfl, fun o h => by
  simp at h; subst h; exact ⟨True.intro, Nat.zero_le _⟩, by simp, by simp, by simp⟩
section
variable {g : Ue01.St} {n : Nat} {vs us : List (Option T)} {ρ : Nat → Nat} {v : Nat} {o u : Option T}
theorem RelW.look (R : RelW g n vs ρ us) (h : vs[v]? = some o) : ∃ u, us[v]? = some u ∧ o = u.map (T.ren ρ) ∧ u ∈ us := by
  rw [R.ren, List.getElem?_map] at h
  cases e : us[v]? with
  | none => rw [e] at h; simp at h
  | some u =>
    rw [e] at h
    simp only [Option.map_some, Option.some.injEq] at h
    exact ⟨u, rfl, h.symm, List.mem_of_getElem? e⟩
theorem RelW.at (R : RelW g n vs ρ us) (h : us[v]? = some u) : g.versions[v]? = some (u.map T.id) := by
  rw [R.vers, List.getElem?_map, h]; rfl
theorem RelW.no (R : RelW g n vs ρ us) (h : vs[v]? = none) : g.versions[v]? = none := by
  rw [R.vers, List.getElem?_map]
  rw [R.ren, List.getElem?_map] at h
  cases e : us[v]? with
  | none => rfl
  | some u => rw [e] at h; simp at h
theorem RelW.lens (R : RelW g n vs ρ us) : g.versions.length = vs.length := by rw [R.vers, R.ren]; simp
theorem RelW.sumAt (R : RelW g n vs ρ us) (h : u ∈ us) : Ue01.sumAt g (u.map T.id) = sumO u := by
  cases u with
  | none => rfl
  | some t => exact (R.is _ h).of.sum
theorem renO_size (ρ : Nat → Nat) (u : Option T) : sizeO (u.map (T.ren ρ)) = sizeO u := by cases u <;> simp [sizeO]
theorem renO_bytes (ρ : Nat → Nat) (u : Option T) : bytesO (u.map (T.ren ρ)) = bytesO u := by cases u <;> simp [bytesO]
theorem renO_ht (ρ : Nat → Nat) (u : Option T) : htO (u.map (T.ren ρ)) = htO u := by cases u <;> simp [htO]
theorem renO_sum (ρ : Nat → Nat) (u : Option T) : sumO (u.map (T.ren ρ)) = sumO u := by cases u <;> simp [sumO]
theorem renO_leaves (ρ : Nat → Nat) (u : Option T) : leavesO (u.map (T.ren ρ)) = leavesO u := by cases u <;> simp [leavesO]
theorem ren_sub {ρ : Nat → Nat} : ∀ {t : T} {w : T}, w ∈ (t.ren ρ).subs → ∃ w', w' ∈ t.subs ∧ w = w'.ren ρ
  | .leaf i x, w, h => by
    simp [T.ren, T.subs] at h
    exact ⟨.leaf i x, by simp [T.subs], h⟩
  | .fork i a b, w, h => by
    simp only [T.ren, T.subs, List.mem_cons, List.mem_append] at h
    rcases h with rfl | h | h
    · exact ⟨.fork i a b, by simp [T.subs], rfl⟩
    · obtain ⟨w', h1, h2⟩ := ren_sub (t := a) h
      exact ⟨w', by simp [T.subs, h1], h2⟩
    · obtain ⟨w', h1, h2⟩ := ren_sub (t := b) h
      exact ⟨w', by simp [T.subs, h1], h2⟩
theorem coh_ren {ts : List T} {ρ : Nat → Nat} (hi : ∀ i j, ρ i = ρ j → i = j) (h : Coh ts) : Coh (ts.map (T.ren ρ)) := by
  intro x y hx hy e
  obtain ⟨t, ht, q⟩ := mem_subsL.mp hx
  obtain ⟨t', ht', q'⟩ := mem_subsL.mp hy
  obtain ⟨t0, ht0, rfl⟩ := List.mem_map.mp ht
  obtain ⟨t1, ht1, rfl⟩ := List.mem_map.mp ht'
  obtain ⟨x', hx', rfl⟩ := ren_sub q
  obtain ⟨y', hy', rfl⟩ := ren_sub q'
  rw [ren_id, ren_id] at e
  rw [h x' y' (mem_subsL.mpr ⟨t0, ht0, hx'⟩) (mem_subsL.mpr ⟨t1, ht1, hy'⟩) (hi _ _ e)]
theorem cl_ren {ts : List T} {ρ : Nat → Nat} {f : Nat} (hf : ∀ i, f ≤ i ↔ f ≤ ρ i) (h : Cl f ts) : Cl f (ts.map (T.ren ρ)) := by
  intro x hx e
  obtain ⟨t, ht, q⟩ := mem_subsL.mp hx
  obtain ⟨t0, ht0, rfl⟩ := List.mem_map.mp ht
  obtain ⟨x', hx', rfl⟩ := ren_sub q
  rw [ren_id] at e
  have k := h x' (mem_subsL.mpr ⟨t0, ht0, hx'⟩) (by have := hf x'.id; omega)
  rw [below_iff, ren_ids]
  intro i hi
  obtain ⟨j, hj, rfl⟩ := List.mem_map.mp hi
  have := below_iff.mp k j hj
  have := hf j
  omega
/-- what the counting loops of the program need to know of some trees -/
structure Countable (f : Nat) (ts : List T) (b : Nat) : Prop where
  coh : Coh ts
  cl : Cl f ts
  below : ∀ t, t ∈ ts → t.Below b
theorem toList_map {α β : Type} (f : α → β) (o : Option α) : (o.map f).toList = o.toList.map f := by cases o <;> rfl
theorem toList_some {α : Type} {o : Option α} {t : α} (h : t ∈ o.toList) : o = some t := by cases o <;> simp at h ⊢; exact h.symm
/-- a new version -/
theorem RelW.made_ (R : RelW g n vs ρ us) {out : Ue01.Store × Option Nat} {r : Option T × Nat} {ρ' : Nat → Nat} (ho : OutO g.store out r) (hf : FrO r.2 r.1) (hn : n ≤ r.2) (x : Ext n ρ ρ') (gd : Good ρ' r.2)
    (hok : Ok (r.1.map (T.ren ρ'))) (hs : sizeO (r.1.map (T.ren ρ')) ≤ 2 ^ 40) (hc : r.2 ≤ n + 140000) (hl : vs.length < 60) :
    Rel (Ue01.made g out).1 r.2 (vs ++ [r.1.map (T.ren ρ')]) ∧ ∃ N : Nat, (Ue01.made g out).2 = [(vs.length : Int), (N : Int)] ∧ Cnt n (r.1.map (T.ren ρ')).toList N ∧ Countable n (r.1.map (T.ren ρ')).toList r.2 := by
  have iff : ∀ i, n ≤ i ↔ n ≤ ρ' i := fun i => by
    constructor
    · exact x.new i
    · intro h
      by_cases c : i < n
      · have := x.old i c
        have := R.good.lt c
        omega
      · omega
  have tl : ∀ t, t ∈ r.1.toList → Is out.1 t ∧ Fr r.2 t := fun t ht => by
    have : r.1 = some t := toList_some ht
    exact ⟨ho.is t this, hf t this⟩
  have cnt : Cnt n r.1.toList (Ue01.nodesFrom out.1 g.store.size out.2.toList) := by
    have := nodesFrom_cnt (s := out.1) (f := n) (ts := r.1.toList) (fun t ht => (tl t ht).1) (fun t ht => (tl t ht).2.2)
    rw [ho.id, toList_map, R.size]
    exact this
  refine ⟨⟨ρ', us ++ [r.1], ho.size, gd, ?_, ?_, ?_, ?_, ?_, ?_, ?_, by simp⟩, Ue01.nodesFrom out.1 g.store.size out.2.toList, ?_, ?_, ?_⟩
  · show g.versions ++ [out.2] = _
    rw [R.vers, ho.id]; simp
  · intro o h
    rcases (List.mem_append.mp h) with h | h
    · exact (R.is o h).grow ho.grow
    · have : o = r.1 := by simpa using h
      rw [this]; exact ho.is
  · intro o h
    rcases (List.mem_append.mp h) with h | h
    · exact (R.fr o h).mono hn
    · have : o = r.1 := by simpa using h
      rw [this]; exact hf
  · rw [List.map_append, R.ren]
    congr 1
    refine List.map_congr_left fun o h => ?_
    exact (x.renO (R.fr o h)).symm
  · intro o h
    rcases (List.mem_append.mp h) with h | h
    · exact R.ok o h
    · have : o = r.1.map (T.ren ρ') := by simpa using h
      rw [this]; exact ⟨hok, hs⟩
  · have := R.made
    simp only [List.length_append, List.length_cons, List.length_nil]
    have := R.pos
    omega
  · simp only [List.length_append, List.length_cons, List.length_nil]; omega
  · show Ue01.ints [g.versions.length, _] = _
    rw [R.lens]; rfl
  · rw [toList_map]; exact cnt.ren gd.inj iff
  · rw [toList_map]
    exact ⟨coh_ren gd.inj (coh_of_is fun t ht => (tl t ht).1), cl_ren iff (cl_of_dec fun t ht => (tl t ht).2.2), fun t ht => by
      obtain ⟨t0, h0, rfl⟩ := List.mem_map.mp ht
      rw [below_iff, ren_ids]
      intro i hi
      obtain ⟨j, hj, rfl⟩ := List.mem_map.mp hi
      exact gd.lt (below_iff.mp (tl t0 h0).2.1 j hj)⟩
end
end Ph
set_option linter.all false
set_option maxRecDepth 20000
namespace Ph
open T
section
variable {g : Ue01.St} {n : Nat} {vs : List (Option T)} {v v' : Nat} {o o' : Option T}
/-- what is known of a version -/
theorem Rel.okv (R : Rel g n vs) (h : vs[v]? = some o) : Ok o ∧ sizeO o ≤ 2 ^ 40 := by
  obtain ⟨ρ, us, R⟩ := R
  exact R.ok o (List.mem_of_getElem? h)
theorem Rel.made_le (R : Rel g n vs) : n ≤ 140000 * (vs.length - 1) ∧ vs.length ≤ 60 ∧ 1 ≤ vs.length := by
  obtain ⟨ρ, us, R⟩ := R
  exact ⟨R.made, R.len, R.pos⟩
theorem Rel.sumAt (R : Rel g n vs) (h : vs[v]? = some o) : ∃ r, g.versions[v]? = some r ∧ Ue01.sumAt g r = sumO o := by
  obtain ⟨ρ, us, R⟩ := R
  obtain ⟨u, h1, rfl, h3⟩ := R.look h
  exact ⟨_, R.at h1, by rw [R.sumAt h3, renO_sum]⟩
theorem Rel.no (R : Rel g n vs) (h : vs[v]? = none) : g.versions[v]? = none := by
  obtain ⟨ρ, us, R⟩ := R
  exact R.no h
theorem Rel.lens (R : Rel g n vs) : g.versions.length = vs.length := by
  obtain ⟨ρ, us, R⟩ := R
  exact R.lens
/-! ### a new version -/
theorem step_insert (R : Rel g n vs) (h : vs[v]? = some o) {p : Nat} {w : List Nat} (h1 : p ≤ sizeO o) (h2 : w.length ≤ 200) (h3 : ∀ b, b ∈ w → b ≤ 255) (h4 : vs.length < 60) (h5 : sizeO o + w.length ≤ 2 ^ 40) :
    ∃ N : Nat, Rel (Ue01.step g (.insert v p w)).1 (putIn sewC (built (w.length + 1) n none w).2 o p (built (w.length + 1) n none w).1).2 (vs ++ [(putIn sewC (built (w.length + 1) n none w).2 o p (built (w.length + 1) n none w).1).1]) ∧
      (Ue01.step g (.insert v p w)).2 = [(vs.length : Int), (N : Int)] ∧ Cnt n (putIn sewC (built (w.length + 1) n none w).2 o p (built (w.length + 1) n none w).1).1.toList N ∧
      Countable n (putIn sewC (built (w.length + 1) n none w).2 o p (built (w.length + 1) n none w).1).1.toList (putIn sewC (built (w.length + 1) n none w).2 o p (built (w.length + 1) n none w).1).2 := by
  obtain ⟨ρ, us, R⟩ := R
  obtain ⟨u, e1, rfl, e3⟩ := R.look h
  obtain ⟨ko, ks⟩ := R.ok _ (List.mem_of_getElem? h)
  obtain ⟨f1, f2⟩ := built_fr (w.length + 1) n none w .none
  obtain ⟨gd1, b2⟩ := built_sim (w.length + 1) n none w R.good .none
  have bo := built_out (w.length + 1) (s := g.store) (t := none) (i := none) w .none' rfl
  rw [R.size] at bo
  have bk := built_ok (w.length + 1) n none w (by omega) True.intro (by simp [sizeO]; omega)
  rw [Option.map_none] at b2
  have ec : (built (w.length + 1) n none w).1 = (built (w.length + 1) n none w).1.map (T.ren ρ) := congrArg Prod.fst b2
  generalize em : built (w.length + 1) n none w = m at *
  obtain ⟨ρ', x, gd2, e⟩ := putIn_sim (p := p) gd1 ((R.fr u e3).mono f2) f1
  obtain ⟨q1, q2⟩ := putIn_fr (p := p) ((R.fr u e3).mono f2) f1
  have po := putIn_out p bo.grow bo.size ((R.is u e3).grow bo.grow) bo.is rfl bo.id
  have sm : sizeO m.1 = w.length := by rw [← sizeO_bytes, bk.bytes]; rfl
  have pk := putIn_ok (n := m.2) (p := p) ko bk.ok (by rw [sm]; exact h5)
  rw [ec, e] at pk ⊢
  have up := pk.up
  have cost := pk.cost
  have cb := bk.cost
  have k := R.made_ (out := Ue01.putIn (Ue01.built (w.length + 1) g.store none w).1 (u.map T.id) p (Ue01.built (w.length + 1) g.store none w).2) po q1 (Nat.le_trans f2 q2) ((Ext.refl R.good).trans f2 x) gd2 pk.ok (by
    rw [← sizeO_bytes, pk.bytes, List.length_append, List.length_append, List.length_take, List.length_drop, sizeO_bytes, sizeO_bytes, ← ec, sm]
    omega) (by dsimp only at up cost ⊢; omega) h4
  have es : Ue01.step g (.insert v p w) = Ue01.made g (Ue01.putIn (Ue01.built (w.length + 1) g.store none w).1 (u.map T.id) p (Ue01.built (w.length + 1) g.store none w).2) := by
    show (match g.versions[v]? with | none => _ | some r => _) = _
    rw [R.at e1]
    show (if (Ue01.sumAt g (u.map T.id)).size < p ∨ Ue01.SHOWN < w.length ∨ (w.any fun b => decide (255 < b)) = true then _ else if Ue01.VERSIONS ≤ g.versions.length then _ else if Ue01.MOST < (Ue01.sumAt g (u.map T.id)).size + w.length then _ else _) = _
    rw [R.sumAt e3, sumO_size, R.lens]
    rw [renO_size] at h1 h5
    rw [if_neg, if_neg (show ¬ Ue01.VERSIONS ≤ vs.length from (by omega : ¬ 60 ≤ vs.length)), if_neg (show ¬ Ue01.MOST < sizeO u + w.length from (by omega : ¬ 2 ^ 40 < sizeO u + w.length))]
    rintro (a | a | a)
    · omega
    · exact absurd (show 200 < w.length from a) (by omega)
    · obtain ⟨b, hb, q⟩ := List.any_eq_true.mp a
      have := h3 b hb
      have q' := of_decide_eq_true q
      omega
  rw [es]
  obtain ⟨k1, N, k2, k3, k4⟩ := k
  exact ⟨N, k1, k2, k3, k4⟩
theorem step_delete (R : Rel g n vs) (h : vs[v]? = some o) {a b : Nat} (h1 : a ≤ b) (h2 : b ≤ sizeO o) (h4 : vs.length < 60) :
    ∃ N : Nat, Rel (Ue01.step g (.delete v a b)).1 (takeOut sewC n o a b).2 (vs ++ [(takeOut sewC n o a b).1]) ∧
      (Ue01.step g (.delete v a b)).2 = [(vs.length : Int), (N : Int)] ∧ Cnt n (takeOut sewC n o a b).1.toList N ∧ Countable n (takeOut sewC n o a b).1.toList (takeOut sewC n o a b).2 := by
  obtain ⟨ρ, us, R⟩ := R
  obtain ⟨u, e1, rfl, e3⟩ := R.look h
  obtain ⟨ko, ks⟩ := R.ok _ (List.mem_of_getElem? h)
  obtain ⟨ρ', x, gd2, e⟩ := takeOut_sim (a := a) (b := b) R.good (R.fr u e3)
  obtain ⟨q1, q2⟩ := takeOut_fr (a := a) (b := b) (R.fr u e3)
  have po := takeOut_out a b (R.is u e3) rfl
  rw [R.size] at po
  have pk := takeOut_ok (n := n) (a := a) (b := b) ko ks h1
  rw [e] at pk ⊢
  have up := pk.up
  have cost := pk.cost
  have k := R.made_ po q1 q2 x gd2 pk.ok (by
    rw [← sizeO_bytes, pk.bytes, List.length_append, List.length_take, List.length_drop, sizeO_bytes]
    omega) (by dsimp only at up cost ⊢; omega) h4
  have es : Ue01.step g (.delete v a b) = Ue01.made g (Ue01.sewn (Ue01.parted (Ue01.parted g.store (u.map T.id) a).1 (Ue01.parted g.store (u.map T.id) a).2.2 (b - a)).1 (Ue01.parted g.store (u.map T.id) a).2.1 (Ue01.parted (Ue01.parted g.store (u.map T.id) a).1 (Ue01.parted g.store (u.map T.id) a).2.2 (b - a)).2.2) := by
    show (match g.versions[v]? with | none => _ | some r => _) = _
    rw [R.at e1]
    show (if b < a ∨ (Ue01.sumAt g (u.map T.id)).size < b then _ else if Ue01.VERSIONS ≤ g.versions.length then _ else _) = _
    rw [R.sumAt e3, sumO_size, R.lens]
    rw [renO_size] at h2
    rw [if_neg (by omega), if_neg (show ¬ Ue01.VERSIONS ≤ vs.length from (by omega : ¬ 60 ≤ vs.length))]
  rw [es]
  obtain ⟨k1, N, k2, k3, k4⟩ := k
  exact ⟨N, k1, k2, k3, k4⟩
theorem step_copy (R : Rel g n vs) (h : vs[v]? = some o) (h' : vs[v']? = some o') {a b p : Nat} (h1 : a ≤ b) (h2 : b ≤ sizeO o) (h3 : p ≤ sizeO o') (h4 : vs.length < 60) (h5 : sizeO o' + (b - a) ≤ 2 ^ 40) :
    ∃ N : Nat, Rel (Ue01.step g (.copy v a b v' p)).1 (putIn sewC (cut sewC n o a b).2 o' p (cut sewC n o a b).1).2 (vs ++ [(putIn sewC (cut sewC n o a b).2 o' p (cut sewC n o a b).1).1]) ∧
      (Ue01.step g (.copy v a b v' p)).2 = [(vs.length : Int), (N : Int)] ∧ Cnt n (putIn sewC (cut sewC n o a b).2 o' p (cut sewC n o a b).1).1.toList N ∧
      Countable n (putIn sewC (cut sewC n o a b).2 o' p (cut sewC n o a b).1).1.toList (putIn sewC (cut sewC n o a b).2 o' p (cut sewC n o a b).1).2 := by
  obtain ⟨ρ, us, R⟩ := R
  obtain ⟨u, e1, rfl, e3⟩ := R.look h
  obtain ⟨u', e1', rfl, e3'⟩ := R.look h'
  obtain ⟨ko, ks⟩ := R.ok _ (List.mem_of_getElem? h)
  obtain ⟨ko', ks'⟩ := R.ok _ (List.mem_of_getElem? h')
  obtain ⟨ρ1, x1, gd1, c1⟩ := cut_sim (a := a) (b := b) R.good (R.fr u e3)
  obtain ⟨f1, f2⟩ := cut_fr (a := a) (b := b) (R.fr u e3)
  have co := cut_out a b (R.is u e3) rfl
  rw [R.size] at co
  have ck := cut_ok (n := n) (a := a) (b := b) ko ks
  rw [c1] at ck ⊢
  dsimp only at *
  have eu' : u'.map (T.ren ρ) = u'.map (T.ren ρ1) := (x1.renO (R.fr u' e3')).symm
  obtain ⟨ρ', x, gd2, e⟩ := putIn_sim (p := p) gd1 ((R.fr u' e3').mono f2) f1
  obtain ⟨q1, q2⟩ := putIn_fr (p := p) ((R.fr u' e3').mono f2) f1
  have po := putIn_out p co.grow co.size ((R.is u' e3').grow co.grow) co.is rfl co.id
  have sm : sizeO ((cut sewS n u a b).1.map (T.ren ρ1)) = b - a := by
    have e4 := ck.bytes
    dsimp only at e4
    rw [← sizeO_bytes, e4, List.length_drop, List.length_take, sizeO_bytes]; omega
  have pk := putIn_ok (n := (cut sewS n u a b).2) (p := p) ko' ck.ok (by dsimp only; rw [sm]; exact h5)
  dsimp only at pk
  rw [eu', e] at pk ⊢
  have up := pk.up
  have cost := pk.cost
  have cb := ck.cost
  have k := R.made_ po q1 (Nat.le_trans f2 q2) (x1.trans f2 x) gd2 pk.ok (by
    rw [← sizeO_bytes, pk.bytes, List.length_append, List.length_append, List.length_take, List.length_drop, sizeO_bytes, sizeO_bytes, ← eu', sm]
    omega) (by dsimp only at up cost cb ⊢; omega) h4
  have es : Ue01.step g (.copy v a b v' p) = Ue01.made g (Ue01.putIn (Ue01.parted (Ue01.parted g.store (u.map T.id) b).1 (Ue01.parted g.store (u.map T.id) b).2.1 a).1 (u'.map T.id) p (Ue01.parted (Ue01.parted g.store (u.map T.id) b).1 (Ue01.parted g.store (u.map T.id) b).2.1 a).2.2) := by
    show (match g.versions[v]?, g.versions[v']? with | some r, some t => _ | _, _ => _) = _
    rw [R.at e1, R.at e1']
    show (if b < a ∨ (Ue01.sumAt g (u.map T.id)).size < b ∨ (Ue01.sumAt g (u'.map T.id)).size < p then _ else if Ue01.VERSIONS ≤ g.versions.length then _ else if Ue01.MOST < (Ue01.sumAt g (u'.map T.id)).size + (b - a) then _ else _) = _
    rw [R.sumAt e3, R.sumAt e3', sumO_size, sumO_size, R.lens]
    rw [renO_size] at h2 h3 h5
    rw [if_neg (by omega), if_neg (show ¬ Ue01.VERSIONS ≤ vs.length from (by omega : ¬ 60 ≤ vs.length)), if_neg (show ¬ Ue01.MOST < sizeO u' + (b - a) from (by omega : ¬ 2 ^ 40 < sizeO u' + (b - a)))]
  rw [es]
  obtain ⟨k1, N, k2, k3, k4⟩ := k
  exact ⟨N, k1, k2, k3, k4⟩
/-! ### refusals -/
theorem step_insert_no (R : Rel g n vs) (h : vs[v]? = none) (p : Nat) (w : List Nat) : Ue01.step g (.insert v p w) = (g, [-2]) := by
  show (match g.versions[v]? with | none => _ | some r => _) = _
  rw [R.no h]
theorem step_insert_bad (R : Rel g n vs) (h : vs[v]? = some o) {p : Nat} {w : List Nat} (k : sizeO o < p ∨ 200 < w.length ∨ ∃ b, b ∈ w ∧ 255 < b) : Ue01.step g (.insert v p w) = (g, [-1]) := by
  obtain ⟨r, e1, e2⟩ := R.sumAt h
  show (match g.versions[v]? with | none => _ | some r => _) = _
  rw [e1]
  show (if (Ue01.sumAt g r).size < p ∨ Ue01.SHOWN < w.length ∨ (w.any fun b => decide (255 < b)) = true then _ else _) = _
  rw [e2, sumO_size, if_pos]
  rcases k with k | k | ⟨b, hb, k⟩
  · exact .inl k
  · exact .inr (.inl k)
  · exact .inr (.inr (List.any_eq_true.mpr ⟨b, hb, decide_eq_true k⟩))
theorem step_insert_full (R : Rel g n vs) (h : vs[v]? = some o) {p : Nat} {w : List Nat} (h1 : p ≤ sizeO o) (h2 : w.length ≤ 200) (h3 : ∀ b, b ∈ w → b ≤ 255) : 
    (60 ≤ vs.length → Ue01.step g (.insert v p w) = (g, [-5])) ∧ (vs.length < 60 → 2 ^ 40 < sizeO o + w.length → Ue01.step g (.insert v p w) = (g, [-6])) := by
  obtain ⟨r, e1, e2⟩ := R.sumAt h
  have nb : ¬ (sizeO o < p ∨ Ue01.SHOWN < w.length ∨ (w.any fun b => decide (255 < b)) = true) := by
    rintro (a | a | a)
    · omega
    · exact absurd (show 200 < w.length from a) (by omega)
    · obtain ⟨b, hb, q⟩ := List.any_eq_true.mp a
      have := h3 b hb
      have q' := of_decide_eq_true q
      omega
  constructor
  · intro c
    show (match g.versions[v]? with | none => _ | some r => _) = _
    rw [e1]
    show (if (Ue01.sumAt g r).size < p ∨ Ue01.SHOWN < w.length ∨ (w.any fun b => decide (255 < b)) = true then _ else if Ue01.VERSIONS ≤ g.versions.length then _ else _) = _
    rw [e2, sumO_size, R.lens, if_neg nb, if_pos (show Ue01.VERSIONS ≤ vs.length from c)]
  · intro c d
    show (match g.versions[v]? with | none => _ | some r => _) = _
    rw [e1]
    show (if (Ue01.sumAt g r).size < p ∨ Ue01.SHOWN < w.length ∨ (w.any fun b => decide (255 < b)) = true then _ else if Ue01.VERSIONS ≤ g.versions.length then _ else if Ue01.MOST < (Ue01.sumAt g r).size + w.length then _ else _) = _
    rw [e2, sumO_size, R.lens, if_neg nb, if_neg (show ¬ Ue01.VERSIONS ≤ vs.length from (by omega : ¬ 60 ≤ vs.length)), if_pos (show Ue01.MOST < sizeO o + w.length from d)]
theorem step_delete_no (R : Rel g n vs) (h : vs[v]? = none) (a b : Nat) : Ue01.step g (.delete v a b) = (g, [-2]) := by
  show (match g.versions[v]? with | none => _ | some r => _) = _
  rw [R.no h]
theorem step_delete_bad (R : Rel g n vs) (h : vs[v]? = some o) {a b : Nat} (k : b < a ∨ sizeO o < b) : Ue01.step g (.delete v a b) = (g, [-1]) := by
  obtain ⟨r, e1, e2⟩ := R.sumAt h
  show (match g.versions[v]? with | none => _ | some r => _) = _
  rw [e1]
  show (if b < a ∨ (Ue01.sumAt g r).size < b then _ else _) = _
  rw [e2, sumO_size, if_pos k]
theorem step_delete_full (R : Rel g n vs) (h : vs[v]? = some o) {a b : Nat} (h1 : a ≤ b) (h2 : b ≤ sizeO o) (h3 : 60 ≤ vs.length) : Ue01.step g (.delete v a b) = (g, [-5]) := by
  obtain ⟨r, e1, e2⟩ := R.sumAt h
  show (match g.versions[v]? with | none => _ | some r => _) = _
  rw [e1]
  show (if b < a ∨ (Ue01.sumAt g r).size < b then _ else if Ue01.VERSIONS ≤ g.versions.length then _ else _) = _
  rw [e2, sumO_size, R.lens, if_neg (by omega), if_pos (show Ue01.VERSIONS ≤ vs.length from h3)]
theorem step_copy_no (R : Rel g n vs) (h : vs[v]? = none ∨ vs[v']? = none) (a b p : Nat) : Ue01.step g (.copy v a b v' p) = (g, [-2]) := by
  show (match g.versions[v]?, g.versions[v']? with | some r, some t => _ | _, _ => _) = _
  rcases h with h | h
  · rw [R.no h]
  · rw [R.no h]
    cases g.versions[v]? <;> rfl
theorem step_copy_bad (R : Rel g n vs) (h : vs[v]? = some o) (h' : vs[v']? = some o') {a b p : Nat} (k : b < a ∨ sizeO o < b ∨ sizeO o' < p) : Ue01.step g (.copy v a b v' p) = (g, [-1]) := by
  obtain ⟨r, e1, e2⟩ := R.sumAt h
  obtain ⟨r', e1', e2'⟩ := R.sumAt h'
  show (match g.versions[v]?, g.versions[v']? with | some r, some t => _ | _, _ => _) = _
  rw [e1, e1']
  show (if b < a ∨ (Ue01.sumAt g r).size < b ∨ (Ue01.sumAt g r').size < p then _ else _) = _
  rw [e2, e2', sumO_size, sumO_size, if_pos k]
theorem step_copy_full (R : Rel g n vs) (h : vs[v]? = some o) (h' : vs[v']? = some o') {a b p : Nat} (h1 : a ≤ b) (h2 : b ≤ sizeO o) (h3 : p ≤ sizeO o') :
    (60 ≤ vs.length → Ue01.step g (.copy v a b v' p) = (g, [-5])) ∧ (vs.length < 60 → 2 ^ 40 < sizeO o' + (b - a) → Ue01.step g (.copy v a b v' p) = (g, [-6])) := by
  obtain ⟨r, e1, e2⟩ := R.sumAt h
  obtain ⟨r', e1', e2'⟩ := R.sumAt h'
  constructor
  · intro c
    show (match g.versions[v]?, g.versions[v']? with | some r, some t => _ | _, _ => _) = _
    rw [e1, e1']
    show (if b < a ∨ (Ue01.sumAt g r).size < b ∨ (Ue01.sumAt g r').size < p then _ else if Ue01.VERSIONS ≤ g.versions.length then _ else _) = _
    rw [e2, e2', sumO_size, sumO_size, R.lens, if_neg (by omega), if_pos (show Ue01.VERSIONS ≤ vs.length from c)]
  · intro c d
    show (match g.versions[v]?, g.versions[v']? with | some r, some t => _ | _, _ => _) = _
    rw [e1, e1']
    show (if b < a ∨ (Ue01.sumAt g r).size < b ∨ (Ue01.sumAt g r').size < p then _ else if Ue01.VERSIONS ≤ g.versions.length then _ else if Ue01.MOST < (Ue01.sumAt g r').size + (b - a) then _ else _) = _
    rw [e2, e2', sumO_size, sumO_size, R.lens, if_neg (by omega), if_neg (show ¬ Ue01.VERSIONS ≤ vs.length from (by omega : ¬ 60 ≤ vs.length)), if_pos (show Ue01.MOST < sizeO o' + (b - a) from d)]
/-! ### what is read -/
theorem Rel.piece (R : Rel g n vs) (h : vs[v]? = some o) : ∃ r, g.versions[v]? = some r ∧ Ue01.sumAt g r = sumO o ∧ Ue01.highAt g r = htO o ∧ (∀ a b, b ≤ sizeO o → Ue01.pieceAt g r a b = ((bytesO o).take b).drop a) ∧
    (∀ p, Ue01.breaksAt g r p = ((bytesO o).take p).count 10) ∧ (∀ k, Ue01.startOf g r k = startB (bytesO o) k) ∧ (match r with | none => 0 | some i => (Ue01.cell g.store i).leaves) = leavesO o ∧ ∃ N, Ue01.nodesFrom g.store 0 r.toList = N ∧ Cnt 0 o.toList N := by
  obtain ⟨ρ, us, R⟩ := R
  obtain ⟨u, e1, rfl, e3⟩ := R.look h
  refine ⟨_, R.at e1, by rw [R.sumAt e3, renO_sum], ?_⟩
  rw [renO_ht, renO_bytes, renO_size, renO_leaves]
  have is := R.is u e3
  have fr := R.fr u e3
  refine ⟨?_, fun a b hb => ?_, fun p => ?_, fun k => ?_, ?_, _, rfl, ?_⟩
  · cases u with
    | none => rfl
    | some t => exact is.of.high
  · cases u with
    | none => simp [Ue01.pieceAt, bytesO]
    | some t =>
      show Ue01.piece (Ue01.high g.store t.id + 1) g.store t.id a b = _
      rw [is.of.high]
      exact piece_is _ a b is.of (Nat.lt_succ_self _) hb
  · cases u with
    | none => simp [Ue01.breaksAt, bytesO]
    | some t =>
      show Ue01.breaksTo (Ue01.high g.store t.id + 1) g.store t.id p = _
      rw [is.of.high]
      exact breaksTo_is _ p is.of (Nat.lt_succ_self _)
  · unfold Ue01.startOf startB
    by_cases c : k = 0
    · rw [if_pos c, if_pos c]
    · rw [if_neg c, if_neg c]
      cases u with
      | none => simp [bytesO, Ue01.behindIn]
      | some t =>
        show Ue01.behind (Ue01.high g.store t.id + 1) g.store t.id k = _
        rw [is.of.high]
        exact behind_is _ k is.of (Nat.lt_succ_self _) (by omega)
  · cases u with
    | none => rfl
    | some t => exact is.of.leaves
  · have tl : ∀ t, t ∈ u.toList → Is g.store t ∧ t.Dec := fun t ht => ⟨is t (toList_some ht), (fr t (toList_some ht)).2⟩
    have := nodesFrom_cnt (s := g.store) (f := 0) (ts := u.toList) (fun t ht => (tl t ht).1) (fun t ht => (tl t ht).2)
    rw [toList_map, toList_map]
    exact this.ren R.good.inj (fun i => by omega)
theorem step_part (R : Rel g n vs) (h : vs[v]? = some o) (a b : Nat) : Ue01.step g (.part v a b) = (g, if b < a ∨ sizeO o < b ∨ 200 < b - a then [-1] else ((b - a : Nat) : Int) :: Ue01.ints (((bytesO o).take b).drop a)) := by
  obtain ⟨r, e1, e2, e3, e4, _⟩ := R.piece h
  show (g, match g.versions[v]? with | none => _ | some r => _) = _
  rw [e1]
  show (g, if b < a ∨ (Ue01.sumAt g r).size < b ∨ Ue01.SHOWN < b - a then _ else _) = _
  rw [e2, sumO_size]
  by_cases c : b < a ∨ sizeO o < b ∨ 200 < b - a
  · rw [if_pos (show b < a ∨ sizeO o < b ∨ Ue01.SHOWN < b - a from c), if_pos c]
  · rw [if_neg (show ¬ (b < a ∨ sizeO o < b ∨ Ue01.SHOWN < b - a) from c), if_neg c, e4 a b (by omega)]
theorem step_line (R : Rel g n vs) (h : vs[v]? = some o) (k : Nat) : Ue01.step g (.line v k) = (g, if (bytesO o).count 10 < k then [-1] else
    Ue01.ints [startB (bytesO o) k, if k < (bytesO o).count 10 then startB (bytesO o) (k + 1) - 1 - startB (bytesO o) k else sizeO o - startB (bytesO o) k]) := by
  obtain ⟨r, e1, e2, e3, e4, e5, e6, _⟩ := R.piece h
  show (g, match g.versions[v]? with | none => _ | some r => _) = _
  rw [e1]
  show (g, if (Ue01.sumAt g r).breaks < k then _ else Ue01.ints [(Ue01.lineOf g r k).1, (Ue01.lineOf g r k).2]) = _
  unfold Ue01.lineOf
  simp only [e2, e6, sumO_size, sumO_breaks]
theorem step_where (R : Rel g n vs) (h : vs[v]? = some o) (p : Nat) : Ue01.step g (.where_ v p) = (g, if sizeO o < p then [-1] else
    Ue01.ints [((bytesO o).take p).count 10, p - startB (bytesO o) (((bytesO o).take p).count 10)]) := by
  obtain ⟨r, e1, e2, e3, e4, e5, e6, _⟩ := R.piece h
  show (g, match g.versions[v]? with | none => _ | some r => _) = _
  rw [e1]
  show (g, if (Ue01.sumAt g r).size < p then _ else Ue01.ints [Ue01.breaksAt g r p, p - Ue01.startOf g r (Ue01.breaksAt g r p)]) = _
  rw [e2, sumO_size, e5, e6]
theorem step_longest (R : Rel g n vs) (h : vs[v]? = some o) : Ue01.step g (.longest v) = (g, Ue01.ints [(Ue01.longestOf (sumO o)).2, (Ue01.longestOf (sumO o)).1]) := by
  obtain ⟨r, e1, e2, _⟩ := R.piece h
  show (g, match g.versions[v]? with | none => _ | some r => _) = _
  rw [e1]
  show (g, Ue01.ints [(Ue01.longestOf (Ue01.sumAt g r)).2, (Ue01.longestOf (Ue01.sumAt g r)).1]) = _
  rw [e2]
theorem step_shape (R : Rel g n vs) (h : vs[v]? = some o) : ∃ N : Nat, Ue01.step g (.shape v) = (g, Ue01.ints [sizeO o, (bytesO o).count 10, htO o, leavesO o, N]) ∧ Cnt 0 o.toList N := by
  obtain ⟨r, e1, e2, e3, e4, e5, e6, e7, N, e8, c⟩ := R.piece h
  refine ⟨N, ?_, c⟩
  show (g, match g.versions[v]? with | none => _ | some r => _) = _
  rw [e1]
  cases r with
  | none =>
    dsimp only at e7 ⊢
    rw [e2, e3, e8, sumO_size, sumO_breaks, e7]
  | some i =>
    dsimp only at e7 ⊢
    rw [e2, e3, e7, e8, sumO_size, sumO_breaks]
theorem step_alike (R : Rel g n vs) (h : vs[v]? = some o) (h' : vs[v']? = some o') (p q : Nat) : Ue01.step g (.alike v p v' q) = (g, if sizeO o < p ∨ sizeO o' < q then [-1] else
    Ue01.ints [Ue01.common (((bytesO o).take (min (sizeO o) (p + 200))).drop p) (((bytesO o').take (min (sizeO o') (q + 200))).drop q)]) := by
  obtain ⟨r, e1, e2, e3, e4, _⟩ := R.piece h
  obtain ⟨r', e1', e2', e3', e4', _⟩ := R.piece h'
  show (g, match g.versions[v]?, g.versions[v']? with | some r, some t => _ | _, _ => _) = _
  rw [e1, e1']
  show (g, if (Ue01.sumAt g r).size < p ∨ (Ue01.sumAt g r').size < q then _ else Ue01.ints [Ue01.common (Ue01.pieceAt g r p (min (Ue01.sumAt g r).size (p + 200))) (Ue01.pieceAt g r' q (min (Ue01.sumAt g r').size (q + 200)))]) = _
  rw [e2, e2', sumO_size, sumO_size, e4 _ _ (Nat.min_le_left _ _), e4' _ _ (Nat.min_le_left _ _)]
theorem step_read_no (R : Rel g n vs) (h : vs[v]? = none) : (∀ a b, Ue01.step g (.part v a b) = (g, [-2])) ∧ (∀ k, Ue01.step g (.line v k) = (g, [-2])) ∧ (∀ p, Ue01.step g (.where_ v p) = (g, [-2])) ∧ Ue01.step g (.longest v) = (g, [-2]) ∧ Ue01.step g (.shape v) = (g, [-2]) := by
  have e := R.no h
  refine ⟨fun a b => ?_, fun k => ?_, fun p => ?_, ?_, ?_⟩ <;>
  · show (g, match g.versions[v]? with | none => _ | some r => _) = _
    rw [e]
theorem step_alike_no (R : Rel g n vs) (h : vs[v]? = none ∨ vs[v']? = none) (p q : Nat) : Ue01.step g (.alike v p v' q) = (g, [-2]) := by
  show (g, match g.versions[v]?, g.versions[v']? with | some r, some t => _ | _, _ => _) = _
  rcases h with h | h
  · rw [R.no h]
  · rw [R.no h]
    cases g.versions[v]? <;> rfl
theorem Rel.countAll (R : Rel g n vs) : Countable 0 (vs.filterMap fun o => o) n := by
  obtain ⟨ρ, us, R⟩ := R
  have e : vs.filterMap (fun o => o) = (us.filterMap fun o => o).map (T.ren ρ) := by
    rw [R.ren, List.filterMap_map, List.map_filterMap]
    rfl
  have mem : ∀ t, t ∈ (us.filterMap fun o => o) → Is g.store t ∧ Fr n t := fun t ht => by
    obtain ⟨o, ho, eo⟩ := List.mem_filterMap.mp ht
    exact ⟨R.is o ho t eo, R.fr o ho t eo⟩
  rw [e]
  refine ⟨coh_ren R.good.inj (coh_of_is fun t ht => (mem t ht).1), cl_ren (fun i => by omega) (cl_of_dec fun t ht => (mem t ht).2.2), fun t ht => ?_⟩
  obtain ⟨t0, h0, rfl⟩ := List.mem_map.mp ht
  rw [below_iff, ren_ids]
  intro i hi
  obtain ⟨j, hj, rfl⟩ := List.mem_map.mp hi
  exact R.good.lt (below_iff.mp (mem t0 h0).2.1 j hj)
theorem step_all (R : Rel g n vs) : ∃ N : Nat, Ue01.step g .all = (g, Ue01.ints [vs.length, N]) ∧ Cnt 0 (vs.filterMap fun o => o) N := by
  have l := R.lens
  obtain ⟨ρ, us, R⟩ := R
  refine ⟨Ue01.nodesFrom g.store 0 (g.versions.filterMap fun r => r), ?_, ?_⟩
  · show (g, Ue01.ints [g.versions.length, _]) = _
    rw [l]
  · have e : vs.filterMap (fun o => o) = (us.filterMap fun o => o).map (T.ren ρ) := by
      rw [R.ren, List.filterMap_map, List.map_filterMap]
      rfl
    have e' : g.versions.filterMap (fun o => o) = (us.filterMap fun o => o).map T.id := by
      rw [R.vers, List.filterMap_map, List.map_filterMap]
      rfl
    have mem : ∀ t, t ∈ (us.filterMap fun o => o) → Is g.store t ∧ Fr n t := fun t ht => by
      obtain ⟨o, ho, eo⟩ := List.mem_filterMap.mp ht
      exact ⟨R.is o ho t eo, R.fr o ho t eo⟩
    rw [e, e']
    exact (nodesFrom_cnt (fun t ht => (mem t ht).1) (fun t ht => (mem t ht).2.2)).ren R.good.inj (fun i => by omega)
end
end Ph
set_option linter.all false
set_option maxRecDepth 20000
namespace Ph
/-! ## the list of calls -/
def ofN (w : List Nat) : List Int := w.map fun (n : Nat) => (n : Int)
/-- one call's numbers, and the call -/
inductive Seg : List Int → Ue01.Call → Prop
  | insert (v p : Nat) (w : List Nat) : w.length ≤ 220 → Seg (0 :: (v : Int) :: (p : Int) :: (w.length : Int) :: ofN w) (.insert v p w)
  | delete (v a b : Nat) : Seg [1, (v : Int), (a : Int), (b : Int)] (.delete v a b)
  | copy (v a b u p : Nat) : Seg [2, (v : Int), (a : Int), (b : Int), (u : Int), (p : Int)] (.copy v a b u p)
  | part (v a b : Nat) : Seg [3, (v : Int), (a : Int), (b : Int)] (.part v a b)
  | line (v k : Nat) : Seg [4, (v : Int), (k : Int)] (.line v k)
  | where_ (v p : Nat) : Seg [5, (v : Int), (p : Int)] (.where_ v p)
  | longest (v : Nat) : Seg [6, (v : Int)] (.longest v)
  | shape (v : Nat) : Seg [7, (v : Int)] (.shape v)
  | alike (v p u q : Nat) : Seg [8, (v : Int), (p : Int), (u : Int), (q : Int)] (.alike v p u q)
  | all : Seg [9] .all
theorem nat_of {z : Int} (h : Ue01Neutral.nat z = true) : ∃ n : Nat, z = (n : Int) := by
  unfold Ue01Neutral.nat at h
  rw [Bool.and_eq_true] at h
  have := of_decide_eq_true h.1
  exact ⟨z.toNat, by omega⟩
theorem nats_of : ∀ {l : List Int}, l.all Ue01Neutral.nat = true → ∃ w : List Nat, l = ofN w
  | [], _ => ⟨[], rfl⟩
  | z :: l, h => by
    rw [List.all_cons, (Bool.and_eq_true)] at h
    obtain ⟨n, rfl⟩ := nat_of h.1
    obtain ⟨w, rfl⟩ := nats_of h.2
    exact ⟨n :: w, rfl⟩
theorem toNat_ofN (w : List Nat) : (ofN w).map Int.toNat = w := by
  induction w with
  | nil => rfl
  | cons a w ih => simp only [ofN, List.map_cons, Int.toNat_natCast] at ih ⊢; rw [ih]
theorem callOf_some {l : List Int} {x : Ue01.Call} (h : Ue01Neutral.callOf l = some x) : ∃ w : List Nat, l = ofN w ∧ Ue01Neutral.callIn w = some x := by
  unfold Ue01Neutral.callOf at h
  by_cases c : l.all Ue01Neutral.nat = false
  · rw [if_pos c] at h; cases h
  · rw [if_neg c] at h
    obtain ⟨w, rfl⟩ := nats_of (by simpa using c)
    rw [toNat_ofN] at h
    exact ⟨w, rfl, h⟩
/-- how many whole numbers, how many rows -/
theorem shape_cases {p : Int} {n k : Nat} (h : PyUe01.shape p = some (n, k)) : (p = 0 ∧ n = 2 ∧ k = 1) ∨ (p = 1 ∧ n = 3 ∧ k = 0) ∨ (p = 2 ∧ n = 5 ∧ k = 0) ∨ (p = 3 ∧ n = 3 ∧ k = 0) ∨ (p = 4 ∧ n = 2 ∧ k = 0) ∨ (p = 5 ∧ n = 2 ∧ k = 0) ∨ (p = 6 ∧ n = 1 ∧ k = 0) ∨ (p = 7 ∧ n = 1 ∧ k = 0) ∨ (p = 8 ∧ n = 4 ∧ k = 0) ∨ (p = 9 ∧ n = 0 ∧ k = 0) := by
  unfold PyUe01.shape at h
  by_cases c0 : p = 0
  · rw [if_pos c0] at h; cases h; exact .inl ⟨c0, rfl, rfl⟩
  rw [if_neg c0] at h
  by_cases c1 : p = 1
  · rw [if_pos c1] at h; cases h; exact .inr (.inl ⟨c1, rfl, rfl⟩)
  rw [if_neg c1] at h
  by_cases c2 : p = 2
  · rw [if_pos c2] at h; cases h; exact .inr (.inr (.inl ⟨c2, rfl, rfl⟩))
  rw [if_neg c2] at h
  by_cases c3 : p = 3
  · rw [if_pos c3] at h; cases h; exact .inr (.inr (.inr (.inl ⟨c3, rfl, rfl⟩)))
  rw [if_neg c3] at h
  by_cases c4 : p = 4
  · rw [if_pos c4] at h; cases h; exact .inr (.inr (.inr (.inr (.inl ⟨c4, rfl, rfl⟩))))
  rw [if_neg c4] at h
  by_cases c5 : p = 5
  · rw [if_pos c5] at h; cases h; exact .inr (.inr (.inr (.inr (.inr (.inl ⟨c5, rfl, rfl⟩)))))
  rw [if_neg c5] at h
  by_cases c6 : p = 6
  · rw [if_pos c6] at h; cases h; exact .inr (.inr (.inr (.inr (.inr (.inr (.inl ⟨c6, rfl, rfl⟩))))))
  rw [if_neg c6] at h
  by_cases c7 : p = 7
  · rw [if_pos c7] at h; cases h; exact .inr (.inr (.inr (.inr (.inr (.inr (.inr (.inl ⟨c7, rfl, rfl⟩)))))))
  rw [if_neg c7] at h
  by_cases c8 : p = 8
  · rw [if_pos c8] at h; cases h; exact .inr (.inr (.inr (.inr (.inr (.inr (.inr (.inr (.inl ⟨c8, rfl, rfl⟩))))))))
  rw [if_neg c8] at h
  by_cases c9 : p = 9
  · rw [if_pos c9] at h; cases h; exact .inr (.inr (.inr (.inr (.inr (.inr (.inr (.inr (.inr ⟨c9, rfl, rfl⟩))))))))
  rw [if_neg c9] at h
  cases h
theorem take_of {l : List Int} {n : Nat} (h : ¬ l.length < n) : (l.take n).length = n := by rw [List.length_take]; omega
/-- one call of the list: its numbers stand at the list's beginning -/
theorem call_seg {l t : List Int} {c : List (List Int)} (h : PyFlat.call PyUe01.shape l = some (c, t)) (hb : PyInside.call PyUe01.bound c = true) (ha : Ue01Neutral.asked1 ((PyUe01.whole c).headD []) = true) :
    ∃ seg x, l = seg ++ t ∧ Seg seg x ∧ ∀ g, Ue01Neutral.step g ((PyUe01.whole c).headD []) = Ue01.step g x := by
  cases l with
  | nil => cases h
  | cons p r =>
    unfold PyFlat.call at h
    dsimp only at h
    cases hs : PyUe01.shape p with
    | none => (rw [hs] at h; cases h)
    | some nk =>
      obtain ⟨n, k⟩ := nk
      rw [hs] at h
      dsimp only at h
      by_cases hl : r.length < n
      · rw [if_pos hl] at h; cases h
      · rw [if_neg hl] at h
        have tl := take_of hl
        have td : r = r.take n ++ r.drop n := (List.take_append_drop n r).symm
        unfold Ue01Neutral.asked1 at ha
        obtain ⟨x, hx⟩ := Option.isSome_iff_exists.mp ha
        have stp : ∀ g, Ue01Neutral.step g ((PyUe01.whole c).headD []) = Ue01.step g x := fun g => by
          unfold Ue01Neutral.step
          rw [hx]
        obtain ⟨w, ew, hw⟩ := callOf_some hx
        rcases shape_cases hs with ⟨rfl, rfl, rfl⟩ | ⟨rfl, rfl, rfl⟩ | ⟨rfl, rfl, rfl⟩ | ⟨rfl, rfl, rfl⟩ | ⟨rfl, rfl, rfl⟩ | ⟨rfl, rfl, rfl⟩ | ⟨rfl, rfl, rfl⟩ | ⟨rfl, rfl, rfl⟩ | ⟨rfl, rfl, rfl⟩ | ⟨rfl, rfl, rfl⟩
        · -- insert
          match r, hl, h, td, tl with
          | [], hl, _, _, _ => simp at hl
          | [_], hl, _, _, _ => simp at hl
          | v :: q :: r2, _, h, _, _ =>
            simp only [List.drop_succ_cons, List.drop_zero, List.take_succ_cons, List.take_zero, PyFlat.rows] at h
            cases r2 with
            | nil => simp [PyFlat.row] at h
            | cons z r3 =>
              unfold PyFlat.row at h
              dsimp only at h
              by_cases hz : 0 ≤ z ∧ z.toNat ≤ r3.length
              · rw [if_pos hz] at h
                simp only [Option.some.injEq, Prod.mk.injEq] at h
                obtain ⟨rfl, rfl⟩ := h
                simp only [PyUe01.whole, List.headD_cons] at ew
                simp only [List.singleton_append, List.cons_append, List.nil_append] at ew
                match w, ew, hw with
                | [], ew, _ => simp [ofN] at ew
                | [_], ew, _ => simp [ofN] at ew
                | [_, _], ew, _ => simp [ofN] at ew
                | a0 :: a1 :: a2 :: w3, ew, hw =>
                  simp only [ofN, List.map_cons, List.cons.injEq] at ew
                  obtain ⟨e0, e1, e2, e3⟩ := ew
                  have a00 : a0 = 0 := by omega
                  subst a00
                  simp only [Ue01Neutral.callIn, Option.some.injEq] at hw
                  subst hw
                  have lw : w3.length = z.toNat := by
                    have := congrArg List.length e3
                    rw [List.length_take, List.length_map] at this
                    omega
                  have lb : w3.length ≤ 220 := by
                    have hb' : (PyInside.each [(0, 2199023255551), (0, 2199023255551)] [v, q] && PyInside.lists [(0, 2199023255551, 0, 220)] [r3.take z.toNat]) = true := hb
                    rw [Bool.and_eq_true] at hb'
                    have h2 := hb'.2
                    simp only [PyInside.lists, Bool.and_eq_true] at h2
                    have := of_decide_eq_true h2.1.1.2
                    rw [List.length_take] at this
                    omega
                  refine ⟨_, _, ?_, Seg.insert a1 a2 w3 lb, stp⟩
                  rw [e1, e2, ofN, ← e3, lw]
                  have ez : ((z.toNat : Nat) : Int) = z := by omega
                  rw [ez]
                  simp
              · rw [if_neg hz] at h; cases h
        · match r, hl, h, td, tl with
          | [], hl, _, _, _ => simp at hl
          | [_], hl, _, _, _ => simp at hl
          | [_, _], hl, _, _, _ => simp at hl
          | v :: a :: b :: r3, _, h, _, _ =>
            simp only [List.drop_succ_cons, List.drop_zero, List.take_succ_cons, List.take_zero, PyFlat.rows, Option.some.injEq, Prod.mk.injEq] at h
            obtain ⟨rfl, rfl⟩ := h
            simp only [PyUe01.whole, List.headD_cons, List.singleton_append, List.cons_append, List.nil_append] at ew
            match w, ew, hw with
            | [a0, a1, a2, a3], ew, hw =>
              simp only [ofN, List.map_cons, List.map_nil, List.cons.injEq, and_true] at ew
              obtain ⟨e0, rfl, rfl, rfl⟩ := ew
              have a00 : a0 = 1 := by omega
              subst a00
              simp only [Ue01Neutral.callIn, Option.some.injEq] at hw
              subst hw
              exact ⟨_, _, rfl, Seg.delete a1 a2 a3, stp⟩
            | [], ew, _ => simp [ofN] at ew
            | [_], ew, _ => simp [ofN] at ew
            | [_, _], ew, _ => simp [ofN] at ew
            | [_, _, _], ew, _ => simp [ofN] at ew
            | _ :: _ :: _ :: _ :: _ :: _, ew, _ => simp [ofN] at ew
        · match r, hl, h, td, tl with
          | [], hl, _, _, _ => simp at hl
          | [_], hl, _, _, _ => simp at hl
          | [_, _], hl, _, _, _ => simp at hl
          | [_, _, _], hl, _, _, _ => simp at hl
          | [_, _, _, _], hl, _, _, _ => simp at hl
          | v :: a :: b :: u :: q :: r3, _, h, _, _ =>
            simp only [List.drop_succ_cons, List.drop_zero, List.take_succ_cons, List.take_zero, PyFlat.rows, Option.some.injEq, Prod.mk.injEq] at h
            obtain ⟨rfl, rfl⟩ := h
            simp only [PyUe01.whole, List.headD_cons, List.singleton_append, List.cons_append, List.nil_append] at ew
            match w, ew, hw with
            | [a0, a1, a2, a3, a4, a5], ew, hw =>
              simp only [ofN, List.map_cons, List.map_nil, List.cons.injEq, and_true] at ew
              obtain ⟨e0, rfl, rfl, rfl, rfl, rfl⟩ := ew
              have a00 : a0 = 2 := by omega
              subst a00
              simp only [Ue01Neutral.callIn, Option.some.injEq] at hw
              subst hw
              exact ⟨_, _, rfl, Seg.copy a1 a2 a3 a4 a5, stp⟩
            | [], ew, _ => simp [ofN] at ew
            | [_], ew, _ => simp [ofN] at ew
            | [_, _], ew, _ => simp [ofN] at ew
            | [_, _, _], ew, _ => simp [ofN] at ew
            | [_, _, _, _], ew, _ => simp [ofN] at ew
            | [_, _, _, _, _], ew, _ => simp [ofN] at ew
            | _ :: _ :: _ :: _ :: _ :: _ :: _ :: _, ew, _ => simp [ofN] at ew
        · match r, hl, h, td, tl with
          | [], hl, _, _, _ => simp at hl
          | [_], hl, _, _, _ => simp at hl
          | [_, _], hl, _, _, _ => simp at hl
          | v :: a :: b :: r3, _, h, _, _ =>
            simp only [List.drop_succ_cons, List.drop_zero, List.take_succ_cons, List.take_zero, PyFlat.rows, Option.some.injEq, Prod.mk.injEq] at h
            obtain ⟨rfl, rfl⟩ := h
            simp only [PyUe01.whole, List.headD_cons, List.singleton_append, List.cons_append, List.nil_append] at ew
            match w, ew, hw with
            | [a0, a1, a2, a3], ew, hw =>
              simp only [ofN, List.map_cons, List.map_nil, List.cons.injEq, and_true] at ew
              obtain ⟨e0, rfl, rfl, rfl⟩ := ew
              have a00 : a0 = 3 := by omega
              subst a00
              simp only [Ue01Neutral.callIn, Option.some.injEq] at hw
              subst hw
              exact ⟨_, _, rfl, Seg.part a1 a2 a3, stp⟩
            | [], ew, _ => simp [ofN] at ew
            | [_], ew, _ => simp [ofN] at ew
            | [_, _], ew, _ => simp [ofN] at ew
            | [_, _, _], ew, _ => simp [ofN] at ew
            | _ :: _ :: _ :: _ :: _ :: _, ew, _ => simp [ofN] at ew
        · match r, hl, h, td, tl with
          | [], hl, _, _, _ => simp at hl
          | [_], hl, _, _, _ => simp at hl
          | v :: a :: r3, _, h, _, _ =>
            simp only [List.drop_succ_cons, List.drop_zero, List.take_succ_cons, List.take_zero, PyFlat.rows, Option.some.injEq, Prod.mk.injEq] at h
            obtain ⟨rfl, rfl⟩ := h
            simp only [PyUe01.whole, List.headD_cons, List.singleton_append, List.cons_append, List.nil_append] at ew
            match w, ew, hw with
            | [a0, a1, a2], ew, hw =>
              simp only [ofN, List.map_cons, List.map_nil, List.cons.injEq, and_true] at ew
              obtain ⟨e0, rfl, rfl⟩ := ew
              have a00 : a0 = 4 := by omega
              subst a00
              simp only [Ue01Neutral.callIn, Option.some.injEq] at hw
              subst hw
              exact ⟨_, _, rfl, Seg.line a1 a2, stp⟩
            | [], ew, _ => simp [ofN] at ew
            | [_], ew, _ => simp [ofN] at ew
            | [_, _], ew, _ => simp [ofN] at ew
            | _ :: _ :: _ :: _ :: _, ew, _ => simp [ofN] at ew
        · match r, hl, h, td, tl with
          | [], hl, _, _, _ => simp at hl
          | [_], hl, _, _, _ => simp at hl
          | v :: a :: r3, _, h, _, _ =>
            simp only [List.drop_succ_cons, List.drop_zero, List.take_succ_cons, List.take_zero, PyFlat.rows, Option.some.injEq, Prod.mk.injEq] at h
            obtain ⟨rfl, rfl⟩ := h
            simp only [PyUe01.whole, List.headD_cons, List.singleton_append, List.cons_append, List.nil_append] at ew
            match w, ew, hw with
            | [a0, a1, a2], ew, hw =>
              simp only [ofN, List.map_cons, List.map_nil, List.cons.injEq, and_true] at ew
              obtain ⟨e0, rfl, rfl⟩ := ew
              have a00 : a0 = 5 := by omega
              subst a00
              simp only [Ue01Neutral.callIn, Option.some.injEq] at hw
              subst hw
              exact ⟨_, _, rfl, Seg.where_ a1 a2, stp⟩
            | [], ew, _ => simp [ofN] at ew
            | [_], ew, _ => simp [ofN] at ew
            | [_, _], ew, _ => simp [ofN] at ew
            | _ :: _ :: _ :: _ :: _, ew, _ => simp [ofN] at ew
        · match r, hl, h, td, tl with
          | [], hl, _, _, _ => simp at hl
          | v :: r3, _, h, _, _ =>
            simp only [List.drop_succ_cons, List.drop_zero, List.take_succ_cons, List.take_zero, PyFlat.rows, Option.some.injEq, Prod.mk.injEq] at h
            obtain ⟨rfl, rfl⟩ := h
            simp only [PyUe01.whole, List.headD_cons, List.singleton_append, List.cons_append, List.nil_append] at ew
            match w, ew, hw with
            | [a0, a1], ew, hw =>
              simp only [ofN, List.map_cons, List.map_nil, List.cons.injEq, and_true] at ew
              obtain ⟨e0, rfl⟩ := ew
              have a00 : a0 = 6 := by omega
              subst a00
              simp only [Ue01Neutral.callIn, Option.some.injEq] at hw
              subst hw
              exact ⟨_, _, rfl, Seg.longest a1, stp⟩
            | [], ew, _ => simp [ofN] at ew
            | [_], ew, _ => simp [ofN] at ew
            | _ :: _ :: _ :: _, ew, _ => simp [ofN] at ew
        · match r, hl, h, td, tl with
          | [], hl, _, _, _ => simp at hl
          | v :: r3, _, h, _, _ =>
            simp only [List.drop_succ_cons, List.drop_zero, List.take_succ_cons, List.take_zero, PyFlat.rows, Option.some.injEq, Prod.mk.injEq] at h
            obtain ⟨rfl, rfl⟩ := h
            simp only [PyUe01.whole, List.headD_cons, List.singleton_append, List.cons_append, List.nil_append] at ew
            match w, ew, hw with
            | [a0, a1], ew, hw =>
              simp only [ofN, List.map_cons, List.map_nil, List.cons.injEq, and_true] at ew
              obtain ⟨e0, rfl⟩ := ew
              have a00 : a0 = 7 := by omega
              subst a00
              simp only [Ue01Neutral.callIn, Option.some.injEq] at hw
              subst hw
              exact ⟨_, _, rfl, Seg.shape a1, stp⟩
            | [], ew, _ => simp [ofN] at ew
            | [_], ew, _ => simp [ofN] at ew
            | _ :: _ :: _ :: _, ew, _ => simp [ofN] at ew
        · match r, hl, h, td, tl with
          | [], hl, _, _, _ => simp at hl
          | [_], hl, _, _, _ => simp at hl
          | [_, _], hl, _, _, _ => simp at hl
          | [_, _, _], hl, _, _, _ => simp at hl
          | v :: a :: b :: u :: r3, _, h, _, _ =>
            simp only [List.drop_succ_cons, List.drop_zero, List.take_succ_cons, List.take_zero, PyFlat.rows, Option.some.injEq, Prod.mk.injEq] at h
            obtain ⟨rfl, rfl⟩ := h
            simp only [PyUe01.whole, List.headD_cons, List.singleton_append, List.cons_append, List.nil_append] at ew
            match w, ew, hw with
            | [a0, a1, a2, a3, a4], ew, hw =>
              simp only [ofN, List.map_cons, List.map_nil, List.cons.injEq, and_true] at ew
              obtain ⟨e0, rfl, rfl, rfl, rfl⟩ := ew
              have a00 : a0 = 8 := by omega
              subst a00
              simp only [Ue01Neutral.callIn, Option.some.injEq] at hw
              subst hw
              exact ⟨_, _, rfl, Seg.alike a1 a2 a3 a4, stp⟩
            | [], ew, _ => simp [ofN] at ew
            | [_], ew, _ => simp [ofN] at ew
            | [_, _], ew, _ => simp [ofN] at ew
            | [_, _, _], ew, _ => simp [ofN] at ew
            | [_, _, _, _], ew, _ => simp [ofN] at ew
            | _ :: _ :: _ :: _ :: _ :: _ :: _, ew, _ => simp [ofN] at ew
        · simp only [List.drop_zero, List.take_zero, PyFlat.rows, Option.some.injEq, Prod.mk.injEq] at h
          obtain ⟨rfl, rfl⟩ := h
          simp only [PyUe01.whole, List.headD_cons] at ew
          match w, ew, hw with
          | [a0], ew, hw =>
            simp only [ofN, List.map_cons, List.map_nil, List.cons.injEq, and_true] at ew
            have a00 : a0 = 9 := by omega
            subst a00
            simp only [Ue01Neutral.callIn, Option.some.injEq] at hw
            subst hw
            exact ⟨_, _, rfl, Seg.all, stp⟩
          | [], ew, _ => simp [ofN] at ew
          | _ :: _ :: _, ew, _ => simp [ofN] at ew
end Ph
namespace Ph
/-- a line's begin lies within the text, and ahead of the next one's -/
theorem behindIn_bound : ∀ (w : List Nat) (k : Nat), 1 ≤ k → k ≤ w.count 10 → 1 ≤ Ue01.behindIn w k 0 ∧ Ue01.behindIn w k 0 ≤ w.length ∧ (k + 1 ≤ w.count 10 → Ue01.behindIn w k 0 < Ue01.behindIn w (k + 1) 0)
  | [], k, h1, h2 => by simp at h2; omega
  | b :: w, k, h1, h2 => by
    rw [Ue01.behindIn, Ue01.behindIn]
    by_cases c : b = 10
    · subst c
      rw [if_pos rfl, if_pos rfl]
      rw [List.count_cons_self] at h2 ⊢
      by_cases d : k ≤ 1
      · rw [if_pos d, if_neg (by omega), behindIn_shift w _ (0 + 1)]
        refine ⟨by omega, by simp, fun h3 => ?_⟩
        have := (behindIn_bound w (k + 1 - 1) (by omega) (by omega)).1
        omega
      · rw [if_neg d, if_neg (by omega), behindIn_shift w (k - 1) (0 + 1), behindIn_shift w (k + 1 - 1) (0 + 1)]
        obtain ⟨i1, i2, i3⟩ := behindIn_bound w (k - 1) (by omega) (by omega)
        refine ⟨by omega, by simp only [List.length_cons]; omega, fun h3 => ?_⟩
        have := i3 (by omega)
        rw [show k - 1 + 1 = k + 1 - 1 by omega] at this
        omega
    · rw [if_neg c, if_neg c]
      rw [List.count_cons_of_ne c] at h2 ⊢
      rw [behindIn_shift w k (0 + 1), behindIn_shift w (k + 1) (0 + 1)]
      obtain ⟨i1, i2, i3⟩ := behindIn_bound w k h1 h2
      refine ⟨by omega, by simp only [List.length_cons]; omega, fun h3 => ?_⟩
      have := i3 h3
      omega
theorem start_le (bs : List Nat) (k : Nat) (h : k ≤ bs.count 10) : startB bs k ≤ bs.length ∧ (k < bs.count 10 → startB bs k + 1 ≤ startB bs (k + 1)) := by
  unfold startB
  by_cases c : k = 0
  · subst c
    rw [if_pos rfl]
    refine ⟨Nat.zero_le _, fun h2 => ?_⟩
    rw [if_neg (by omega)]
    have := (behindIn_bound bs 1 (by omega) (by omega)).1
    omega
  · rw [if_neg c, if_neg (by omega)]
    obtain ⟨i1, i2, i3⟩ := behindIn_bound bs k (by omega) h
    exact ⟨i2, fun h2 => i3 h2⟩
end Ph
set_option linter.all false
set_option maxRecDepth 20000
namespace Ph
/-- the specification's step on a flat call -/
def fstep (g : Ue01.St) (c : List (List Int)) : Ue01.St × List Int := Ue01Neutral.step g (c.headD [])
/-- what is still to be answered -/
def due (g : Ue01.St) (raw : List (List (List Int))) : List Int := PyFlat.told (PyFlat.played fstep g (raw.map PyUe01.whole))
theorem due_nil (g : Ue01.St) : due g [] = [] := rfl
theorem due_cons (g : Ue01.St) (c : List (List Int)) (raw : List (List (List Int))) : due g (c :: raw) = (((fstep g (PyUe01.whole c)).2.length : Nat) : Int) :: ((fstep g (PyUe01.whole c)).2 ++ due (fstep g (PyUe01.whole c)).1 raw) := by
  simp [due, PyFlat.played, PyFlat.told]
/-- calls that may be handed in -/
def Good1 (c : List (List Int)) : Prop := PyInside.call PyUe01.bound c = true ∧ Ue01Neutral.asked1 ((PyUe01.whole c).headD []) = true
theorem asked_open {l : List Int} (h : PyUe01.answers_asked l = true) : ∃ raw, PyFlat.calls PyUe01.shape l.length l = some raw ∧ (∀ c, c ∈ raw → Good1 c) ∧ PyUe01.answers l = due Ue01.init raw ∧ (PyUe01.answers l).length ≤ 10000000 := by
  unfold PyUe01.answers_asked at h
  cases e : PyFlat.calls PyUe01.shape l.length l with
  | none => rw [e] at h; cases h
  | some raw =>
    rw [e] at h
    dsimp only at h
    rw [Bool.and_eq_true, Bool.and_eq_true, Bool.and_eq_true, Bool.and_eq_true] at h
    obtain ⟨⟨⟨⟨h1, h2⟩, h3⟩, h4⟩, h5⟩ := h
    refine ⟨raw, rfl, fun c hc => ⟨?_, ?_⟩, ?_, of_decide_eq_true h5⟩
    · exact List.all_eq_true.mp h3 c hc
    · unfold Ue01Neutral.asked at h4
      rw [Bool.and_eq_true] at h4
      exact List.all_eq_true.mp h4.1 _ (List.mem_map.mpr ⟨PyUe01.whole c, List.mem_map.mpr ⟨c, hc, rfl⟩, rfl⟩)
    · unfold PyUe01.answers PyUe01.calls
      rw [e]
      rfl
/-- the list of calls, one call further -/
theorem calls_next {f : Nat} {l : List Int} {raw : List (List (List Int))} (h : PyFlat.calls PyUe01.shape f l = some raw) (hg : ∀ c, c ∈ raw → Good1 c) (hl : l ≠ []) :
    ∃ f' c raw' seg t x, raw = c :: raw' ∧ l = seg ++ t ∧ Seg seg x ∧ PyFlat.calls PyUe01.shape f' t = some raw' ∧ ∀ g, fstep g (PyUe01.whole c) = Ue01.step g x := by
  cases l with
  | nil => exact absurd rfl hl
  | cons p r =>
    cases f with
    | zero => cases h
    | succ f =>
      unfold PyFlat.calls at h
      cases e : PyFlat.call PyUe01.shape (p :: r) with
      | none => rw [e] at h; cases h
      | some ct =>
        obtain ⟨c, t⟩ := ct
        rw [e] at h
        dsimp only at h
        cases e2 : PyFlat.calls PyUe01.shape f t with
        | none => rw [e2] at h; cases h
        | some raw' =>
          rw [e2] at h
          cases h
          obtain ⟨g1, g2⟩ := hg c (by simp)
          obtain ⟨seg, x, h1, h2, h3⟩ := call_seg e g1 g2
          exact ⟨f, c, raw', seg, t, x, rfl, h1, h2, e2, h3⟩
theorem calls_done {f : Nat} {raw : List (List (List Int))} (h : PyFlat.calls PyUe01.shape f [] = some raw) : raw = [] := by
  cases f <;> cases h <;> rfl
theorem Seg.pos {seg : List Int} {x : Ue01.Call} (h : Seg seg x) : 0 < seg.length := by cases h <;> simp
end Ph
set_option linter.all false
set_option maxRecDepth 20000
namespace Ph
open T
/-! ## what a node keeps of its lines -/
def SOk (s : Ue01.Sum) : Prop := s.breaks = 0 → s.head = s.size ∧ s.tail = s.size ∧ s.mid = none
theorem both_ok {a b : Ue01.Sum} (ha : SOk a) (hb : SOk b) : SOk (Ue01.both a b) := by
  intro h
  have h' : a.breaks + b.breaks = 0 := h
  have h1 : a.breaks = 0 := by omega
  have h2 : b.breaks = 0 := by omega
  obtain ⟨a1, a2, a3⟩ := ha h1
  obtain ⟨b1, b2, b3⟩ := hb h2
  unfold Ue01.both
  simp [h1, h2, a1, a2, a3, b1, b2, b3, Ue01.longer]
theorem one_ok (b : Nat) : SOk (Ue01.oneOf b) := by
  unfold Ue01.oneOf
  split
  · intro h; simp at h
  · intro _; simp
theorem zero_ok : SOk Ue01.zero := fun _ => ⟨rfl, rfl, rfl⟩
theorem sumOf_ok (w : List Nat) : SOk (Ue01.sumOf w) := by
  have key : ∀ (w : List Nat) (x : Ue01.Sum), SOk x → SOk (w.foldl (fun s b => Ue01.both s (Ue01.oneOf b)) x) := by
    intro w
    induction w with
    | nil => intro x h; exact h
    | cons b w ih => intro x h; exact ih _ (both_ok h (one_ok b))
  exact key w _ zero_ok
theorem sum_ok : ∀ t : T, SOk t.sum
  | .leaf _ w => sumOf_ok w
  | .fork _ a b => both_ok (sum_ok a) (sum_ok b)
/-- the longer one, the first of two as long -/
def lg (x y : Nat × Nat) : Nat × Nat := if x.1 < y.1 then y else x
def sh (k : Nat) (x : Nat × Nat) : Nat × Nat := (x.1, k + x.2)
theorem longer_some (x y : Nat × Nat) : Ue01.longer (some x) (some y) = some (lg x y) := by
  show (if x.1 < y.1 then some y else some x) = _
  unfold lg
  split <;> rfl
theorem longer_nn (x : Option (Nat × Nat)) : Ue01.longer x none = x := by cases x <;> rfl
theorem longer_n (x : Option (Nat × Nat)) : Ue01.longer none x = x := by cases x <;> rfl
theorem lg_assoc (x y z : Nat × Nat) : lg (lg x y) z = lg x (lg y z) := by
  unfold lg
  by_cases c1 : x.1 < y.1 <;> by_cases c2 : y.1 < z.1 <;> by_cases c3 : x.1 < z.1 <;> simp [c1, c2, c3] <;> omega
theorem longer_assoc (x y z : Option (Nat × Nat)) : Ue01.longer (Ue01.longer x y) z = Ue01.longer x (Ue01.longer y z) := by
  cases x with
  | none => simp only [longer_n]
  | some x =>
    cases y with
    | none => simp only [longer_n, longer_nn]
    | some y =>
      cases z with
      | none => simp only [longer_nn]
      | some z => simp only [longer_some, lg_assoc]
theorem sh_lg (k : Nat) (x y : Nat × Nat) : sh k (lg x y) = lg (sh k x) (sh k y) := by
  unfold lg sh
  simp only
  split <;> rfl
theorem longer_map (k : Nat) (x y : Option (Nat × Nat)) : (Ue01.longer x y).map (sh k) = Ue01.longer (x.map (sh k)) (y.map (sh k)) := by
  cases x with
  | none => simp only [longer_n, Option.map_none]
  | some x =>
    cases y with
    | none => simp only [longer_nn, Option.map_none]
    | some y => simp only [longer_some, Option.map_some, sh_lg]
def lo (s : Ue01.Sum) : Option (Nat × Nat) := Ue01.longer (some (s.head, 0)) (Ue01.longer s.mid (if s.breaks = 0 then none else some (s.tail, s.breaks)))
theorem lo_some (s : Ue01.Sum) : lo s = some (Ue01.longestOf s) := by
  show lo s = some ((lo s).getD (0, 0))
  have : ∃ x, lo s = some x := by
    unfold lo
    cases Ue01.longer s.mid (if s.breaks = 0 then none else some (s.tail, s.breaks)) with
    | none => exact ⟨_, rfl⟩
    | some y => exact ⟨_, longer_some _ _⟩
  obtain ⟨x, e⟩ := this
  rw [e]
  rfl
theorem lg_up {a b i : Nat} (h : a ≤ b) : lg (a, i) (b, i) = (b, i) := by
  unfold lg
  simp only
  split
  · rfl
  · rw [show a = b by omega]
theorem lg_dn {a b i j : Nat} (h : b ≤ a) : lg (a, i) (b, j) = (a, i) := by
  unfold lg
  simp only
  rw [if_neg (by omega)]
theorem longest_both {a b : Ue01.Sum} (ha : SOk a) (hb : SOk b) : Ue01.longestOf (Ue01.both a b) = lg (lg (Ue01.longestOf a) (a.tail + b.head, a.breaks)) (sh a.breaks (Ue01.longestOf b)) := by
  have e : some (Ue01.longestOf (Ue01.both a b)) = some (lg (lg (Ue01.longestOf a) (a.tail + b.head, a.breaks)) (sh a.breaks (Ue01.longestOf b))) := by
    rw [← lo_some, ← longer_some, ← longer_some, ← lo_some, show some (sh a.breaks (Ue01.longestOf b)) = (some (Ue01.longestOf b)).map (sh a.breaks) from rfl, ← lo_some]
    unfold lo
    rw [longer_map, longer_map]
    show Ue01.longer (some (if a.breaks = 0 then a.head + b.head else a.head, 0)) (Ue01.longer (Ue01.longer a.mid (Ue01.longer (if a.breaks = 0 ∨ b.breaks = 0 then none else some (a.tail + b.head, a.breaks)) (b.mid.map (sh a.breaks)))) (if a.breaks + b.breaks = 0 then none else some (if b.breaks = 0 then a.tail + b.tail else b.tail, a.breaks + b.breaks))) = _
    have hsh : (some (b.head, 0) : Option (Nat × Nat)).map (sh a.breaks) = some (b.head, a.breaks) := rfl
    rw [hsh]
    by_cases h1 : a.breaks = 0
    · obtain ⟨a1, a2, a3⟩ := ha h1
      by_cases h2 : b.breaks = 0
      · obtain ⟨b1, b2, b3⟩ := hb h2
        rw [h1, h2, a1, a2, a3, b1, b2, b3]
        simp only [if_true, or_true, Nat.add_zero, Option.map_none, longer_n, longer_nn, longer_some]
        rw [lg_up (by omega), lg_dn (by omega)]
      · rw [h1, a1, a2, a3]
        simp only [if_true, true_or, longer_n, Nat.zero_add, if_neg h2, Option.map_some, longer_nn]
        rw [longer_some, lg_up (by omega), ← longer_assoc (some (a.size + b.head, 0)) (some (b.head, 0)), longer_some, lg_dn (by omega)]
        simp only [sh, Nat.zero_add]
    · have h3 : ¬ a.breaks + b.breaks = 0 := by omega
      simp only [if_neg h1, if_neg h3]
      by_cases h2 : b.breaks = 0
      · obtain ⟨b1, b2, b3⟩ := hb h2
        rw [h2, b1, b2, b3]
        simp only [if_true, or_true, Nat.add_zero, Option.map_none, longer_n, longer_nn]
        rw [longer_assoc, longer_assoc, longer_assoc, longer_some (a.tail + b.size, a.breaks), lg_dn (by omega), longer_some (a.tail, a.breaks), lg_up (by omega)]
      · have h4 : ¬ (a.breaks = 0 ∨ b.breaks = 0) := by omega
        simp only [if_neg h2, if_neg h4, Option.map_some]
        simp only [longer_assoc]
        rw [← longer_assoc (some (a.tail, a.breaks)), longer_some (a.tail, a.breaks), lg_up (by omega), ← longer_assoc (some (a.tail + b.head, a.breaks)) (some (b.head, a.breaks)), longer_some (a.tail + b.head, a.breaks) (b.head, a.breaks), lg_dn (by omega)]
        rfl
  exact Option.some.inj e
/-! ### the sizes of a leaf's lines -/
/-- the first of the longest -/
def Best (l : List Nat) (x : Nat × Nat) : Prop := l[x.2]? = some x.1 ∧ (∀ z, z ∈ l → z ≤ x.1) ∧ ∀ i z, i < x.2 → l[i]? = some z → z < x.1
theorem Best.unique {l : List Nat} {x : Nat × Nat} (h : Best l x) {m j : Nat} (h1 : m ∈ l) (h2 : ∀ z, z ∈ l → z ≤ m) (h3 : l[j]? = some m) (h4 : ∀ i, i < j → l[i]? ≠ some m) : x = (m, j) := by
  obtain ⟨a, b, c⟩ := h
  have e1 : x.1 = m := Nat.le_antisymm (h2 _ (List.mem_of_getElem? a)) (b m h1)
  have e2 : x.2 = j := by
    rcases Nat.lt_trichotomy x.2 j with q | q | q
    · exact absurd (e1 ▸ a) (h4 _ q)
    · exact q
    · have := c j m q h3
      omega
  rw [← e1, ← e2]
/-- the sizes l ++ [x] of the lines of what has the sum s -/
structure LinesOf (l : List Nat) (x : Nat) (s : Ue01.Sum) : Prop where
  ok : SOk s
  brk : s.breaks = l.length
  tail : s.tail = x
  head : (l ++ [x])[0]? = some s.head
  best : Best (l ++ [x]) (Ue01.longestOf s)
theorem LinesOf.zero : LinesOf [] 0 Ue01.zero := by
  refine ⟨zero_ok, rfl, rfl, rfl, rfl, fun z hz => ?_, fun i z hi => ?_⟩
  · have : z = 0 := by simpa using hz
    subst this
    exact Nat.le_refl _
  · exact absurd (show i < 0 from hi) (Nat.not_lt_zero _)
theorem LinesOf.feed {l : List Nat} {x : Nat} {s : Ue01.Sum} (h : LinesOf l x s) : LinesOf (l ++ [x]) 0 (Ue01.both s (Ue01.oneOf 10)) := by
  obtain ⟨ok, brk, tl, hd, b1, b2, b3⟩ := h
  have o : Ue01.oneOf 10 = ⟨1, 1, 0, 0, none⟩ := rfl
  have tx : x ≤ (Ue01.longestOf s).1 := b2 x (by simp)
  have e : Ue01.longestOf (Ue01.both s (Ue01.oneOf 10)) = Ue01.longestOf s := by
    rw [longest_both ok (one_ok 10), o]
    show lg (lg (Ue01.longestOf s) (s.tail + 0, s.breaks)) (sh s.breaks (0, 0)) = _
    rw [tl]
    have e1 : lg (Ue01.longestOf s) (x + 0, s.breaks) = Ue01.longestOf s := lg_dn (a := (Ue01.longestOf s).1) (i := (Ue01.longestOf s).2) tx
    rw [e1]
    exact lg_dn (a := (Ue01.longestOf s).1) (i := (Ue01.longestOf s).2) (Nat.zero_le _)
  have hj : (Ue01.longestOf s).2 < (l ++ [x]).length := (List.getElem?_eq_some_iff.mp b1).1
  refine ⟨both_ok ok (one_ok 10), ?_, ?_, ?_, ?_⟩
  · show s.breaks + 1 = _
    simp [brk]
  · rfl
  · rw [List.getElem?_append_left (by simp), hd]
    show _ = some (if s.breaks = 0 then s.head + 0 else s.head)
    split <;> rfl
  · rw [e]
    refine ⟨by rw [List.getElem?_append_left hj]; exact b1, fun z hz => ?_, fun i z hi hz => ?_⟩
    · rcases List.mem_append.mp hz with q | q
      · exact b2 z q
      · have : z = 0 := by simpa using q
        omega
    · rw [List.getElem?_append_left (by omega)] at hz
      exact b3 i z hi hz
theorem LinesOf.byte {l : List Nat} {x : Nat} {s : Ue01.Sum} (h : LinesOf l x s) {b : Nat} (hb : b ≠ 10) : LinesOf l (x + 1) (Ue01.both s (Ue01.oneOf b)) := by
  obtain ⟨ok, brk, tl, hd, b1, b2, b3⟩ := h
  have o : Ue01.oneOf b = ⟨1, 0, 1, 1, none⟩ := by unfold Ue01.oneOf; rw [if_neg hb]
  have tx : x ≤ (Ue01.longestOf s).1 := b2 x (by simp)
  have hj : (Ue01.longestOf s).2 < (l ++ [x]).length := (List.getElem?_eq_some_iff.mp b1).1
  have at_ : ∀ i, i < l.length → (l ++ [x + 1])[i]? = (l ++ [x])[i]? := fun i hi => by rw [List.getElem?_append_left hi, List.getElem?_append_left hi]
  have e : Ue01.longestOf (Ue01.both s (Ue01.oneOf b)) = lg (Ue01.longestOf s) (x + 1, l.length) := by
    rw [longest_both ok (one_ok b), o]
    show lg (lg (Ue01.longestOf s) (s.tail + 1, s.breaks)) (sh s.breaks (1, 0)) = _
    rw [tl, brk]
    have q : ∀ y : Nat × Nat, 1 ≤ y.1 → lg y (sh l.length (1, 0)) = y := fun y hy => lg_dn (a := y.1) (i := y.2) hy
    refine q _ ?_
    unfold lg
    simp only
    split <;> omega
  refine ⟨both_ok ok (one_ok b), ?_, ?_, ?_, ?_⟩
  · rw [o]; exact brk
  · rw [o]
    show s.tail + 1 = _
    rw [tl]
  · rw [o]
    show _ = some (if s.breaks = 0 then s.head + 1 else s.head)
    rw [brk]
    cases l with
    | nil =>
      simp only [List.nil_append, List.getElem?_cons_zero, Option.some.injEq] at hd
      simp [hd]
    | cons y l =>
      simp only [List.cons_append, List.getElem?_cons_zero, Option.some.injEq] at hd
      simp [hd]
  · rw [e]
    unfold lg
    simp only
    by_cases c : (Ue01.longestOf s).1 < x + 1
    · rw [if_pos c]
      refine ⟨by simp, fun z hz => ?_, fun i z hi hz => ?_⟩
      · rcases List.mem_append.mp hz with q | q
        · have := b2 z (List.mem_append_left _ q)
          simp only
          omega
        · have : z = x + 1 := by simpa using q
          simp only
          omega
      · simp only at hi ⊢
        rw [at_ i hi] at hz
        have := b2 z (List.mem_of_getElem? hz)
        omega
    · rw [if_neg c]
      have jl : (Ue01.longestOf s).2 < l.length := by
        rcases Nat.lt_or_ge (Ue01.longestOf s).2 l.length with q | q
        · exact q
        · have e2 : (Ue01.longestOf s).2 = l.length := by simp at hj; omega
          rw [e2] at b1
          simp at b1
          omega
      refine ⟨by rw [at_ _ jl]; exact b1, fun z hz => ?_, fun i z hi hz => ?_⟩
      · rcases List.mem_append.mp hz with q | q
        · exact b2 z (List.mem_append_left _ q)
        · have : z = x + 1 := by simpa using q
          omega
      · rw [at_ i (by omega)] at hz
        exact b3 i z hi hz
theorem sumOf_snoc (w : List Nat) (b : Nat) : Ue01.sumOf (w ++ [b]) = Ue01.both (Ue01.sumOf w) (Ue01.oneOf b) := by
  unfold Ue01.sumOf
  rw [List.foldl_append]
  rfl
/-! ### feeds ahead of a place -/
theorem take_count (a b : List Nat) (p : Nat) : ((a ++ b).take p).count 10 = if p ≤ a.length then (a.take p).count 10 else a.count 10 + (b.take (p - a.length)).count 10 := by
  split
  · rename_i h
    rw [List.take_append_of_le_length h]
  · rename_i h
    rw [List.take_append, List.take_of_length_le (by omega), List.count_append]
/-! ### alike -/
theorem common_take : ∀ (a b : List Nat) (m : Nat), min a.length b.length ≤ m → Ue01.common (a.take m) (b.take m) = Ue01.common a b
  | [], b, m, _ => by cases b <;> cases m <;> simp [Ue01.common]
  | x :: a, [], m, _ => by cases m <;> simp [Ue01.common]
  | x :: a, y :: b, 0, h => by simp at h
  | x :: a, y :: b, m + 1, h => by
    have ih := common_take a b m (by simp at h; omega)
    simp only [List.take_succ_cons, Ue01.common, ih]
theorem common_le : ∀ (a b : List Nat), Ue01.common a b ≤ a.length ∧ Ue01.common a b ≤ b.length
  | [], b => by cases b <;> simp [Ue01.common]
  | x :: a, [] => by simp [Ue01.common]
  | x :: a, y :: b => by
    have := common_le a b
    unfold Ue01.common
    split <;> simp <;> omega
/-- the first i are the same: common is i and what is common behind them -/
theorem common_drop : ∀ (a b : List Nat) (i : Nat), i ≤ a.length → i ≤ b.length → (∀ j, j < i → a[j]? = b[j]?) → Ue01.common a b = i + Ue01.common (a.drop i) (b.drop i)
  | a, b, 0, _, _, _ => by simp
  | [], b, i + 1, h, _, _ => by simp at h
  | x :: a, [], i + 1, _, h, _ => by simp at h
  | x :: a, y :: b, i + 1, h1, h2, h => by
    have e : x = y := by simpa using h 0 (by omega)
    subst e
    have ih := common_drop a b i (by simpa using h1) (by simpa using h2) fun j hj => by simpa using h (j + 1) (by omega)
    simp only [Ue01.common, if_true, List.drop_succ_cons, ih]
    omega
theorem alike_cut {a b : List Nat} {p q : Nat} (hp : p ≤ a.length) (hq : q ≤ b.length) : Ue01.common ((a.take (min a.length (p + 200))).drop p) ((b.take (min b.length (q + 200))).drop q) =
    Ue01.common ((a.take (p + min 200 (min (a.length - p) (b.length - q)))).drop p) ((b.take (q + min 200 (min (a.length - p) (b.length - q)))).drop q) := by
  have key : ∀ (c : List Nat) (r m : Nat), r ≤ c.length → m ≤ 200 → m ≤ c.length - r → (c.take (r + m)).drop r = ((c.take (min c.length (r + 200))).drop r).take m := fun c r m h1 h2 h3 => by
    rw [List.drop_take, List.drop_take, List.take_take]
    congr 1
    omega
  rw [key a p _ hp (by omega) (by omega), key b q _ hq (by omega) (by omega), common_take]
  simp only [List.length_drop, List.length_take]
  omega
/-! ### counting in one of the trees -/
theorem Countable.of_sub {f n : Nat} {ts us : List T} (c : Countable f ts n) (h : ∀ t, t ∈ us → t ∈ ts) : Countable f us n := by
  have hs : ∀ u, u ∈ subsL us → u ∈ subsL ts := fun u hu => by
    obtain ⟨t, ht, q⟩ := mem_subsL.mp hu
    exact mem_subsL.mpr ⟨t, h t ht, q⟩
  exact ⟨fun u v hu hv e => c.coh u v (hs u hu) (hs v hv) e, fun u hu => c.cl u (hs u hu), fun t ht => c.below t (h t ht)⟩
end Ph
namespace Ph
theorem start_at (bs : List Nat) (p : Nat) : startB bs ((bs.take p).count 10) ≤ p ∧ (bs.take p).count 10 ≤ bs.count 10 := by
  have hc : (bs.take p).count 10 ≤ bs.count 10 := (List.take_sublist p bs).count_le 10
  refine ⟨?_, hc⟩
  by_cases c : (bs.take p).count 10 = 0
  · rw [c]
    exact Nat.zero_le _
  · have e : startB bs ((bs.take p).count 10) = startB (bs.take p) ((bs.take p).count 10) := by
      unfold startB
      rw [if_neg c, if_neg c]
      have := behindIn_left (bs.take p) (bs.drop p) ((bs.take p).count 10) (by omega) (Nat.le_refl _)
      rw [List.take_append_drop] at this
      exact this
    rw [e]
    have := (start_le (bs.take p) _ (Nat.le_refl _)).1
    rw [List.length_take] at this
    omega
end Ph
set_option Elab.async false
set_option linter.all false
set_option maxRecDepth 100000
set_option genInjectivity false
set_option genSizeOf false
set_option genSizeOfSpec false
namespace Pw
open PySem PySem.Spec PyProof.Rows L2
/-- a def of the text, a method, an __init__ -/
structure Gf (K : PySem.W.Frag) (mg : Str → Option Value) (x : Str) (st : Stmt) (ps : List Str) (f : Addr) (fd : FuncData) : Prop where
  fn : Fun K x x st f fd
  at_ : mg x = some (.ref f)
  bd : Binds K fd ps []
structure Mf (K : PySem.W.Frag) (C : Addr) (x qual : Str) (st : Stmt) (ps : List Str) (f : Addr) (fd : FuncData) : Prop where
  fn : Fun K x qual st f fd
  me : Meth K C x f
  bd : Binds K fd ps []
structure If (K : PySem.W.Frag) (qual : Str) (st : Stmt) (ps : List Str) (f : Addr) (fd : FuncData) : Prop where
  fn : Fun K "__init__" qual st f fd
  bd : Binds K fd ps []
structure Gd (K : PySem.W.Frag) (mg : Str → Option Value) (x : Str) (st : Stmt) (ps : List Str) (da : Addr) (t : Tok) (f : Addr) (fd : FuncData) : Prop where
  fn : Lx.FunD K x x st da [.int 0 t] f fd
  at_ : mg x = some (.ref f)
  bd : Binds K fd ps []
  bd1 : Binds K fd ps [.int 0 t]
/-- the classes -/
structure Cs where
  CL : Addr
  CF : Addr
  CM : Addr
  CH : Addr
/-- the text as it stands behind the top -/
structure TX (K : PySem.W.Frag) (mg : Str → Option Value) extends Cs where
  cl_Leaf : Cls K CL
  cl_Fork : Cls K CF
  cl_Maker : Cls K CM
  cl_House : Cls K CH
  neLM : CL ≠ CM
  neFM : CF ≠ CM

  aL : ∀ f, f ∈ (["number", "content", "height", "size", "leaves", "feeds", "head", "tail", "longest"] : List Str) → NoAttr K CL f
  aF : ∀ f, f ∈ (["number", "first", "second", "height", "size", "leaves", "feeds", "head", "tail", "longest"] : List Str) → NoAttr K CF f
  aM : ∀ f, f ∈ (["made"] : List Str) → NoAttr K CM f
  aH : ∀ f, f ∈ (["maker", "trees"] : List Str) → NoAttr K CH f
  c_Leaf : mg "Leaf" = some (.ref CL)
  c_Fork : mg "Fork" = some (.ref CF)
  c_Maker : mg "Maker" = some (.ref CM)
  c_House : mg "House" = some (.ref CH)
  fi_Leaf : Addr
  di_Leaf : FuncData
  i_Leaf : If K "Leaf.__init__" s_Leaf_init ["self", "number", "content"] fi_Leaf di_Leaf
  mk_Leaf : Mk K CL fi_Leaf
  fi_Fork : Addr
  di_Fork : FuncData
  i_Fork : If K "Fork.__init__" s_Fork_init ["self", "number", "first", "second"] fi_Fork di_Fork
  mk_Fork : Mk K CF fi_Fork
  fi_Maker : Addr
  di_Maker : FuncData
  i_Maker : If K "Maker.__init__" s_Maker_init ["self"] fi_Maker di_Maker
  mk_Maker : Mk K CM fi_Maker
  fi_House : Addr
  di_House : FuncData
  i_House : If K "House.__init__" s_House_init ["self"] fi_House di_House
  mk_House : Mk K CH fi_House
  f_Maker_leaf : Addr
  d_Maker_leaf : FuncData
  m_Maker_leaf : Mf K CM "leaf" "Maker.leaf" s_Maker_leaf ["self", "content"] f_Maker_leaf d_Maker_leaf
  f_Maker_over : Addr
  d_Maker_over : FuncData
  m_Maker_over : Mf K CM "over" "Maker.over" s_Maker_over ["self", "first", "second"] f_Maker_over d_Maker_over
  f_House_has : Addr
  d_House_has : FuncData
  m_House_has : Mf K CH "has" "House.has" s_House_has ["self", "version"] f_House_has d_House_has
  f_House_is_full : Addr
  d_House_is_full : FuncData
  m_House_is_full : Mf K CH "is_full" "House.is_full" s_House_is_full ["self"] f_House_is_full d_House_is_full
  f_House_keep : Addr
  d_House_keep : FuncData
  m_House_keep : Mf K CH "keep" "House.keep" s_House_keep ["self", "tree", "earlier"] f_House_keep d_House_keep
  f_line_sizes : Addr
  d_line_sizes : FuncData
  g_line_sizes : Gf K mg "line_sizes" s_line_sizes ["content"] f_line_sizes d_line_sizes
  f_longest_over : Addr
  d_longest_over : FuncData
  g_longest_over : Gf K mg "longest_over" s_longest_over ["first", "second"] f_longest_over d_longest_over
  f_count_nodes : Addr
  d_count_nodes : FuncData
  a_count_nodes : Addr
  t_count_nodes : Tok
  g_count_nodes : Gd K mg "count_nodes" s_count_nodes ["trees", "earlier"] a_count_nodes t_count_nodes f_count_nodes d_count_nodes
  f_size_of : Addr
  d_size_of : FuncData
  g_size_of : Gf K mg "size_of" s_size_of ["tree"] f_size_of d_size_of
  f_feeds_of : Addr
  d_feeds_of : FuncData
  g_feeds_of : Gf K mg "feeds_of" s_feeds_of ["tree"] f_feeds_of d_feeds_of
  f_height_of : Addr
  d_height_of : FuncData
  g_height_of : Gf K mg "height_of" s_height_of ["tree"] f_height_of d_height_of
  f_leaves_of : Addr
  d_leaves_of : FuncData
  g_leaves_of : Gf K mg "leaves_of" s_leaves_of ["tree"] f_leaves_of d_leaves_of
  f_longest_of : Addr
  d_longest_of : FuncData
  g_longest_of : Gf K mg "longest_of" s_longest_of ["tree"] f_longest_of d_longest_of
  f_bytes_between : Addr
  d_bytes_between : FuncData
  g_bytes_between : Gf K mg "bytes_between" s_bytes_between ["tree", "begin", "end"] f_bytes_between d_bytes_between
  f_place_behind_feed : Addr
  d_place_behind_feed : FuncData
  g_place_behind_feed : Gf K mg "place_behind_feed" s_place_behind_feed ["tree", "count"] f_place_behind_feed d_place_behind_feed
  f_line_begin : Addr
  d_line_begin : FuncData
  g_line_begin : Gf K mg "line_begin" s_line_begin ["tree", "line"] f_line_begin d_line_begin
  f_line_end : Addr
  d_line_end : FuncData
  g_line_end : Gf K mg "line_end" s_line_end ["tree", "line"] f_line_end d_line_end
  f_feeds_ahead : Addr
  d_feeds_ahead : FuncData
  g_feeds_ahead : Gf K mg "feeds_ahead" s_feeds_ahead ["tree", "place"] f_feeds_ahead d_feeds_ahead
  f_count_alike : Addr
  d_count_alike : FuncData
  g_count_alike : Gf K mg "count_alike" s_count_alike ["some", "others"] f_count_alike d_count_alike
  f_with_behind : Addr
  d_with_behind : FuncData
  g_with_behind : Gf K mg "with_behind" s_with_behind ["maker", "x", "t"] f_with_behind d_with_behind
  f_with_ahead : Addr
  d_with_ahead : FuncData
  g_with_ahead : Gf K mg "with_ahead" s_with_ahead ["maker", "x", "t"] f_with_ahead d_with_ahead
  f_joined : Addr
  d_joined : FuncData
  g_joined : Gf K mg "joined" s_joined ["maker", "a", "b"] f_joined d_joined
  f_first_leaf : Addr
  d_first_leaf : FuncData
  g_first_leaf : Gf K mg "first_leaf" s_first_leaf ["tree"] f_first_leaf d_first_leaf
  f_last_leaf : Addr
  d_last_leaf : FuncData
  g_last_leaf : Gf K mg "last_leaf" s_last_leaf ["tree"] f_last_leaf d_last_leaf
  f_without_first_leaf : Addr
  d_without_first_leaf : FuncData
  g_without_first_leaf : Gf K mg "without_first_leaf" s_without_first_leaf ["maker", "tree"] f_without_first_leaf d_without_first_leaf
  f_without_last_leaf : Addr
  d_without_last_leaf : FuncData
  g_without_last_leaf : Gf K mg "without_last_leaf" s_without_last_leaf ["maker", "tree"] f_without_last_leaf d_without_last_leaf
  f_sewn : Addr
  d_sewn : FuncData
  g_sewn : Gf K mg "sewn" s_sewn ["maker", "a", "b"] f_sewn d_sewn
  f_parted : Addr
  d_parted : FuncData
  g_parted : Gf K mg "parted" s_parted ["maker", "tree", "place"] f_parted d_parted
  f_made_of_bytes : Addr
  d_made_of_bytes : FuncData
  g_made_of_bytes : Gf K mg "made_of_bytes" s_made_of_bytes ["maker", "content"] f_made_of_bytes d_made_of_bytes
  f_put_in : Addr
  d_put_in : FuncData
  g_put_in : Gf K mg "put_in" s_put_in ["maker", "tree", "place", "middle"] f_put_in d_put_in
  f_taken_out : Addr
  d_taken_out : FuncData
  g_taken_out : Gf K mg "taken_out" s_taken_out ["maker", "tree", "begin", "end"] f_taken_out d_taken_out
  f_cut : Addr
  d_cut : FuncData
  g_cut : Gf K mg "cut" s_cut ["maker", "tree", "begin", "end"] f_cut d_cut
  f_is_range : Addr
  d_is_range : FuncData
  g_is_range : Gf K mg "is_range" s_is_range ["tree", "begin", "end"] f_is_range d_is_range
  f_insert_answer : Addr
  d_insert_answer : FuncData
  g_insert_answer : Gf K mg "insert_answer" s_insert_answer ["house", "version", "place", "content"] f_insert_answer d_insert_answer
  f_delete_answer : Addr
  d_delete_answer : FuncData
  g_delete_answer : Gf K mg "delete_answer" s_delete_answer ["house", "version", "begin", "end"] f_delete_answer d_delete_answer
  f_copy_answer : Addr
  d_copy_answer : FuncData
  g_copy_answer : Gf K mg "copy_answer" s_copy_answer ["house", "version", "begin", "end", "into", "place"] f_copy_answer d_copy_answer
  f_part_answer : Addr
  d_part_answer : FuncData
  g_part_answer : Gf K mg "part_answer" s_part_answer ["house", "version", "begin", "end"] f_part_answer d_part_answer
  f_line_answer : Addr
  d_line_answer : FuncData
  g_line_answer : Gf K mg "line_answer" s_line_answer ["house", "version", "line"] f_line_answer d_line_answer
  f_where_answer : Addr
  d_where_answer : FuncData
  g_where_answer : Gf K mg "where_answer" s_where_answer ["house", "version", "place"] f_where_answer d_where_answer
  f_longest_answer : Addr
  d_longest_answer : FuncData
  g_longest_answer : Gf K mg "longest_answer" s_longest_answer ["house", "version"] f_longest_answer d_longest_answer
  f_shape_answer : Addr
  d_shape_answer : FuncData
  g_shape_answer : Gf K mg "shape_answer" s_shape_answer ["house", "version"] f_shape_answer d_shape_answer
  f_alike_answer : Addr
  d_alike_answer : FuncData
  g_alike_answer : Gf K mg "alike_answer" s_alike_answer ["house", "version", "place", "other", "spot"] f_alike_answer d_alike_answer
  f_all_answer : Addr
  d_all_answer : FuncData
  g_all_answer : Gf K mg "all_answer" s_all_answer ["house"] f_all_answer d_all_answer
  f_call_length : Addr
  d_call_length : FuncData
  g_call_length : Gf K mg "call_length" s_call_length ["calls", "start"] f_call_length d_call_length
  f_call_answer : Addr
  d_call_answer : FuncData
  g_call_answer : Gf K mg "call_answer" s_call_answer ["house", "call"] f_call_answer d_call_answer
  f_answers : Addr
  d_answers : FuncData
  g_answers : Gf K mg "answers" s_answers ["calls"] f_answers d_answers
  c_LINE_FEED : ∃ t, mg "LINE_FEED" = some (.int (10) t)
  c_MOST_IN_LEAF : ∃ t, mg "MOST_IN_LEAF" = some (.int (8) t)
  c_UNFIT : ∃ t, mg "UNFIT" = some (.int (-1) t)
  c_NO_VERSION : ∃ t, mg "NO_VERSION" = some (.int (-2) t)
  c_NO_ROOM : ∃ t, mg "NO_ROOM" = some (.int (-5) t)
  c_TOO_LONG : ∃ t, mg "TOO_LONG" = some (.int (-6) t)
  c_MOST_VERSIONS : ∃ t, mg "MOST_VERSIONS" = some (.int (60) t)
  c_MOST_BYTES : ∃ t, mg "MOST_BYTES" = some (.int (1099511627776) t)
  c_MOST_AT_ONCE : ∃ t, mg "MOST_AT_ONCE" = some (.int (200) t)
  c_HIGHEST_BYTE : ∃ t, mg "HIGHEST_BYTE" = some (.int (255) t)
  c_INSERT : ∃ t, mg "INSERT" = some (.int (0) t)
  c_DELETE : ∃ t, mg "DELETE" = some (.int (1) t)
  c_COPY : ∃ t, mg "COPY" = some (.int (2) t)
  c_PART : ∃ t, mg "PART" = some (.int (3) t)
  c_LINE : ∃ t, mg "LINE" = some (.int (4) t)
  c_WHERE : ∃ t, mg "WHERE" = some (.int (5) t)
  c_LONGEST : ∃ t, mg "LONGEST" = some (.int (6) t)
  c_SHAPE : ∃ t, mg "SHAPE" = some (.int (7) t)
  c_ALIKE : ∃ t, mg "ALIKE" = some (.int (8) t)
  a_CALL_LENGTHS : Addr
  c_CALL_LENGTHS : mg "CALL_LENGTHS" = some (.ref a_CALL_LENGTHS)
  s_CALL_LENGTHS : ∀ H : Hp, SqT K H a_CALL_LENGTHS [.int 4, .int 4, .int 6, .int 4, .int 3, .int 3, .int 2, .int 2, .int 5, .int 1]
  c_BYTE_COUNT : ∃ t, mg "BYTE_COUNT" = some (.int (3) t)
  b_len : mg "len" = none
  b_max : mg "max" = none
  b_min : mg "min" = none
  b_abs : mg "abs" = none
  b_tuple : mg "tuple" = none
  b_list : mg "list" = none
  b_range : mg "range" = none
  b_reversed : mg "reversed" = none
section
variable {X : Cx}
theorem pe_gint {x : Str} {n : Int} {pos : Pos} (hg : Gl X x) (h : ∃ t, X.mg x = some (.int n t)) (hd : (x == ("__debug__" : Str)) = false := by decide) : PE X (.Name x pos) (tC (.int n)) := by
  obtain ⟨t, h⟩ := h
  exact pe_glob hg h ⟨t, rfl⟩ hd
end
/-! ### nodes on the heap -/
def vI (b : Nat) : V := V.int (b : Int)
/-- what a node keeps besides -/
structure Kept (H : Hp) (fs : List (Str × V)) (s : Ue01.Sum) (lv : Nat) : Prop where
  leaves : fs.lookup ("leaves" : Str) = some (.int ((lv : Nat) : Int))
  head : fs.lookup ("head" : Str) = some (.int ((s.head : Nat) : Int))
  tail : fs.lookup ("tail" : Str) = some (.int ((s.tail : Nat) : Int))
  longest : ∃ q, fs.lookup ("longest" : Str) = some (.ref q) ∧ H q = some (.tup [.int (((Ue01.longestOf s).2 : Nat) : Int), .int (((Ue01.longestOf s).1 : Nat) : Int)])
theorem Kept.go {H H' : Hp} {fs : List (Str × V)} {s : Ue01.Sum} {lv : Nat} (h : Kept H fs s lv) (k : ∀ q xs, H q = some (.tup xs) → H' q = some (.tup xs)) : Kept H' fs s lv := by
  obtain ⟨h1, h2, h3, q, h4, h5⟩ := h
  exact ⟨h1, h2, h3, q, h4, k _ _ h5⟩
structure LeafAt (c : Cs) (H : Hp) (a : Addr) (i : Nat) (w : List Nat) (dx p : Addr) (fs : List (Str × V)) : Prop where
  ob : H a = some (.ins c.CL dx fs)
  tup : H p = some (.tup (w.map vI))
  number : fs.lookup ("number" : Str) = some (.int ((i + 1 : Nat) : Int))
  content : fs.lookup ("content" : Str) = some (.ref p)
  height : fs.lookup ("height" : Str) = some (.int ((0 : Nat) : Int))
  size : fs.lookup ("size" : Str) = some (.int ((w.length : Nat) : Int))
  feeds : fs.lookup ("feeds" : Str) = some (.int ((w.count 10 : Nat) : Int))
  more : Kept H fs (Ue01.sumOf w) 1
structure ForkAt (c : Cs) (H : Hp) (a : Addr) (i : Nat) (l r : Ph.T) (dx x y : Addr) (fs : List (Str × V)) : Prop where
  ob : H a = some (.ins c.CF dx fs)
  number : fs.lookup ("number" : Str) = some (.int ((i + 1 : Nat) : Int))
  first : fs.lookup ("first" : Str) = some (.ref x)
  second : fs.lookup ("second" : Str) = some (.ref y)
  height : fs.lookup ("height" : Str) = some (.int (((Ph.T.fork i l r).ht : Nat) : Int))
  size : fs.lookup ("size" : Str) = some (.int (((Ph.T.fork i l r).size : Nat) : Int))
  feeds : fs.lookup ("feeds" : Str) = some (.int (((Ph.T.fork i l r).bytes.count 10 : Nat) : Int))
  more : Kept H fs (Ph.T.fork i l r).sum (Ph.T.fork i l r).leaves
/-- the tree t stands at a -/
def Rep (c : Cs) (H : Hp) : Ph.T → Addr → Prop
  | .leaf i w, a => ∃ dx p fs, LeafAt c H a i w dx p fs
  | .fork i l r, a => ∃ dx x y fs, ForkAt c H a i l r dx x y fs ∧ Rep c H l x ∧ Rep c H r y
def RepO (c : Cs) (H : Hp) : Option Ph.T → V → Prop
  | none, v => v = .non
  | some t, v => ∃ a, v = .ref a ∧ Rep c H t a
/-- the maker stands at M, n nodes have been made -/
def MakerAt (c : Cs) (H : Hp) (M : Addr) (n : Nat) : Prop := ∃ dx, H M = some (.ins c.CM dx [("made", .int ((n : Nat) : Int))])
/-- all but the maker is kept -/
def Keep (M : Addr) (H H' : Hp) : Prop := ∀ b o, H b = some o → b ≠ M → H' b = some o
theorem Keep.refl (M : Addr) (H : Hp) : Keep M H H := fun _ _ h _ => h
theorem Keep.trans {M : Addr} {H H1 H2 : Hp} (a : Keep M H H1) (b : Keep M H1 H2) : Keep M H H2 := fun c o h n => b c o (a c o h n) n
theorem Keep.of {M : Addr} {H H' : Hp} (s : Same H H') : Keep M H H' := fun b o h _ => s b o h
theorem Keep.new {M : Addr} {H : Hp} {p : Addr} {o : HO} (h : H p = none) : Keep M H (upd H p o) := fun b u e _ => by rw [upd_ne (ne_of_none e h)]; exact e
section
variable {K : PySem.W.Frag} {mg : Str → Option Value} {H H' : Hp} {M a : Addr} {n : Nat} {t : Ph.T}
/-- where maker and nodes stand apart -/
theorem Rep.mono (Y : TX K mg) (k : Keep M H H') (hM : MakerAt Y.toCs H M n) : ∀ {t : Ph.T} {a : Addr}, Rep Y.toCs H t a → Rep Y.toCs H' t a
  | .leaf i w, a, ⟨dx, p, fs, h⟩ => by
    obtain ⟨dM, hM⟩ := hM
    have n1 : a ≠ M := ne_of h.ob hM fun z => by
      injection z with z1
      exact Y.neLM z1
    have n2 : p ≠ M := ne_of h.tup hM (by intro z; cases z)
    exact ⟨dx, p, fs, k _ _ h.ob n1, k _ _ h.tup n2, h.number, h.content, h.height, h.size, h.feeds, h.more.go fun q xs e => k _ _ e (ne_of e hM (by intro z; cases z))⟩
  | .fork i l r, a, ⟨dx, x, y, fs, h, h1, h2⟩ => by
    have r1 := Rep.mono Y k hM h1
    have r2 := Rep.mono Y k hM h2
    obtain ⟨dM, hM⟩ := hM
    have n1 : a ≠ M := ne_of h.ob hM fun z => by
      injection z with z1
      exact Y.neFM z1
    exact ⟨dx, x, y, fs, ⟨k _ _ h.ob n1, h.number, h.first, h.second, h.height, h.size, h.feeds, h.more.go fun q xs e => k _ _ e (ne_of e hM (by intro z; cases z))⟩, r1, r2⟩
theorem Rep.same {c : Cs} (s : Same H H') : ∀ {t : Ph.T} {a : Addr}, Rep c H t a → Rep c H' t a
  | .leaf i w, a, ⟨dx, p, fs, h⟩ => ⟨dx, p, fs, s _ _ h.ob, s _ _ h.tup, h.number, h.content, h.height, h.size, h.feeds, h.more.go fun q xs e => s _ _ e⟩
  | .fork i l r, a, ⟨dx, x, y, fs, h, h1, h2⟩ => ⟨dx, x, y, fs, ⟨s _ _ h.ob, h.number, h.first, h.second, h.height, h.size, h.feeds, h.more.go fun q xs e => s _ _ e⟩, Rep.same s h1, Rep.same s h2⟩
theorem RepO.mono (Y : TX K mg) (k : Keep M H H') (hM : MakerAt Y.toCs H M n) {o : Option Ph.T} {v : V} (h : RepO Y.toCs H o v) : RepO Y.toCs H' o v := by
  cases o with
  | none => exact h
  | some t =>
    obtain ⟨a, e, r⟩ := h
    exact ⟨a, e, r.mono Y k hM⟩
theorem RepO.same {c : Cs} (s : Same H H') {o : Option Ph.T} {v : V} (h : RepO c H o v) : RepO c H' o v := by
  cases o with
  | none => exact h
  | some t =>
    obtain ⟨a, e, r⟩ := h
    exact ⟨a, e, r.same s⟩
/-! a field read, as the rest of a reading -/
def FldC (K : PySem.W.Frag) (f : Str) (x : V) (H : Hp) (Q : V → Prop) : Prop := ∃ a C dx fs v, x = .ref a ∧ H a = some (.ins C dx fs) ∧ Cls K C ∧ NoAttr K C f ∧ fs.lookup f = some v ∧ Q v
theorem fHt (Y : TX K mg) {Q : V → Prop} (r : Rep Y.toCs H t a) (q : Q (.int ((t.ht : Nat) : Int))) : FldC K "height" (.ref a) H Q := by
  cases t with
  | leaf i w =>
    obtain ⟨dx, p, fs, h⟩ := r
    exact ⟨a, _, dx, fs, _, rfl, h.ob, Y.cl_Leaf, Y.aL _ (by simp), h.height, q⟩
  | fork i l r =>
    obtain ⟨dx, x, y, fs, h, _, _⟩ := r
    exact ⟨a, _, dx, fs, _, rfl, h.ob, Y.cl_Fork, Y.aF _ (by simp), h.height, q⟩
theorem fSize (Y : TX K mg) {Q : V → Prop} (r : Rep Y.toCs H t a) (q : Q (.int ((t.size : Nat) : Int))) : FldC K "size" (.ref a) H Q := by
  cases t with
  | leaf i w =>
    obtain ⟨dx, p, fs, h⟩ := r
    exact ⟨a, _, dx, fs, _, rfl, h.ob, Y.cl_Leaf, Y.aL _ (by simp), h.size, q⟩
  | fork i l r =>
    obtain ⟨dx, x, y, fs, h, _, _⟩ := r
    exact ⟨a, _, dx, fs, _, rfl, h.ob, Y.cl_Fork, Y.aF _ (by simp), h.size, q⟩
theorem fFeeds (Y : TX K mg) {Q : V → Prop} (r : Rep Y.toCs H t a) (q : Q (.int ((t.bytes.count 10 : Nat) : Int))) : FldC K "feeds" (.ref a) H Q := by
  cases t with
  | leaf i w =>
    obtain ⟨dx, p, fs, h⟩ := r
    exact ⟨a, _, dx, fs, _, rfl, h.ob, Y.cl_Leaf, Y.aL _ (by simp), h.feeds, q⟩
  | fork i l r =>
    obtain ⟨dx, x, y, fs, h, _, _⟩ := r
    exact ⟨a, _, dx, fs, _, rfl, h.ob, Y.cl_Fork, Y.aF _ (by simp), h.feeds, q⟩
theorem fNumber (Y : TX K mg) {Q : V → Prop} (r : Rep Y.toCs H t a) (q : Q (.int ((t.id + 1 : Nat) : Int))) : FldC K "number" (.ref a) H Q := by
  cases t with
  | leaf i w =>
    obtain ⟨dx, p, fs, h⟩ := r
    exact ⟨a, _, dx, fs, _, rfl, h.ob, Y.cl_Leaf, Y.aL _ (by simp), h.number, q⟩
  | fork i l r =>
    obtain ⟨dx, x, y, fs, h, _, _⟩ := r
    exact ⟨a, _, dx, fs, _, rfl, h.ob, Y.cl_Fork, Y.aF _ (by simp), h.number, q⟩
theorem fLeaves (Y : TX K mg) {Q : V → Prop} (r : Rep Y.toCs H t a) (q : Q (.int ((t.leaves : Nat) : Int))) : FldC K "leaves" (.ref a) H Q := by
  cases t with
  | leaf i w =>
    obtain ⟨dx, p, fs, h⟩ := r
    exact ⟨a, _, dx, fs, _, rfl, h.ob, Y.cl_Leaf, Y.aL _ (by simp), h.more.leaves, q⟩
  | fork i l r =>
    obtain ⟨dx, x, y, fs, h, _, _⟩ := r
    exact ⟨a, _, dx, fs, _, rfl, h.ob, Y.cl_Fork, Y.aF _ (by simp), h.more.leaves, q⟩
theorem fHead (Y : TX K mg) {Q : V → Prop} (r : Rep Y.toCs H t a) (q : Q (.int ((t.sum.head : Nat) : Int))) : FldC K "head" (.ref a) H Q := by
  cases t with
  | leaf i w =>
    obtain ⟨dx, p, fs, h⟩ := r
    exact ⟨a, _, dx, fs, _, rfl, h.ob, Y.cl_Leaf, Y.aL _ (by simp), h.more.head, q⟩
  | fork i l r =>
    obtain ⟨dx, x, y, fs, h, _, _⟩ := r
    exact ⟨a, _, dx, fs, _, rfl, h.ob, Y.cl_Fork, Y.aF _ (by simp), h.more.head, q⟩
theorem fTail (Y : TX K mg) {Q : V → Prop} (r : Rep Y.toCs H t a) (q : Q (.int ((t.sum.tail : Nat) : Int))) : FldC K "tail" (.ref a) H Q := by
  cases t with
  | leaf i w =>
    obtain ⟨dx, p, fs, h⟩ := r
    exact ⟨a, _, dx, fs, _, rfl, h.ob, Y.cl_Leaf, Y.aL _ (by simp), h.more.tail, q⟩
  | fork i l r =>
    obtain ⟨dx, x, y, fs, h, _, _⟩ := r
    exact ⟨a, _, dx, fs, _, rfl, h.ob, Y.cl_Fork, Y.aF _ (by simp), h.more.tail, q⟩
/-- the two numbers of a node's longest line -/
def lgV (s : Ue01.Sum) : List V := [.int (((Ue01.longestOf s).2 : Nat) : Int), .int (((Ue01.longestOf s).1 : Nat) : Int)]
theorem fLongest (Y : TX K mg) {Q : V → Prop} (r : Rep Y.toCs H t a) (q : ∀ p, H p = some (.tup (lgV t.sum)) → Q (.ref p)) : FldC K "longest" (.ref a) H Q := by
  cases t with
  | leaf i w =>
    obtain ⟨dx, p, fs, h⟩ := r
    obtain ⟨z, h1, h2⟩ := h.more.longest
    exact ⟨a, _, dx, fs, _, rfl, h.ob, Y.cl_Leaf, Y.aL _ (by simp), h1, q z h2⟩
  | fork i l r =>
    obtain ⟨dx, x, y, fs, h, _, _⟩ := r
    obtain ⟨z, h1, h2⟩ := h.more.longest
    exact ⟨a, _, dx, fs, _, rfl, h.ob, Y.cl_Fork, Y.aF _ (by simp), h1, q z h2⟩
theorem Rep.kids {c : Cs} {i : Nat} {l r : Ph.T} (h : Rep c H (.fork i l r) a) : ∃ x y, Rep c H l x ∧ Rep c H r y ∧ ∃ dx fs, ForkAt c H a i l r dx x y fs := by
  obtain ⟨dx, x, y, fs, h, h1, h2⟩ := h
  exact ⟨x, y, h1, h2, dx, fs, h⟩
theorem fFirst (Y : TX K mg) {Q : V → Prop} {i : Nat} {l r : Ph.T} {dx x y : Addr} {fs : List (Str × V)} (h : ForkAt Y.toCs H a i l r dx x y fs) (q : Q (.ref x)) : FldC K "first" (.ref a) H Q :=
  ⟨a, _, dx, fs, _, rfl, h.ob, Y.cl_Fork, Y.aF _ (by simp), h.first, q⟩
theorem fSecond (Y : TX K mg) {Q : V → Prop} {i : Nat} {l r : Ph.T} {dx x y : Addr} {fs : List (Str × V)} (h : ForkAt Y.toCs H a i l r dx x y fs) (q : Q (.ref y)) : FldC K "second" (.ref a) H Q :=
  ⟨a, _, dx, fs, _, rfl, h.ob, Y.cl_Fork, Y.aF _ (by simp), h.second, q⟩
theorem fContent (Y : TX K mg) {Q : V → Prop} {i : Nat} {w : List Nat} {dx p : Addr} {fs : List (Str × V)} (h : LeafAt Y.toCs H a i w dx p fs) (q : Q (.ref p)) : FldC K "content" (.ref a) H Q :=
  ⟨a, _, dx, fs, _, rfl, h.ob, Y.cl_Leaf, Y.aL _ (by simp), h.content, q⟩
theorem MakerAt.ob {c : Cs} (h : MakerAt c H M n) : ∃ dx, H M = some (.ins c.CM dx [("made", .int ((n : Nat) : Int))]) := h
end
/-- what is wanted behind a call that makes nodes -/
def Post (c : Cs) (M : Addr) (H : Hp) (n : Nat) (o : Option Ph.T) (Q : VK) : Prop := ∀ H' v, MakerAt c H' M n → RepO c H' o v → Keep M H H' → Q v H'
end Pw
set_option Elab.async false
set_option linter.all false
set_option maxRecDepth 100000
namespace Pw
open PySem PySem.Spec PyProof.Rows L2
theorem seq_by {t u : TS} {D : Ends} {σ : L2.St} {H : Hp} (cont : L2.St → Hp → Prop) (h1 : ∀ nx : L2.St → Hp → Prop, (∀ σ' H', cont σ' H' → nx σ' H') → t { D with nx := nx } σ H) (h2 : ∀ σ' H', cont σ' H' → u D σ' H') : tSeq t u D σ H := h1 _ h2
theorem map_vI (w : List Nat) : w.map vI = (Ph.ofN w).map V.int := by
  rw [Ph.ofN, List.map_map]; rfl
theorem tif_by {b : Bool} {ta tb : TE} {σ : L2.St} {H : Hp} {Q : VK} (v : V) (h1 : b = true → ∀ Q : VK, Q v H → ta σ H Q) (h2 : b = false → ∀ Q : VK, Q v H → tb σ H Q) (q : Q v H) : if b = true then ta σ H Q else tb σ H Q := by
  cases b with
  | true => exact h1 rfl Q q
  | false => exact h2 rfl Q q
theorem set_lastV (l : List Nat) (x y : Nat) : ((l ++ [x]).map vI).set l.length (vI y) = (l ++ [y]).map vI := by
  rw [List.map_append, List.map_append, List.set_append_right _ _ (by simp)]
  simp
section
variable {P : Program} {w : World} {K : PySem.W.Frag} {mg : Str → Option Value} {base : Heap}
theorem sc_Fork_init : FnScope ["self", "number", "first", "second"] ["self", "number", "first", "second"] (defScope s_Fork_init) := ⟨rfl, rfl, rfl, by decide +kernel, rfl, by decide +kernel, by decide +kernel⟩
def spForkInit (c : Cs) : Sp := fun vs H Q _ => ∃ (p dx x y : Addr) (n : Nat) (l r : Ph.T), vs = [.ref p, .int ((n + 1 : Nat) : Int), .ref x, .ref y] ∧ H p = some (.ins c.CF dx []) ∧ Rep c H l x ∧ Rep c H r y ∧
  ∀ H' : Hp, Rep c H' (.fork n l r) p → (∀ b o, H b = some o → b ≠ p → H' b = some o) → Q .non H'
theorem Rep.full {c : Cs} {H : Hp} {t : Ph.T} {a : Addr} (r : Rep c H t a) : ∃ C dx fs v, H a = some (.ins C dx fs) ∧ fs.lookup ("height" : Str) = some v := by
  cases t with
  | leaf i w => obtain ⟨dx, p, fs, h⟩ := r; exact ⟨_, dx, fs, _, h.ob, h.height⟩
  | fork i l r => obtain ⟨dx, x, y, fs, h, _, _⟩ := r; exact ⟨_, dx, fs, _, h.ob, h.height⟩
theorem ne_len {H : Hp} {a p C dx : Addr} {c : Cs} {t : Ph.T} (r : Rep c H t a) (h : H p = some (.ins C dx [])) : a ≠ p := by
  obtain ⟨C', d', fs, v, e, l⟩ := r.full
  refine ne_of e h fun z => ?_
  injection z with _ _ z3
  rw [z3] at l
  cases l
/-- a new object's address stands apart from a tree -/
theorem Rep.upd {c : Cs} {H : Hp} {p C dx : Addr} (h : H p = some (.ins C dx [])) (o : HO) : ∀ {t : Ph.T} {a : Addr}, Rep c H t a → Rep c (L2.upd H p o) t a
  | .leaf i w, a, r => by
    have n1 := ne_len r h
    obtain ⟨d, q, fs, e⟩ := r
    have n2 : q ≠ p := ne_of e.tup h (by intro z; cases z)
    exact ⟨d, q, fs, by rw [upd_ne n1]; exact e.ob, by rw [upd_ne n2]; exact e.tup, e.number, e.content, e.height, e.size, e.feeds, e.more.go fun z xs ez => by rw [upd_ne (ne_of ez h (by intro z; cases z))]; exact ez⟩
  | .fork i l r, a, q => by
    have n1 := ne_len q h
    obtain ⟨d, x, y, fs, e, h1, h2⟩ := q
    exact ⟨d, x, y, fs, ⟨by rw [upd_ne n1]; exact e.ob, e.number, e.first, e.second, e.height, e.size, e.feeds, e.more.go fun z xs ez => by rw [upd_ne (ne_of ez h (by intro z; cases z))]; exact ez⟩, h1.upd h o, h2.upd h o⟩
theorem Rep.off {c : Cs} {H H' : Hp} {p C dx : Addr} (k : ∀ b o, H b = some o → b ≠ p → H' b = some o) (h : H p = some (.ins C dx [])) : ∀ {t : Ph.T} {a : Addr}, Rep c H t a → Rep c H' t a
  | .leaf i w, a, r => by
    have n1 := ne_len r h
    obtain ⟨d, q, fs, e⟩ := r
    exact ⟨d, q, fs, k _ _ e.ob n1, k _ _ e.tup (ne_of e.tup h (by intro z; cases z)), e.number, e.content, e.height, e.size, e.feeds, e.more.go fun z xs ez => k _ _ ez (ne_of ez h (by intro z; cases z))⟩
  | .fork i l r, a, q => by
    have n1 := ne_len q h
    obtain ⟨d, x, y, fs, e, h1, h2⟩ := q
    exact ⟨d, x, y, fs, ⟨k _ _ e.ob n1, e.number, e.first, e.second, e.height, e.size, e.feeds, e.more.go fun z xs ez => k _ _ ez (ne_of ez h (by intro z; cases z))⟩, h1.off k h, h2.off k h⟩
theorem tv {i : Nat} {v : V} {σ : L2.St} {H : Hp} {Q : VK} (h : σ[i]? = some (some v)) (q : Q v H) : tVar i σ H Q := ⟨v, h, q⟩
theorem few0 : ([] : List (Str × V)).length ≤ 0 := Nat.le_refl _
theorem fewS {f : Str} {v : V} {fs : List (Str × V)} {k : Nat} (h : fs.length ≤ k) : (putF f v fs).length ≤ k + 1 := Nat.le_trans (length_putF f v fs) (Nat.succ_le_succ h)
theorem few {fs : List (Str × V)} {k : Nat} (h : fs.length ≤ k) (hk : k < 1000 := by decide) : fs.length < 1000 := Nat.lt_of_le_of_lt h hk
theorem max_int (a b : Nat) : (1 : Int) + (if (b : Int) > (a : Int) then (b : Int) else (a : Int)) = ((max a b + 1 : Nat) : Int) := by
  split <;> omega
theorem sc_line_sizes : FnScope ["content", "sizes", "byte"] ["content"] (defScope s_line_sizes) := ⟨rfl, rfl, rfl, by decide +kernel, rfl, by decide +kernel, by decide +kernel⟩
def spLineSizes : Sp := fun vs H Q _ => ∃ (q : Addr) (w : List Nat), vs = [.ref q] ∧ H q = some (.tup (w.map vI)) ∧ w.length ≤ 1000 ∧ ∀ (H' : Hp) (p : Addr) (l : List Nat) (x : Nat), H p = none → H' p = some (.lst ((l ++ [x]).map vI)) → Ph.LinesOf l x (Ue01.sumOf w) → Same H H' → Q (.ref p) H'
theorem ok_line_sizes (Y : TX K mg) : FnOk P w K mg base CX0 1 Y.f_line_sizes Y.d_line_sizes ["content"] spLineSizes := by
  refine Y.g_line_sizes.fn.ok sc_line_sizes (fun vs H Q E h => ?_) (fun cdv A outer s H vs Q E hr h => ?_)
  · obtain ⟨q, w, rfl, _⟩ := h
    rfl
  · obtain ⟨q, v, rfl, hq, hv, k⟩ := h
    have hline : sizeLine = 16777216 := sizeLine_eq
    refine ⟨_, (pss_cons (ps_set (i := 1) sc_line_sizes.nd rfl (Or.inl rfl) (pe_lst (pa_cons pe_int pa_nil)))
      (pss_cons (ps_for PassesOwn.never rfl (pi_tup (pv 0)) (pg_name (i := 2) sc_line_sizes.nd rfl (Or.inl rfl)) (pss_one (ps_if (pt_cmpR op_eq (pv 2) (pe_gint rfl Y.c_LINE_FEED) (nomark _)) (pss_one (ps_expr (pe_bm PySem.F.plainAttrs_list PySem.F.slot_list_append PySem.F.type_list_append mt_append (pv 1) (pa_cons pe_int pa_nil)))) (pss_one (ps_augS (pv 1) (pe_un un_neg pe_int) Lx.get_last pe_int ip_add set_list)))))
      (pss_one (ps_ret (pv 1))))), ?_⟩
    refine ⟨(by show 1 ≤ sizeLine; decide), fun p hp => ?_⟩
    have nqp : q ≠ p := ne_of_none hq hp
    have hq2 : ∀ o, (upd H p o) q = some (.tup (v.map vI)) := fun o => by rw [upd_ne nqp]; exact hq
    refine ⟨_, rfl, q, rfl, ⟨_, SqT.of (hq2 _)⟩, ?_⟩
    refine for_tup (xs := v.map vI) (fun i σ H' => ∃ (l : List Nat) (x : Nat) (o2 : Option V), σ = [some (.ref q), some (.ref p), o2] ∧ H' = upd H p (.lst ((l ++ [x]).map vI)) ∧ Ph.LinesOf l x (Ue01.sumOf (v.take i)) ∧ l.length ≤ i) ?_ ?_ ?_ ?_
    · exact ⟨[], 0, none, rfl, rfl, Ph.LinesOf.zero, Nat.le_refl _⟩
    · rintro i σ H1 _ ⟨l, x, o2, rfl, rfl, _, _⟩
      exact SqT.of (hq2 _)
    · rintro i z σ H1 hz ⟨l, x, o2, rfl, rfl, ln, li⟩
      rw [List.getElem?_map] at hz
      obtain ⟨b, hb, rfl⟩ := Option.map_eq_some_iff.mp hz
      obtain ⟨il, eb⟩ := List.getElem?_eq_some_iff.mp hb
      have et : v.take (i + 1) = v.take i ++ [b] := by rw [List.take_succ, hb]; rfl
      have hl : (upd H p (.lst ((l ++ [x]).map vI))) p = some (.lst ((l ++ [x]).map vI)) := upd_same
      refine ⟨_, rfl, rfl, _, rfl, ?_⟩
      refine ite2 (fun c => ?_) (fun c => ?_)
      · have c' : b = 10 := by
          have := of_decide_eq_true c
          injection this with z
          omega
        subst c'
        refine ⟨_, rfl, .inl ⟨rfl, _, SqL.of hl⟩, p, _, _, rfl, rfl, hl, ?_, ?_⟩
        · rw [List.length_map, List.length_append, List.length_cons, List.length_nil]; omega
        · rw [upd_upd]
          refine ⟨l ++ [x], 0, _, rfl, ?_, ?_, ?_⟩
          · rw [List.map_append (l₁ := l ++ [x])]; rfl
          · rw [et, Ph.sumOf_snoc]; exact ln.feed
          · rw [List.length_append, List.length_cons, List.length_nil]; omega
      · have c' : b ≠ 10 := fun z => c (decide_eq_true (by rw [z]; rfl))
        refine ⟨_, rfl, _, rfl, p, l.map vI, vI x, rfl, rfl, ?_, ?_⟩
        · rw [hl, List.map_append]; rfl
        refine ⟨_, _, rfl, rfl, ?_⟩
        refine ⟨p, _, _, l.length, rfl, rfl, hl, ?_, ?_⟩
        · rw [List.length_map, List.length_append, List.length_cons, List.length_nil]
          exact Lx.ix_last
        · rw [upd_upd]
          refine ⟨l, x + 1, _, rfl, ?_, ?_, by omega⟩
          · rw [← set_lastV l x (x + 1)]; rfl
          · rw [et, Ph.sumOf_snoc]; exact ln.byte c'
    · rintro σ H1 ⟨l, x, o2, rfl, rfl, ln, li⟩
      rw [List.length_map, List.take_length] at ln
      refine ⟨_, rfl, ?_⟩
      exact k _ p l x hp upd_same ln fun b o e => by rw [upd_ne (ne_of_none e hp)]; exact e
theorem sc_longest_over : FnScope ["first", "second", "seam", "longest"] ["first", "second"] (defScope s_longest_over) := ⟨rfl, rfl, rfl, by decide +kernel, rfl, by decide +kernel, by decide +kernel⟩
def lgP (x : Nat × Nat) : List V := [.int ((x.2 : Nat) : Int), .int ((x.1 : Nat) : Int)]
theorem lgV_P (s : Ue01.Sum) : lgV s = lgP (Ue01.longestOf s) := rfl
def spLongestOver (c : Cs) : Sp := fun vs H Q _ => ∃ (x y : Addr) (l r : Ph.T), vs = [.ref x, .ref y] ∧ Rep c H l x ∧ Rep c H r y ∧ ∀ (H' : Hp) (q : Addr), Same H H' → H' q = some (.tup (lgV (Ue01.both l.sum r.sum))) → Q (.ref q) H'
theorem ok_longest_over (Y : TX K mg) : FnOk P w K mg base CX0 1 Y.f_longest_over Y.d_longest_over ["first", "second"] (spLongestOver Y.toCs) := by
  refine Y.g_longest_over.fn.ok sc_longest_over (fun vs H Q E h => ?_) (fun cdv A outer s H vs Q E hr h => ?_)
  · obtain ⟨x, y, l, r, rfl, _⟩ := h
    rfl
  · obtain ⟨x, y, l, r, rfl, hx, hy, k⟩ := h
    rw [lgV_P, Ph.longest_both (Ph.sum_ok l) (Ph.sum_ok r), Ph.sum_breaks] at k
    refine ⟨_, (pss_cons (ps_set (i := 2) sc_longest_over.nd rfl (Or.inl rfl) (pe_op op_add (pe_fld (pv 0) rfl) (pe_fld (pv 1) rfl)))
      (pss_cons (ps_set (i := 3) sc_longest_over.nd rfl (Or.inl rfl) (pe_fld (pv 0) rfl))
      (pss_cons (ps_if (pt_cmpR op_gt (pv 2) (pe_ix ix_tup (pv 3) pe_int (fun _ _ => rfl)) (nomark _)) (pss_one (ps_set (i := 3) sc_longest_over.nd rfl (Or.inl rfl) (pe_tup (pa_cons (pe_fld (pv 0) rfl) (pa_cons (pv 2) pa_nil))))) pss_nil)
      (pss_cons (ps_if (pt_cmpR op_gt (pe_ix ix_tup (pe_fld (pv 1) rfl) pe_int (fun _ _ => rfl)) (pe_ix ix_tup (pv 3) pe_int (fun _ _ => rfl)) (nomark _)) (pss_one (ps_set (i := 3) sc_longest_over.nd rfl (Or.inl rfl) (pe_tup (pa_cons (pe_op op_add (pe_fld (pv 0) rfl) (pe_ix ix_tup (pe_fld (pv 1) rfl) pe_int (fun _ _ => rfl))) (pa_cons (pe_ix ix_tup (pe_fld (pv 1) rfl) pe_int (fun _ _ => rfl)) pa_nil))))) pss_nil)
      (pss_one (ps_ret (pv 3))))))), ?_⟩
    refine ⟨_, rfl, ?_⟩
    refine fTail Y hx ?_
    refine ⟨_, rfl, ?_⟩
    refine fHead Y hy ?_
    refine ⟨_, _, rfl, rfl, ?_⟩
    refine ⟨_, rfl, ?_⟩
    refine fLongest Y hx fun q1 hq1 => ?_
    rw [lgV_P] at hq1
    dsimp only [gName]
    refine seq_by (fun σ' H1 => ∃ q2 : Addr, σ' = [some (.ref x), some (.ref y), some (.int ((l.sum.tail + r.sum.head : Nat) : Int)), some (.ref q2)] ∧ Same H H1 ∧ H1 q2 = some (.tup (lgP (Ph.lg (Ue01.longestOf l.sum) (l.sum.tail + r.sum.head, l.bytes.count 10))))) (fun nx hnx => ?_) ?_
    · refine ⟨_, rfl, _, rfl, q1, _, _, _, rfl, rfl, SqT.of hq1, atI_nat (j := 1) rfl, ?_⟩
      refine ⟨_, _, rfl, rfl, _, rfl, ?_⟩
      refine ite2 (fun c => ?_) (fun c => ?_)
      · have c' := of_decide_eq_true c
        refine ⟨_, rfl, ?_⟩
        refine fFeeds Y hx ?_
        refine ⟨_, rfl, (by show 2 ≤ sizeLine; decide), fun q2 hq2 => ?_⟩
        refine hnx _ _ ⟨q2, rfl, fun b o e => by rw [upd_ne (ne_of_none e hq2)]; exact e, ?_⟩
        rw [upd_same]
        unfold Ph.lg
        rw [if_pos (show (Ue01.longestOf l.sum).1 < l.sum.tail + r.sum.head by omega)]
        rfl
      · refine hnx _ _ ⟨q1, rfl, fun b o e => e, ?_⟩
        rw [hq1]
        unfold Ph.lg
        rw [if_neg (show ¬ (Ue01.longestOf l.sum).1 < l.sum.tail + r.sum.head from fun z => c (decide_eq_true (by omega)))]
    · rintro σ' H1 ⟨q2, rfl, s1, hq2⟩
      generalize Ph.lg (Ue01.longestOf l.sum) (l.sum.tail + r.sum.head, l.bytes.count 10) = c1 at *
      have hx1 := hx.same s1
      have hy1 := hy.same s1
      refine seq_by (fun σ' H2 => ∃ q3 : Addr, σ' = [some (.ref x), some (.ref y), some (.int ((l.sum.tail + r.sum.head : Nat) : Int)), some (.ref q3)] ∧ Same H H2 ∧ H2 q3 = some (.tup (lgP (Ph.lg c1 (Ph.sh (l.bytes.count 10) (Ue01.longestOf r.sum)))))) (fun nx hnx => ?_) ?_
      · refine ⟨_, rfl, ?_⟩
        refine fLongest Y hy1 fun q4 hq4 => ?_
        rw [lgV_P] at hq4
        refine ⟨q4, _, _, _, rfl, rfl, SqT.of hq4, atI_nat (j := 1) rfl, ?_⟩
        refine ⟨_, rfl, q2, _, _, _, rfl, rfl, SqT.of hq2, atI_nat (j := 1) rfl, ?_⟩
        refine ⟨_, _, rfl, rfl, _, rfl, ?_⟩
        refine ite2 (fun c => ?_) (fun c => ?_)
        · have c' := of_decide_eq_true c
          refine ⟨_, rfl, ?_⟩
          refine fFeeds Y hx1 ?_
          refine ⟨_, rfl, ?_⟩
          refine fLongest Y hy1 fun q5 hq5 => ?_
          rw [lgV_P] at hq5
          refine ⟨q5, _, _, _, rfl, rfl, SqT.of hq5, atI_nat (j := 0) rfl, ?_⟩
          refine ⟨_, _, rfl, rfl, ?_⟩
          refine ⟨_, rfl, ?_⟩
          refine fLongest Y hy1 fun q6 hq6 => ?_
          rw [lgV_P] at hq6
          refine ⟨q6, _, _, _, rfl, rfl, SqT.of hq6, atI_nat (j := 1) rfl, ?_⟩
          refine ⟨(by show 2 ≤ sizeLine; decide), fun q7 hq7 => ?_⟩
          refine hnx _ _ ⟨q7, rfl, fun b o e => by rw [upd_ne (ne_of_none (s1 _ _ e) hq7)]; exact s1 _ _ e, ?_⟩
          rw [upd_same]
          unfold Ph.lg
          rw [if_pos (show c1.1 < (Ph.sh (l.bytes.count 10) (Ue01.longestOf r.sum)).1 from by show c1.1 < (Ue01.longestOf r.sum).1; omega)]
          rfl
        · refine hnx _ _ ⟨q2, rfl, s1, ?_⟩
          rw [hq2]
          unfold Ph.lg
          rw [if_neg (show ¬ c1.1 < (Ph.sh (l.bytes.count 10) (Ue01.longestOf r.sum)).1 from fun z => c (decide_eq_true (by have z' : c1.1 < (Ue01.longestOf r.sum).1 := z; omega)))]
      · rintro σ' H2 ⟨q3, rfl, s2, hq3⟩
        refine ⟨_, rfl, ?_⟩
        exact k H2 q3 s2 hq3
theorem ok_Fork_init (Y : TX K mg) : FnOk P w K mg base CX0 2 Y.fi_Fork Y.di_Fork ["self", "number", "first", "second"] (spForkInit Y.toCs) := by
  refine Y.i_Fork.fn.ok sc_Fork_init (fun vs H Q E h => ?_) (fun cdv A outer s H vs Q E hr h => ?_)
  · obtain ⟨p, dx, x, y, n, l, r, rfl, _⟩ := h
    rfl
  · obtain ⟨p, dx, x, y, n, l, r, rfl, hp, hl, hrr, k⟩ := h
    have fw := fun f hf => Y.aF f hf
    refine ⟨_, (pss_cons (ps_fld (pv 0) (pv 1) rfl)
      (pss_cons (ps_fld (pv 0) (pv 2) rfl)
      (pss_cons (ps_fld (pv 0) (pv 3) rfl)
      (pss_cons (ps_fld (pv 0) (pe_op op_add pe_int (pe_callB (call_max2 rfl) (by rfl) Y.b_max boot_max (pa_cons (pe_fld (pv 2) rfl) (pa_cons (pe_fld (pv 3) rfl) pa_nil)))) rfl)
      (pss_cons (ps_fld (pv 0) (pe_op op_add (pe_fld (pv 2) rfl) (pe_fld (pv 3) rfl)) rfl)
      (pss_cons (ps_fld (pv 0) (pe_op op_add (pe_fld (pv 2) rfl) (pe_fld (pv 3) rfl)) rfl)
      (pss_cons (ps_fld (pv 0) (pe_op op_add (pe_fld (pv 2) rfl) (pe_fld (pv 3) rfl)) rfl)
      (pss_cons (ps_fld (pv 0) (pe_ifExp (pt_cmpR op_gt (pe_fld (pv 2) rfl) pe_int (nomark _)) (pe_fld (pv 2) rfl) (pe_op op_add (pe_fld (pv 2) rfl) (pe_fld (pv 3) rfl))) rfl)
      (pss_cons (ps_fld (pv 0) (pe_ifExp (pt_cmpR op_gt (pe_fld (pv 3) rfl) pe_int (nomark _)) (pe_fld (pv 3) rfl) (pe_op op_add (pe_fld (pv 2) rfl) (pe_fld (pv 3) rfl))) rfl)
      (pss_one (ps_fld (pv 0) (pe_call (ok_longest_over Y) (hr.mono (by decide)) rfl Y.g_longest_over.at_ Y.g_longest_over.fn.kp Y.g_longest_over.bd .nil pass0 (pa_cons (pv 2) (pa_cons (pv 3) pa_nil))) rfl))))))))))), ?_⟩
    refine ⟨_, rfl, _, rfl, p, _, dx, _, rfl, hp, Y.cl_Fork, Y.aF _ (by simp), few few0, ?_⟩
    refine ⟨_, rfl, _, rfl, p, _, dx, _, rfl, upd_same, Y.cl_Fork, Y.aF _ (by simp), few (fewS few0), ?_⟩
    refine ⟨_, rfl, _, rfl, p, _, dx, _, rfl, upd_same, Y.cl_Fork, Y.aF _ (by simp), few (fewS (fewS few0)), ?_⟩
    rw [upd_upd, upd_upd]
    refine ⟨_, rfl, ?_⟩
    refine fHt Y (hl.upd hp _) ?_
    refine ⟨_, rfl, ?_⟩
    refine fHt Y (hrr.upd hp _) ?_
    refine ⟨_, _, rfl, ?_⟩
    refine ⟨_, _, rfl, rfl, _, rfl, p, _, dx, _, rfl, upd_same, Y.cl_Fork, Y.aF _ (by simp), few (fewS (fewS (fewS few0))), ?_⟩
    rw [upd_upd]
    refine ⟨_, rfl, ?_⟩
    refine fSize Y (hl.upd hp _) ?_
    refine ⟨_, rfl, ?_⟩
    refine fSize Y (hrr.upd hp _) ?_
    refine ⟨_, _, rfl, rfl, _, rfl, p, _, dx, _, rfl, upd_same, Y.cl_Fork, Y.aF _ (by simp), few (fewS (fewS (fewS (fewS few0)))), ?_⟩
    rw [upd_upd]
    refine ⟨_, rfl, ?_⟩
    refine fLeaves Y (hl.upd hp _) ?_
    refine ⟨_, rfl, ?_⟩
    refine fLeaves Y (hrr.upd hp _) ?_
    refine ⟨_, _, rfl, rfl, _, rfl, p, _, dx, _, rfl, upd_same, Y.cl_Fork, Y.aF _ (by simp), few (fewS (fewS (fewS (fewS (fewS few0))))), ?_⟩
    rw [upd_upd]
    refine ⟨_, rfl, ?_⟩
    refine fFeeds Y (hl.upd hp _) ?_
    refine ⟨_, rfl, ?_⟩
    refine fFeeds Y (hrr.upd hp _) ?_
    refine ⟨_, _, rfl, rfl, _, rfl, p, _, dx, _, rfl, upd_same, Y.cl_Fork, Y.aF _ (by simp), few (fewS (fewS (fewS (fewS (fewS (fewS few0)))))), ?_⟩
    rw [upd_upd]
    refine ⟨_, rfl, ?_⟩
    refine fFeeds Y (hl.upd hp _) ?_
    refine ⟨_, _, rfl, rfl, _, rfl, ?_⟩
    refine tif_by (.int (((Ue01.both l.sum r.sum).head : Nat) : Int)) (fun c Q q => ?_) (fun c Q q => ?_) ?_
    · have c' := of_decide_eq_true c
      have e : (Ue01.both l.sum r.sum).head = l.sum.head := by
        show (if l.sum.breaks = 0 then _ else _) = _
        rw [Ph.sum_breaks, if_neg (by omega)]
      rw [e] at q
      refine ⟨_, rfl, ?_⟩
      exact fHead Y (hl.upd hp _) q
    · have c' := of_decide_eq_false c
      have c0 : l.sum.breaks = 0 := by rw [Ph.sum_breaks]; omega
      have e : (Ue01.both l.sum r.sum).head = l.size + r.sum.head := by
        show (if l.sum.breaks = 0 then _ else _) = _
        rw [if_pos c0, (Ph.sum_ok l c0).1, Ph.sum_size]
      rw [e, Int.natCast_add] at q
      refine ⟨_, rfl, ?_⟩
      refine fSize Y (hl.upd hp _) ?_
      refine ⟨_, rfl, ?_⟩
      refine fHead Y (hrr.upd hp _) ?_
      exact ⟨_, _, rfl, rfl, q⟩
    refine ⟨_, rfl, p, _, dx, _, rfl, upd_same, Y.cl_Fork, Y.aF _ (by simp), few (fewS (fewS (fewS (fewS (fewS (fewS (fewS few0))))))), ?_⟩
    rw [upd_upd]
    refine ⟨_, rfl, ?_⟩
    refine fFeeds Y (hrr.upd hp _) ?_
    refine ⟨_, _, rfl, rfl, _, rfl, ?_⟩
    refine tif_by (.int (((Ue01.both l.sum r.sum).tail : Nat) : Int)) (fun c Q q => ?_) (fun c Q q => ?_) ?_
    · have c' := of_decide_eq_true c
      have e : (Ue01.both l.sum r.sum).tail = r.sum.tail := by
        show (if r.sum.breaks = 0 then _ else _) = _
        rw [Ph.sum_breaks, if_neg (by omega)]
      rw [e] at q
      refine ⟨_, rfl, ?_⟩
      exact fTail Y (hrr.upd hp _) q
    · have c' := of_decide_eq_false c
      have c0 : r.sum.breaks = 0 := by rw [Ph.sum_breaks]; omega
      have e : (Ue01.both l.sum r.sum).tail = l.sum.tail + r.size := by
        show (if r.sum.breaks = 0 then _ else _) = _
        rw [if_pos c0, (Ph.sum_ok r c0).2.1, Ph.sum_size]
      rw [e, Int.natCast_add] at q
      refine ⟨_, rfl, ?_⟩
      refine fTail Y (hl.upd hp _) ?_
      refine ⟨_, rfl, ?_⟩
      refine fSize Y (hrr.upd hp _) ?_
      exact ⟨_, _, rfl, rfl, q⟩
    refine ⟨_, rfl, p, _, dx, _, rfl, upd_same, Y.cl_Fork, Y.aF _ (by simp), few (fewS (fewS (fewS (fewS (fewS (fewS (fewS (fewS few0)))))))), ?_⟩
    rw [upd_upd]
    refine ⟨_, rfl, _, rfl, ?_⟩
    refine ⟨x, y, l, r, rfl, hl.upd hp _, hrr.upd hp _, fun H' q s1 hq => ?_⟩
    have s2 : ∀ b o, H b = some o → b ≠ p → H' b = some o := fun b o e hb => s1 _ _ (by rw [upd_ne hb]; exact e)
    have hl2 : Rep Y.toCs H' l x := (hl.upd hp _).same s1
    have hr2 : Rep Y.toCs H' r y := (hrr.upd hp _).same s1
    have hp2 := s1 _ _ (show upd H p _ p = _ from upd_same)
    refine ⟨_, rfl, p, _, dx, _, rfl, hp2, Y.cl_Fork, Y.aF _ (by simp), few (fewS (fewS (fewS (fewS (fewS (fewS (fewS (fewS (fewS few0))))))))), ?_⟩
    have nqp : q ≠ p := ne_of hq hp2 (by intro z; cases z)
    have ng : ∀ {t : Ph.T} {a : Addr}, Rep Y.toCs H t a → a ≠ p := fun r => ne_len r hp
    refine k _ ⟨dx, x, y, _, ⟨upd_same, ?_, ?_, ?_, ?_, ?_, ?_, ?_, ?_, ?_, q, ?_, ?_⟩, ?_, ?_⟩ fun b o e hb => by rw [upd_ne hb]; exact s2 b o e hb
    · rfl
    · rfl
    · rfl
    · refine Eq.trans rfl (congrArg (fun z => some (V.int z)) (max_int l.ht r.ht))
    · refine Eq.trans rfl (congrArg (fun z => some (V.int z)) (Int.natCast_add l.size r.size).symm)
    · refine Eq.trans rfl (congrArg (fun z => some (V.int z)) (show ((l.bytes.count 10 : Nat) : Int) + ((r.bytes.count 10 : Nat) : Int) = _ by rw [Ph.T.bytes, List.count_append]; exact (Int.natCast_add _ _).symm))
    · refine Eq.trans rfl (congrArg (fun z => some (V.int z)) (Int.natCast_add l.leaves r.leaves).symm)
    · rfl
    · rfl
    · rfl
    · rw [upd_ne nqp]; exact hq
    · exact Rep.off (fun b o e hb => by rw [upd_ne hb]; exact s2 b o e hb) hp hl
    · exact Rep.off (fun b o e hb => by rw [upd_ne hb]; exact s2 b o e hb) hp hrr
theorem sc_Maker_init : FnScope ["self"] ["self"] (defScope s_Maker_init) := ⟨rfl, rfl, rfl, by decide +kernel, rfl, by decide +kernel, by decide +kernel⟩
def spMakerInit (c : Cs) : Sp := fun vs H Q _ => ∃ (p dx : Addr), vs = [.ref p] ∧ H p = some (.ins c.CM dx []) ∧ ∀ H' : Hp, MakerAt c H' p 0 → (∀ b o, H b = some o → b ≠ p → H' b = some o) → Q .non H'
theorem ok_Maker_init (Y : TX K mg) : FnOk P w K mg base CX0 1 Y.fi_Maker Y.di_Maker ["self"] (spMakerInit Y.toCs) := by
  refine Y.i_Maker.fn.ok sc_Maker_init (fun vs H Q E h => ?_) (fun cdv A outer s H vs Q E hr h => ?_)
  · obtain ⟨p, dx, rfl, _⟩ := h
    rfl
  · obtain ⟨p, dx, rfl, hp, k⟩ := h
    refine ⟨_, (pss_one (ps_fld (pv 0) pe_int rfl)), ?_⟩
    refine ⟨_, rfl, p, _, dx, _, rfl, hp, Y.cl_Maker, Y.aM _ (by simp), few few0, ?_⟩
    exact k _ ⟨dx, upd_same⟩ fun b o e hb => by rw [upd_ne hb]; exact e
theorem sc_Maker_over : FnScope ["self", "first", "second"] ["self", "first", "second"] (defScope s_Maker_over) := ⟨rfl, rfl, rfl, by decide +kernel, rfl, by decide +kernel, by decide +kernel⟩
def spOver (c : Cs) : Sp := fun vs H Q _ => ∃ (M x y : Addr) (n : Nat) (l r : Ph.T), vs = [.ref M, .ref x, .ref y] ∧ MakerAt c H M n ∧ Rep c H l x ∧ Rep c H r y ∧ Post c M H (n + 1) (some (.fork n l r)) Q
theorem ok_Maker_over (Y : TX K mg) : FnOk P w K mg base CX0 4 Y.f_Maker_over Y.d_Maker_over ["self", "first", "second"] (spOver Y.toCs) := by
  refine Y.m_Maker_over.fn.ok sc_Maker_over (fun vs H Q E h => ?_) (fun cdv A outer s H vs Q E hr h => ?_)
  · obtain ⟨M, x, y, n, l, r, rfl, _⟩ := h
    rfl
  · obtain ⟨M, x, y, n, l, r, rfl, hM, hl, hrr, k⟩ := h
    refine ⟨_, (pss_cons (ps_fldaug (pv 0) pe_int in_add)
      (pss_one (ps_ret (pe_make Y.mk_Fork (ok_Fork_init Y) (hr.mono (by decide)) rfl Y.c_Fork Y.i_Fork.bd .nil pass0 (pa_cons (pe_fld (pv 0) rfl) (pa_cons (pv 1) (pa_cons (pv 2) pa_nil))))))), ?_⟩
    have hM0 := hM
    obtain ⟨dM, hM⟩ := hM
    refine ⟨_, rfl, M, _, dM, _, _, rfl, hM, Y.cl_Maker, Y.aM _ (by simp), rfl, _, _, rfl, rfl, dM, _, hM, few (k := 1) (by simp), ?_⟩
    refine ⟨_, rfl, M, _, dM, _, _, rfl, upd_same, Y.cl_Maker, Y.aM _ (by simp), rfl, ?_⟩
    refine ⟨_, rfl, _, rfl, ?_⟩
    intro p dx h1 h2 h3
    have k1 : Keep M H (upd H M (.ins Y.CM dM [("made", .int ((n + 1 : Nat) : Int))])) := fun b o e hb => by rw [upd_ne hb]; exact e
    have k2 : Same (upd H M (.ins Y.CM dM [("made", .int ((n + 1 : Nat) : Int))])) (upd (upd (upd H M (.ins Y.CM dM [("made", .int ((n + 1 : Nat) : Int))])) dx (.own p)) p (.ins Y.CF dx [])) := fun b o e => by
      rw [upd_ne (ne_of_none e h1), upd_ne (ne_of_none e h2)]; exact e
    have k3 := k1.trans (Keep.of k2)
    refine ⟨p, dx, x, y, n, l, r, rfl, upd_same, hl.mono Y k3 hM0, hrr.mono Y k3 hM0, fun H' hR hk => ⟨rfl, ?_⟩⟩
    have e1 : (upd H M (.ins Y.CM dM [("made", .int ((n + 1 : Nat) : Int))])) M = some (.ins Y.CM dM [("made", .int ((n + 1 : Nat) : Int))]) := upd_same
    have nMp : M ≠ p := ne_of_none e1 h1
    exact k H' (.ref p) ⟨dM, hk _ _ (k2 _ _ e1) nMp⟩ ⟨p, rfl, hR⟩ fun b o e hb => hk b o (k3 b o e hb) (ne_of_none (k1 b o e hb) h1)
theorem sc_Leaf_init : FnScope ["self", "number", "content", "lines"] ["self", "number", "content"] (defScope s_Leaf_init) := ⟨rfl, rfl, rfl, by decide +kernel, rfl, by decide +kernel, by decide +kernel⟩
theorem count_ofN (w : List Nat) (k : Nat) : (Ph.ofN w).count (k : Int) = w.count k := by
  induction w with
  | nil => rfl
  | cons a w ih =>
    have e : Ph.ofN (a :: w) = (a : Int) :: Ph.ofN w := rfl
    rw [e, List.count_cons, List.count_cons, ih]
    congr 1
    by_cases c : a = k
    · subst c; simp
    · have : ¬ (a : Int) = (k : Int) := by omega
      simp [c, this]
theorem eqV_self (z : Int) : eqV (.int z) (.int z) = true := by simp [eqV]
theorem eqV_off {y z : Int} (h : ¬ y = z) : eqV (.int y) (.int z) = false := by simp [eqV, h]
def spLeafInit (c : Cs) : Sp := fun vs H Q _ => ∃ (p dx q : Addr) (n : Nat) (w : List Nat), vs = [.ref p, .int ((n + 1 : Nat) : Int), .ref q] ∧ H p = some (.ins c.CL dx []) ∧ H q = some (.tup (w.map vI)) ∧ w.length ≤ 1000 ∧
  ∀ H' : Hp, Rep c H' (.leaf n w) p → (∀ b o, H b = some o → b ≠ p → H' b = some o) → Q .non H'
theorem at_nat {l : List Nat} {i z : Nat} (h : l[i]? = some z) : (l.map vI)[i]? = some (vI z) := by rw [List.getElem?_map, h]; rfl
theorem ok_Leaf_init (Y : TX K mg) : FnOk P w K mg base CX0 2 Y.fi_Leaf Y.di_Leaf ["self", "number", "content"] (spLeafInit Y.toCs) := by
  refine Y.i_Leaf.fn.ok sc_Leaf_init (fun vs H Q E h => ?_) (fun cdv A outer s H vs Q E hr h => ?_)
  · obtain ⟨p, dx, q, n, v, rfl, _⟩ := h
    rfl
  · obtain ⟨p, dx, q, n, v, rfl, hp0, hq0, hv, k0⟩ := h
    refine ⟨_, (pss_cons (ps_set (i := 3) sc_Leaf_init.nd rfl (Or.inl rfl) (pe_call (ok_line_sizes Y) (hr.mono (by decide)) rfl Y.g_line_sizes.at_ Y.g_line_sizes.fn.kp Y.g_line_sizes.bd .nil pass0 (pa_cons (pv 2) pa_nil)))
      (pss_cons (ps_fld (pv 0) (pv 1) rfl)
      (pss_cons (ps_fld (pv 0) (pv 2) rfl)
      (pss_cons (ps_fld (pv 0) pe_int rfl)
      (pss_cons (ps_fld (pv 0) (pe_callB call_len_seq (by rfl) Y.b_len PySem.boot_len (pa_cons (pv 2) pa_nil)) rfl)
      (pss_cons (ps_fld (pv 0) pe_int rfl)
      (pss_cons (ps_fld (pv 0) (pe_op op_sub (pe_callB call_len_seq (by rfl) Y.b_len PySem.boot_len (pa_cons (pv 3) pa_nil)) pe_int) rfl)
      (pss_cons (ps_fld (pv 0) (pe_ix ix_list (pv 3) pe_int (fun _ _ => rfl)) rfl)
      (pss_cons (ps_fld (pv 0) (pe_ix ix_list (pv 3) (pe_un un_neg pe_int) (fun _ _ => rfl)) rfl)
      (pss_one (ps_fld (pv 0) (pe_tup (pa_cons (pe_bm PySem.F.plainAttrs_list PySem.F.slot_list_index PySem.F.type_list_index mt_index (pv 3) (pa_cons (pe_callB (cr_max rfl) (by rfl) Y.b_max boot_max (pa_cons (pv 3) pa_nil)) pa_nil)) (pa_cons (pe_callB (cr_max rfl) (by rfl) Y.b_max boot_max (pa_cons (pv 3) pa_nil)) pa_nil))) rfl))))))))))), ?_⟩
    refine ⟨_, rfl, ?_⟩
    refine ⟨q, v, rfl, hq0, hv, fun H1 z l x hz0 hz ln s1 => ?_⟩
    have hp := s1 _ _ hp0
    have hq := s1 _ _ hq0
    have k : ∀ H' : Hp, Rep Y.toCs H' (.leaf n v) p → (∀ b o, H1 b = some o → b ≠ p → H' b = some o) → Q .non H' := fun H' r g => k0 H' r fun b o e hb => g b o (s1 _ _ e) hb
    have nqp : q ≠ p := ne_of hq hp (by intro z; cases z)
    have nzp : z ≠ p := ne_of hz hp (by intro z; cases z)
    have hq2 : ∀ o, (upd H1 p o) q = some (.tup (v.map vI)) := fun o => by rw [upd_ne nqp]; exact hq
    have hz2 : ∀ o, (upd H1 p o) z = some (.lst ((l ++ [x]).map vI)) := fun o => by rw [upd_ne nzp]; exact hz
    refine ⟨_, rfl, _, rfl, p, _, dx, _, rfl, hp, Y.cl_Leaf, Y.aL _ (by simp), few few0, ?_⟩
    refine ⟨_, rfl, _, rfl, p, _, dx, _, rfl, upd_same, Y.cl_Leaf, Y.aL _ (by simp), few (fewS few0), ?_⟩
    refine ⟨_, rfl, p, _, dx, _, rfl, upd_same, Y.cl_Leaf, Y.aL _ (by simp), few (fewS (fewS few0)), ?_⟩
    rw [upd_upd, upd_upd]
    refine ⟨_, rfl, q, _, rfl, .inr (SqT.of (hq2 _)), _, rfl, p, _, dx, _, rfl, upd_same, Y.cl_Leaf, Y.aL _ (by simp), few (fewS (fewS (fewS few0))), ?_⟩
    rw [upd_upd]
    refine ⟨_, rfl, p, _, dx, _, rfl, upd_same, Y.cl_Leaf, Y.aL _ (by simp), few (fewS (fewS (fewS (fewS few0)))), ?_⟩
    rw [upd_upd]
    refine ⟨_, rfl, z, _, rfl, .inl (SqL.of (hz2 _)), ?_⟩
    refine ⟨_, _, rfl, rfl, _, rfl, p, _, dx, _, rfl, upd_same, Y.cl_Leaf, Y.aL _ (by simp), few (fewS (fewS (fewS (fewS (fewS few0))))), ?_⟩
    rw [upd_upd]
    refine ⟨_, rfl, z, _, _, _, rfl, rfl, SqL.of (hz2 _), atI_nat (j := 0) (at_nat ln.head), ?_⟩
    refine ⟨_, rfl, p, _, dx, _, rfl, upd_same, Y.cl_Leaf, Y.aL _ (by simp), few (fewS (fewS (fewS (fewS (fewS (fewS few0)))))), ?_⟩
    rw [upd_upd]
    refine ⟨_, rfl, _, rfl, z, _, _, vI x, rfl, rfl, SqL.of (hz2 _), ?_, ?_⟩
    · rw [List.map_append]
      exact Lx.at_last _ _
    refine ⟨_, rfl, p, _, dx, _, rfl, upd_same, Y.cl_Leaf, Y.aL _ (by simp), few (fewS (fewS (fewS (fewS (fewS (fewS (fewS few0))))))), ?_⟩
    rw [upd_upd]
    have pos : 0 < (Ph.ofN (l ++ [x])).length := by simp [Ph.ofN]
    have mx : ∀ m : Int, m ∈ Ph.ofN (l ++ [x]) → (∀ y, y ∈ Ph.ofN (l ++ [x]) → y ≤ m) → m = (((Ue01.longestOf (Ue01.sumOf v)).1 : Nat) : Int) := fun m h1 h2 => by
      obtain ⟨b1, b2, b3⟩ := ln.best
      obtain ⟨a, ha, rfl⟩ := List.mem_map.mp h1
      have u1 := b2 a ha
      have u2 := h2 _ (List.mem_map.mpr ⟨_, List.mem_of_getElem? b1, rfl⟩)
      have u3 : (((Ue01.longestOf (Ue01.sumOf v)).1 : Nat) : Int) ≤ ((a : Nat) : Int) := u2
      show ((a : Nat) : Int) = _
      omega
    refine ⟨_, rfl, .inl ⟨rfl, _, SqL.of (hz2 _)⟩, ?_⟩
    refine ⟨_, rfl, z, Ph.ofN (l ++ [x]), rfl, ?_, pos, fun m h1 h2 => ?_⟩
    · rw [← map_vI]
      exact SqL.of (hz2 _)
    rw [mx m h1 h2]
    obtain ⟨b1, b2, b3⟩ := ln.best
    refine ⟨z, _, _, (Ue01.longestOf (Ue01.sumOf v)).2, _, rfl, rfl, SqL.of (hz2 _), rfl, ?_, at_nat b1, ?_, ?_, ?_⟩
    · rw [List.all_map]
      exact List.all_eq_true.mpr fun _ _ => rfl
    · exact eqV_self _
    · intro i w' hi hw
      rw [List.getElem?_map] at hw
      obtain ⟨a, ha, rfl⟩ := Option.map_eq_some_iff.mp hw
      have := b3 i a hi ha
      exact eqV_off (by omega)
    refine ⟨_, rfl, z, Ph.ofN (l ++ [x]), rfl, ?_, pos, fun m h1 h2 => ?_⟩
    · rw [← map_vI]
      exact SqL.of (hz2 _)
    rw [mx m h1 h2]
    refine ⟨(by show 2 ≤ sizeLine; decide), fun t ht => ?_⟩
    have ntp : p ≠ t := fun e => by rw [← e, upd_same] at ht; cases ht
    refine ⟨_, rfl, p, _, dx, _, rfl, (by rw [upd_ne ntp]; exact upd_same), Y.cl_Leaf, Y.aL _ (by simp), few (fewS (fewS (fewS (fewS (fewS (fewS (fewS (fewS few0)))))))), ?_⟩
    have ht1 : H1 t = none := by rw [upd_ne (Ne.symm ntp)] at ht; exact ht
    refine k _ ⟨dx, q, _, upd_same, ?_, ?_, ?_, ?_, ?_, ?_, ?_, ?_, ?_, t, ?_, ?_⟩ fun b o e hb => ?_
    · rw [upd_ne nqp, upd_ne (ne_of_none hq ht1), upd_ne nqp]; exact hq
    · rfl
    · rfl
    · rfl
    · refine Eq.trans rfl (congrArg (fun z : Nat => some (V.int ((z : Nat) : Int))) (List.length_map vI))
    · refine Eq.trans rfl (congrArg (fun z : Int => some (V.int z)) (show ((((l ++ [x]).map vI).length : Nat) : Int) - 1 = ((v.count 10 : Nat) : Int) from ?_))
      rw [List.length_map, List.length_append, List.length_cons, List.length_nil, ← Ph.sumOf_breaks, ln.brk]
      omega
    · rfl
    · rfl
    · refine Eq.trans rfl (congrArg (fun z : Nat => some (V.int ((z : Nat) : Int))) ln.tail.symm)
    · rfl
    · rw [upd_ne (Ne.symm ntp), upd_same]
    · rw [upd_ne hb, upd_ne (ne_of_none e ht1), upd_ne hb]; exact e
theorem sc_Maker_leaf : FnScope ["self", "content"] ["self", "content"] (defScope s_Maker_leaf) := ⟨rfl, rfl, rfl, by decide +kernel, rfl, by decide +kernel, by decide +kernel⟩
def spLeaf (c : Cs) : Sp := fun vs H Q _ => ∃ (M p : Addr) (n : Nat) (w : List Nat), vs = [.ref M, .ref p] ∧ MakerAt c H M n ∧ H p = some (.tup (w.map vI)) ∧ w.length ≤ 1000 ∧ Post c M H (n + 1) (some (.leaf n w)) Q
theorem ok_Maker_leaf (Y : TX K mg) : FnOk P w K mg base CX0 4 Y.f_Maker_leaf Y.d_Maker_leaf ["self", "content"] (spLeaf Y.toCs) := by
  refine Y.m_Maker_leaf.fn.ok sc_Maker_leaf (fun vs H Q E h => ?_) (fun cdv A outer s H vs Q E hr h => ?_)
  · obtain ⟨M, p, n, v, rfl, _⟩ := h
    rfl
  · obtain ⟨M, q, n, v, rfl, hM, hq, hv, k⟩ := h
    refine ⟨_, (pss_cons (ps_fldaug (pv 0) pe_int in_add)
      (pss_one (ps_ret (pe_make Y.mk_Leaf (ok_Leaf_init Y) (hr.mono (by decide)) rfl Y.c_Leaf Y.i_Leaf.bd .nil pass0 (pa_cons (pe_fld (pv 0) rfl) (pa_cons (pv 1) pa_nil)))))), ?_⟩
    have hM0 := hM
    obtain ⟨dM, hM⟩ := hM
    have nqM : q ≠ M := ne_of hq hM (by intro z; cases z)
    refine ⟨_, rfl, M, _, dM, _, _, rfl, hM, Y.cl_Maker, Y.aM _ (by simp), rfl, _, _, rfl, rfl, dM, _, hM, few (k := 1) (by simp), ?_⟩
    refine ⟨_, rfl, M, _, dM, _, _, rfl, upd_same, Y.cl_Maker, Y.aM _ (by simp), rfl, ?_⟩
    refine ⟨_, rfl, ?_⟩
    intro p dx h1 h2 h3
    have k1 : Keep M H (upd H M (.ins Y.CM dM [("made", .int ((n + 1 : Nat) : Int))])) := fun b o e hb => by rw [upd_ne hb]; exact e
    have k2 : Same (upd H M (.ins Y.CM dM [("made", .int ((n + 1 : Nat) : Int))])) (upd (upd (upd H M (.ins Y.CM dM [("made", .int ((n + 1 : Nat) : Int))])) dx (.own p)) p (.ins Y.CL dx [])) := fun b o e => by
      rw [upd_ne (ne_of_none e h1), upd_ne (ne_of_none e h2)]; exact e
    have k3 := k1.trans (Keep.of k2)
    refine ⟨p, dx, q, n, v, rfl, upd_same, k3 _ _ hq nqM, hv, fun H' hR hk => ⟨rfl, ?_⟩⟩
    have e1 : (upd H M (.ins Y.CM dM [("made", .int ((n + 1 : Nat) : Int))])) M = some (.ins Y.CM dM [("made", .int ((n + 1 : Nat) : Int))]) := upd_same
    have nMp : M ≠ p := ne_of_none e1 h1
    exact k H' (.ref p) ⟨dM, hk _ _ (k2 _ _ e1) nMp⟩ ⟨p, rfl, hR⟩ fun b o e hb => hk b o (k3 b o e hb) (ne_of_none (k1 b o e hb) h1)
end
end Pw
set_option Elab.async false
set_option linter.all false
set_option maxRecDepth 100000
namespace Ph
open T
theorem lean_near {n : Nat} {x t : T} (h : t.ht ≤ x.ht + 1) : lean n x t = (.fork n x t, n + 1) := by
  rw [lean.eq_def, if_pos h]
theorem lean_two {n i : Nat} {x p q : T} (h : ¬ (T.fork i p q).ht ≤ x.ht + 1) (k : p.ht ≤ q.ht) : lean n x (.fork i p q) = (.fork (n + 1) (.fork n x p) q, n + 2) := by
  rw [lean.eq_def, if_neg h]
  exact if_pos k
theorem lean_three {n i j : Nat} {x y z q : T} (h : ¬ (T.fork i (.fork j y z) q).ht ≤ x.ht + 1) (k : ¬ (T.fork j y z).ht ≤ q.ht) : lean n x (.fork i (.fork j y z) q) = (.fork (n + 2) (.fork n x y) (.fork (n + 1) z q), n + 3) := by
  rw [lean.eq_def, if_neg h]
  exact if_neg k
theorem leanB_near {n : Nat} {x t : T} (h : t.ht ≤ x.ht + 1) : leanB n t x = (.fork n t x, n + 1) := by
  rw [leanB.eq_def, if_pos h]
theorem leanB_two {n i : Nat} {x p q : T} (h : ¬ (T.fork i p q).ht ≤ x.ht + 1) (k : q.ht ≤ p.ht) : leanB n (.fork i p q) x = (.fork (n + 1) p (.fork n q x), n + 2) := by
  rw [leanB.eq_def, if_neg h]
  exact if_pos k
theorem leanB_three {n i j : Nat} {x y z p : T} (h : ¬ (T.fork i p (.fork j y z)).ht ≤ x.ht + 1) (k : ¬ (T.fork j y z).ht ≤ p.ht) : leanB n (.fork i p (.fork j y z)) x = (.fork (n + 2) (.fork n p y) (.fork (n + 1) z x), n + 3) := by
  rw [leanB.eq_def, if_neg h]
  exact if_neg k
end Ph
namespace Pw
open PySem PySem.Spec PyProof.Rows L2
section
variable {P : Program} {w : World} {K : PySem.W.Frag} {mg : Str → Option Value} {base : Heap}
theorem sc_with_behind : FnScope ["maker", "x", "t", "p", "q"] ["maker", "x", "t"] (defScope s_with_behind) := ⟨rfl, rfl, rfl, by decide +kernel, rfl, by decide +kernel, by decide +kernel⟩
def spWB (c : Cs) : Sp := fun vs H Q _ => ∃ (M x t : Addr) (n : Nat) (tx tt : Ph.T), vs = [.ref M, .ref x, .ref t] ∧ MakerAt c H M n ∧ Rep c H tx x ∧ Rep c H tt t ∧ Post c M H (Ph.lean n tx tt).2 (some (Ph.lean n tx tt).1) Q
theorem ok_with_behind (Y : TX K mg) : FnOk P w K mg base CX0 5 Y.f_with_behind Y.d_with_behind ["maker", "x", "t"] (spWB Y.toCs) := by
  refine Y.g_with_behind.fn.ok sc_with_behind (fun vs H Q E h => ?_) (fun cdv A outer s H vs Q E hr h => ?_)
  · obtain ⟨M, x, t, n, tx, tt, rfl, _⟩ := h
    rfl
  · obtain ⟨M, x, t, n, tx, tt, rfl, hM, hx, ht, k⟩ := h
    refine ⟨_, (pss_cons (ps_if (pt_cmpR op_le (pe_fld (pv 2) rfl) (pe_op op_add (pe_fld (pv 1) rfl) pe_int) (nomark _)) (pss_one (ps_ret (pe_meth (pv 0) Y.cl_Maker Y.m_Maker_over.me (ok_Maker_over Y) (hr.mono (by decide)) Y.m_Maker_over.bd .nil pass0 (pa_cons (pv 1) (pa_cons (pv 2) pa_nil))))) pss_nil)
      (pss_cons (ps_set (i := 3) sc_with_behind.nd rfl (Or.inl rfl) (pe_fld (pv 2) rfl))
      (pss_cons (ps_set (i := 4) sc_with_behind.nd rfl (Or.inl rfl) (pe_fld (pv 2) rfl))
      (pss_cons (ps_if (pt_cmpR op_le (pe_fld (pv 3) rfl) (pe_fld (pv 4) rfl) (nomark _)) (pss_one (ps_ret (pe_meth (pv 0) Y.cl_Maker Y.m_Maker_over.me (ok_Maker_over Y) (hr.mono (by decide)) Y.m_Maker_over.bd .nil pass0 (pa_cons (pe_meth (pv 0) Y.cl_Maker Y.m_Maker_over.me (ok_Maker_over Y) (hr.mono (by decide)) Y.m_Maker_over.bd .nil pass0 (pa_cons (pv 1) (pa_cons (pv 3) pa_nil))) (pa_cons (pv 4) pa_nil))))) pss_nil)
      (pss_one (ps_ret (pe_meth (pv 0) Y.cl_Maker Y.m_Maker_over.me (ok_Maker_over Y) (hr.mono (by decide)) Y.m_Maker_over.bd .nil pass0 (pa_cons (pe_meth (pv 0) Y.cl_Maker Y.m_Maker_over.me (ok_Maker_over Y) (hr.mono (by decide)) Y.m_Maker_over.bd .nil pass0 (pa_cons (pv 1) (pa_cons (pe_fld (pv 3) rfl) pa_nil))) (pa_cons (pe_meth (pv 0) Y.cl_Maker Y.m_Maker_over.me (ok_Maker_over Y) (hr.mono (by decide)) Y.m_Maker_over.bd .nil pass0 (pa_cons (pe_fld (pv 3) rfl) (pa_cons (pv 4) pa_nil))) pa_nil))))))))), ?_⟩
    refine ⟨_, rfl, ?_⟩
    refine fHt Y ht ?_
    refine ⟨_, rfl, ?_⟩
    refine fHt Y hx ?_
    refine ⟨_, _, rfl, rfl, _, _, rfl, rfl, _, rfl, ?_⟩
    refine ite2 (fun c => ?_) (fun c => ?_)
    · have c' : tt.ht ≤ tx.ht + 1 := by have := of_decide_eq_true c; omega
      rw [Ph.lean_near c'] at k
      obtain ⟨dM, eM⟩ := id hM
      refine ⟨_, rfl, M, dM, _, rfl, eM, rfl, _, rfl, _, rfl, ?_⟩
      exact ⟨M, x, t, n, tx, tt, rfl, hM, hx, ht, k⟩
    · have c' : ¬ tt.ht ≤ tx.ht + 1 := fun z => c (decide_eq_true (by omega))
      obtain ⟨i, p, q, rfl⟩ := Ph.T.ht_fork_of (t := tt) (by omega)
      obtain ⟨ap, aq, hp, hq, dx, fs, hf⟩ := ht.kids
      refine ⟨_, rfl, ?_⟩
      refine fFirst Y hf ?_
      refine ⟨_, rfl, ?_⟩
      refine fSecond Y hf ?_
      refine ⟨_, rfl, ?_⟩
      refine fHt Y hp ?_
      refine ⟨_, rfl, ?_⟩
      refine fHt Y hq ?_
      refine ⟨_, _, rfl, rfl, _, rfl, ?_⟩
      obtain ⟨dM, eM⟩ := id hM
      refine ite2 (fun d => ?_) (fun d => ?_)
      · have d' : p.ht ≤ q.ht := by have := of_decide_eq_true d; omega
        rw [Ph.lean_two c' d'] at k
        refine ⟨_, rfl, M, dM, _, rfl, eM, rfl, ?_⟩
        refine ⟨_, rfl, M, dM, _, rfl, eM, rfl, _, rfl, _, rfl, ?_⟩
        refine ⟨M, x, ap, n, tx, p, rfl, hM, hx, hp, fun H1 v1 m1 r1 k1 => ?_⟩
        obtain ⟨a1, rfl, r1⟩ := r1
        refine ⟨_, rfl, ?_⟩
        refine ⟨M, a1, aq, n + 1, _, q, rfl, m1, r1, hq.mono Y k1 hM, fun H2 v2 m2 r2 k2 => ?_⟩
        exact k H2 v2 m2 r2 (k1.trans k2)
      · have d' : ¬ p.ht ≤ q.ht := fun z => d (decide_eq_true (by omega))
        obtain ⟨j, y, z, rfl⟩ := Ph.T.ht_fork_of (t := p) (by omega)
        obtain ⟨ay, az, hy, hz, dp, fp, hfp⟩ := hp.kids
        rw [Ph.lean_three c' d'] at k
        refine ⟨_, rfl, M, dM, _, rfl, eM, rfl, ?_⟩
        refine ⟨_, rfl, M, dM, _, rfl, eM, rfl, _, rfl, ?_⟩
        refine ⟨_, rfl, ?_⟩
        refine fFirst Y hfp ?_
        refine ⟨M, x, ay, n, tx, y, rfl, hM, hx, hy, fun H1 v1 m1 r1 k1 => ?_⟩
        obtain ⟨a1, rfl, r1⟩ := r1
        obtain ⟨dM1, eM1⟩ := id m1
        refine ⟨_, rfl, M, dM1, _, rfl, eM1, rfl, ?_⟩
        obtain ⟨ay1, az1, hy1, hz1, dp1, fp1, hfp1⟩ := (hp.mono Y k1 hM).kids
        refine ⟨_, rfl, ?_⟩
        refine fSecond Y hfp1 ?_
        refine ⟨_, rfl, ?_⟩
        refine ⟨M, az1, aq, n + 1, z, q, rfl, m1, hz1, hq.mono Y k1 hM, fun H2 v2 m2 r2 k2 => ?_⟩
        obtain ⟨a2, rfl, r2⟩ := r2
        refine ⟨M, a1, a2, n + 2, _, _, rfl, m2, r1.mono Y k2 m1, r2, fun H3 v3 m3 r3 k3 => ?_⟩
        exact k H3 v3 m3 r3 ((k1.trans k2).trans k3)
theorem sc_with_ahead : FnScope ["maker", "x", "t", "p", "q"] ["maker", "x", "t"] (defScope s_with_ahead) := ⟨rfl, rfl, rfl, by decide +kernel, rfl, by decide +kernel, by decide +kernel⟩
def spWA (c : Cs) : Sp := fun vs H Q _ => ∃ (M x t : Addr) (n : Nat) (tx tt : Ph.T), vs = [.ref M, .ref x, .ref t] ∧ MakerAt c H M n ∧ Rep c H tx x ∧ Rep c H tt t ∧ Post c M H (Ph.leanB n tt tx).2 (some (Ph.leanB n tt tx).1) Q
theorem ok_with_ahead (Y : TX K mg) : FnOk P w K mg base CX0 5 Y.f_with_ahead Y.d_with_ahead ["maker", "x", "t"] (spWA Y.toCs) := by
  refine Y.g_with_ahead.fn.ok sc_with_ahead (fun vs H Q E h => ?_) (fun cdv A outer s H vs Q E hr h => ?_)
  · obtain ⟨M, x, t, n, tx, tt, rfl, _⟩ := h
    rfl
  · obtain ⟨M, x, t, n, tx, tt, rfl, hM, hx, ht, k⟩ := h
    refine ⟨_, (pss_cons (ps_if (pt_cmpR op_le (pe_fld (pv 2) rfl) (pe_op op_add (pe_fld (pv 1) rfl) pe_int) (nomark _)) (pss_one (ps_ret (pe_meth (pv 0) Y.cl_Maker Y.m_Maker_over.me (ok_Maker_over Y) (hr.mono (by decide)) Y.m_Maker_over.bd .nil pass0 (pa_cons (pv 2) (pa_cons (pv 1) pa_nil))))) pss_nil)
      (pss_cons (ps_set (i := 3) sc_with_ahead.nd rfl (Or.inl rfl) (pe_fld (pv 2) rfl))
      (pss_cons (ps_set (i := 4) sc_with_ahead.nd rfl (Or.inl rfl) (pe_fld (pv 2) rfl))
      (pss_cons (ps_if (pt_cmpR op_le (pe_fld (pv 4) rfl) (pe_fld (pv 3) rfl) (nomark _)) (pss_one (ps_ret (pe_meth (pv 0) Y.cl_Maker Y.m_Maker_over.me (ok_Maker_over Y) (hr.mono (by decide)) Y.m_Maker_over.bd .nil pass0 (pa_cons (pv 3) (pa_cons (pe_meth (pv 0) Y.cl_Maker Y.m_Maker_over.me (ok_Maker_over Y) (hr.mono (by decide)) Y.m_Maker_over.bd .nil pass0 (pa_cons (pv 4) (pa_cons (pv 1) pa_nil))) pa_nil))))) pss_nil)
      (pss_one (ps_ret (pe_meth (pv 0) Y.cl_Maker Y.m_Maker_over.me (ok_Maker_over Y) (hr.mono (by decide)) Y.m_Maker_over.bd .nil pass0 (pa_cons (pe_meth (pv 0) Y.cl_Maker Y.m_Maker_over.me (ok_Maker_over Y) (hr.mono (by decide)) Y.m_Maker_over.bd .nil pass0 (pa_cons (pv 3) (pa_cons (pe_fld (pv 4) rfl) pa_nil))) (pa_cons (pe_meth (pv 0) Y.cl_Maker Y.m_Maker_over.me (ok_Maker_over Y) (hr.mono (by decide)) Y.m_Maker_over.bd .nil pass0 (pa_cons (pe_fld (pv 4) rfl) (pa_cons (pv 1) pa_nil))) pa_nil))))))))), ?_⟩
    refine ⟨_, rfl, ?_⟩
    refine fHt Y ht ?_
    refine ⟨_, rfl, ?_⟩
    refine fHt Y hx ?_
    refine ⟨_, _, rfl, rfl, _, _, rfl, rfl, _, rfl, ?_⟩
    refine ite2 (fun c => ?_) (fun c => ?_)
    · have c' : tt.ht ≤ tx.ht + 1 := by have := of_decide_eq_true c; omega
      rw [Ph.leanB_near c'] at k
      obtain ⟨dM, eM⟩ := id hM
      refine ⟨_, rfl, M, dM, _, rfl, eM, rfl, _, rfl, _, rfl, ?_⟩
      exact ⟨M, t, x, n, tt, tx, rfl, hM, ht, hx, k⟩
    · have c' : ¬ tt.ht ≤ tx.ht + 1 := fun z => c (decide_eq_true (by omega))
      obtain ⟨i, p, q, rfl⟩ := Ph.T.ht_fork_of (t := tt) (by omega)
      obtain ⟨ap, aq, hp, hq, dx, fs, hf⟩ := ht.kids
      refine ⟨_, rfl, ?_⟩
      refine fFirst Y hf ?_
      refine ⟨_, rfl, ?_⟩
      refine fSecond Y hf ?_
      refine ⟨_, rfl, ?_⟩
      refine fHt Y hq ?_
      refine ⟨_, rfl, ?_⟩
      refine fHt Y hp ?_
      refine ⟨_, _, rfl, rfl, _, rfl, ?_⟩
      obtain ⟨dM, eM⟩ := id hM
      refine ite2 (fun d => ?_) (fun d => ?_)
      · have d' : q.ht ≤ p.ht := by have := of_decide_eq_true d; omega
        rw [Ph.leanB_two c' d'] at k
        refine ⟨_, rfl, M, dM, _, rfl, eM, rfl, _, rfl, ?_⟩
        refine ⟨_, rfl, M, dM, _, rfl, eM, rfl, _, rfl, _, rfl, ?_⟩
        refine ⟨M, aq, x, n, q, tx, rfl, hM, hq, hx, fun H1 v1 m1 r1 k1 => ?_⟩
        obtain ⟨a1, rfl, r1⟩ := r1
        refine ⟨M, ap, a1, n + 1, p, _, rfl, m1, hp.mono Y k1 hM, r1, fun H2 v2 m2 r2 k2 => ?_⟩
        exact k H2 v2 m2 r2 (k1.trans k2)
      · have d' : ¬ q.ht ≤ p.ht := fun z => d (decide_eq_true (by omega))
        obtain ⟨j, y, z, rfl⟩ := Ph.T.ht_fork_of (t := q) (by omega)
        obtain ⟨ay, az, hy, hz, dp, fp, hfp⟩ := hq.kids
        rw [Ph.leanB_three c' d'] at k
        refine ⟨_, rfl, M, dM, _, rfl, eM, rfl, ?_⟩
        refine ⟨_, rfl, M, dM, _, rfl, eM, rfl, _, rfl, ?_⟩
        refine ⟨_, rfl, ?_⟩
        refine fFirst Y hfp ?_
        refine ⟨M, ap, ay, n, p, y, rfl, hM, hp, hy, fun H1 v1 m1 r1 k1 => ?_⟩
        obtain ⟨a1, rfl, r1⟩ := r1
        obtain ⟨dM1, eM1⟩ := id m1
        refine ⟨_, rfl, M, dM1, _, rfl, eM1, rfl, ?_⟩
        obtain ⟨ay1, az1, hy1, hz1, dp1, fp1, hfp1⟩ := (hq.mono Y k1 hM).kids
        refine ⟨_, rfl, ?_⟩
        refine fSecond Y hfp1 ?_
        refine ⟨_, rfl, ?_⟩
        refine ⟨M, az1, x, n + 1, z, tx, rfl, m1, hz1, hx.mono Y k1 hM, fun H2 v2 m2 r2 k2 => ?_⟩
        obtain ⟨a2, rfl, r2⟩ := r2
        refine ⟨M, a1, a2, n + 2, _, _, rfl, m2, r1.mono Y k2 m1, r2, fun H3 v3 m3 r3 k3 => ?_⟩
        exact k H3 v3 m3 r3 ((k1.trans k2).trans k3)
theorem sc_first_leaf : FnScope ["tree", "node"] ["tree"] (defScope s_first_leaf) := ⟨rfl, rfl, rfl, by decide +kernel, rfl, by decide +kernel, by decide +kernel⟩
/-- the leaf at whose bytes a tree begins (ends) -/
def spFirst (c : Cs) : Sp := fun vs H Q _ => ∃ (a : Addr) (t : Ph.T), vs = [.ref a] ∧ Rep c H t a ∧ ∀ (b : Addr) (i : Nat) (dx p : Addr) (fs : List (Str × V)), LeafAt c H b i t.firstW dx p fs → Q (.ref b) H
theorem ok_first_leaf (Y : TX K mg) : FnOk P w K mg base CX0 1 Y.f_first_leaf Y.d_first_leaf ["tree"] (spFirst Y.toCs) := by
  refine Y.g_first_leaf.fn.ok sc_first_leaf (fun vs H Q E h => ?_) (fun cdv A outer s H vs Q E hr h => ?_)
  · obtain ⟨a, t, rfl, _⟩ := h
    rfl
  · obtain ⟨a, t, rfl, ht, k⟩ := h
    refine ⟨_, (pss_cons (ps_set (i := 1) sc_first_leaf.nd rfl (Or.inl rfl) (pv 0))
      (pss_cons (ps_while PassesOwn.never (pt_cmpR op_gt (pe_fld (pv 1) rfl) pe_int (nomark _)) (pss_one (ps_set (i := 1) sc_first_leaf.nd rfl (Or.inl rfl) (pe_fld (pv 1) rfl))))
      (pss_one (ps_ret (pv 1))))), ?_⟩
    refine ⟨_, rfl, ?_⟩
    refine ⟨fun m σ H' => ∃ (b : Addr) (u : Ph.T), σ = [some (.ref a), some (.ref b)] ∧ H' = H ∧ Rep Y.toCs H u b ∧ u.firstW = t.firstW ∧ m = u.ht, ⟨_, a, t, rfl, rfl, ht, rfl, rfl⟩, ?_⟩
    rintro m σ H' ⟨b, u, rfl, rfl, hu, e, rfl⟩
    refine ⟨_, rfl, ?_⟩
    refine fHt Y hu ?_
    refine ⟨_, _, rfl, rfl, _, rfl, ?_⟩
    refine ite2 (fun c => ?_) (fun c => ?_)
    · have c' : 0 < u.ht := by have := of_decide_eq_true c; omega
      obtain ⟨i, p, q, rfl⟩ := Ph.T.ht_fork_of c'
      obtain ⟨ap, aq, hp, hq, dx, fs, hf⟩ := hu.kids
      refine ⟨fun σ' H2 => ∃ (b : Addr) (u : Ph.T), σ' = [some (.ref a), some (.ref b)] ∧ H2 = H' ∧ Rep Y.toCs H' u b ∧ u.firstW = t.firstW ∧ u.ht < (Ph.T.fork i p q).ht, ?_, ?_⟩
      · rintro σ' H'' ⟨b', u', rfl, rfl, h1, h2, h3⟩
        exact ⟨_, h3, b', u', rfl, rfl, h1, h2, rfl⟩
      · refine ⟨_, rfl, ?_⟩
        refine fFirst Y hf ?_
        exact ⟨ap, p, rfl, rfl, hp, e, by simp only [Ph.T.ht]; omega⟩
    · have c' : u.ht = 0 := by
        by_cases z : 0 < u.ht
        · exact absurd (decide_eq_true (by omega)) c
        · omega
      cases u with
      | fork i p q => simp [Ph.T.ht] at c'
      | leaf i v =>
        obtain ⟨dx, p, fs, hl⟩ := hu
        have e' : v = t.firstW := e
        subst e'
        exact ⟨_, rfl, k b i dx p fs hl⟩
theorem sc_last_leaf : FnScope ["tree", "node"] ["tree"] (defScope s_last_leaf) := ⟨rfl, rfl, rfl, by decide +kernel, rfl, by decide +kernel, by decide +kernel⟩
def spLast (c : Cs) : Sp := fun vs H Q _ => ∃ (a : Addr) (t : Ph.T), vs = [.ref a] ∧ Rep c H t a ∧ ∀ (b : Addr) (i : Nat) (dx p : Addr) (fs : List (Str × V)), LeafAt c H b i t.lastW dx p fs → Q (.ref b) H
theorem ok_last_leaf (Y : TX K mg) : FnOk P w K mg base CX0 1 Y.f_last_leaf Y.d_last_leaf ["tree"] (spLast Y.toCs) := by
  refine Y.g_last_leaf.fn.ok sc_last_leaf (fun vs H Q E h => ?_) (fun cdv A outer s H vs Q E hr h => ?_)
  · obtain ⟨a, t, rfl, _⟩ := h
    rfl
  · obtain ⟨a, t, rfl, ht, k⟩ := h
    refine ⟨_, (pss_cons (ps_set (i := 1) sc_last_leaf.nd rfl (Or.inl rfl) (pv 0))
      (pss_cons (ps_while PassesOwn.never (pt_cmpR op_gt (pe_fld (pv 1) rfl) pe_int (nomark _)) (pss_one (ps_set (i := 1) sc_last_leaf.nd rfl (Or.inl rfl) (pe_fld (pv 1) rfl))))
      (pss_one (ps_ret (pv 1))))), ?_⟩
    refine ⟨_, rfl, ?_⟩
    refine ⟨fun m σ H' => ∃ (b : Addr) (u : Ph.T), σ = [some (.ref a), some (.ref b)] ∧ H' = H ∧ Rep Y.toCs H u b ∧ u.lastW = t.lastW ∧ m = u.ht, ⟨_, a, t, rfl, rfl, ht, rfl, rfl⟩, ?_⟩
    rintro m σ H' ⟨b, u, rfl, rfl, hu, e, rfl⟩
    refine ⟨_, rfl, ?_⟩
    refine fHt Y hu ?_
    refine ⟨_, _, rfl, rfl, _, rfl, ?_⟩
    refine ite2 (fun c => ?_) (fun c => ?_)
    · have c' : 0 < u.ht := by have := of_decide_eq_true c; omega
      obtain ⟨i, p, q, rfl⟩ := Ph.T.ht_fork_of c'
      obtain ⟨ap, aq, hp, hq, dx, fs, hf⟩ := hu.kids
      refine ⟨fun σ' H2 => ∃ (b : Addr) (u : Ph.T), σ' = [some (.ref a), some (.ref b)] ∧ H2 = H' ∧ Rep Y.toCs H' u b ∧ u.lastW = t.lastW ∧ u.ht < (Ph.T.fork i p q).ht, ?_, ?_⟩
      · rintro σ' H'' ⟨b', u', rfl, rfl, h1, h2, h3⟩
        exact ⟨_, h3, b', u', rfl, rfl, h1, h2, rfl⟩
      · refine ⟨_, rfl, ?_⟩
        refine fSecond Y hf ?_
        exact ⟨aq, q, rfl, rfl, hq, e, by simp only [Ph.T.ht]; omega⟩
    · have c' : u.ht = 0 := by
        by_cases z : 0 < u.ht
        · exact absurd (decide_eq_true (by omega)) c
        · omega
      cases u with
      | fork i p q => simp [Ph.T.ht] at c'
      | leaf i v =>
        obtain ⟨dx, p, fs, hl⟩ := hu
        have e' : v = t.lastW := e
        subst e'
        exact ⟨_, rfl, k b i dx p fs hl⟩
end
end Pw
set_option Elab.async false
set_option linter.all false
set_option maxRecDepth 100000
namespace Pw
open PySem PySem.Spec PyProof.Rows L2
/-! ### frames, lists, heaps -/
/-- no node, no tuple stands there -/
structure NB (H : Hp) (p : Addr) : Prop where
  ins : ∀ C dx fs, H p ≠ some (.ins C dx fs)
  tup : ∀ xs, H p ≠ some (.tup xs)
theorem NB.none {H : Hp} {p : Addr} (h : H p = Option.none) : NB H p := ⟨fun _ _ _ e => (by rw [h] at e; cases e), fun _ e => (by rw [h] at e; cases e)⟩
theorem NB.lst {H : Hp} {p : Addr} {xs : List V} (h : H p = some (.lst xs)) : NB H p := ⟨fun _ _ _ e => (by rw [h] at e; cases e), fun _ e => (by rw [h] at e; cases e)⟩
theorem NB.dK {H : Hp} {p : Addr} {xs : List (Key × V)} (h : H p = some (.dK xs)) : NB H p := ⟨fun _ _ _ e => (by rw [h] at e; cases e), fun _ e => (by rw [h] at e; cases e)⟩
theorem Rep.at {c : Cs} {H : Hp} {p : Addr} (nb : NB H p) (o : HO) : ∀ {t : Ph.T} {a : Addr}, Rep c H t a → Rep c (L2.upd H p o) t a
  | .leaf i w, a, ⟨d, q, fs, e⟩ => by
    have n1 : a ≠ p := fun z => nb.ins _ _ _ (z ▸ e.ob)
    have n2 : q ≠ p := fun z => nb.tup _ (z ▸ e.tup)
    exact ⟨d, q, fs, by rw [upd_ne n1]; exact e.ob, by rw [upd_ne n2]; exact e.tup, e.number, e.content, e.height, e.size, e.feeds, e.more.go fun z xs ez => by rw [upd_ne (fun y => nb.tup _ (y ▸ ez))]; exact ez⟩
  | .fork i l r, a, ⟨d, x, y, fs, e, h1, h2⟩ => by
    have n1 : a ≠ p := fun z => nb.ins _ _ _ (z ▸ e.ob)
    exact ⟨d, x, y, fs, ⟨by rw [upd_ne n1]; exact e.ob, e.number, e.first, e.second, e.height, e.size, e.feeds, e.more.go fun z xs ez => by rw [upd_ne (fun y => nb.tup _ (y ▸ ez))]; exact ez⟩, h1.at nb o, h2.at nb o⟩
theorem RepO.at {c : Cs} {H : Hp} {p : Addr} (nb : NB H p) (o : HO) {t : Option Ph.T} {v : V} (h : RepO c H t v) : RepO c (L2.upd H p o) t v := by
  cases t with
  | none => exact h
  | some t =>
    obtain ⟨a, e, r⟩ := h
    exact ⟨a, e, r.at nb o⟩
theorem MakerAt.at {c : Cs} {H : Hp} {M p : Addr} {n : Nat} (h : MakerAt c H M n) (nb : NB H p) (o : HO) : MakerAt c (upd H p o) M n := by
  obtain ⟨d, e⟩ := h
  exact ⟨d, by rw [upd_ne (fun z => nb.ins _ _ _ (z ▸ e))]; exact e⟩
theorem Keep.at {M : Addr} {H Hc : Hp} {p : Addr} (k : Keep M H Hc) (h : H p = none) (o : HO) : Keep M H (upd Hc p o) := fun b u e hb => by
  rw [upd_ne (ne_of_none e h)]; exact k b u e hb
/-- a list walked from its end -/
theorem for_rev {K : PySem.W.Frag} {a : Addr} {xs : List V} {g : TG} {tb : TS} {D : Ends} {σ : L2.St} {H : Hp} (Pv : Nat → L2.St → Hp → Prop) (h0 : Pv 0 σ H) (hl : ∀ i σ H, i ≤ xs.length → Pv i σ H → SqL K H a xs)
    (hs : ∀ i x σ H, i < xs.length → xs[xs.length - 1 - i]? = some x → Pv i σ H → g x σ H fun σ2 H2 => tb { D with nx := Pv (i + 1), ct := Pv (i + 1), bk := D.nx } σ2 H2) (hd : ∀ σ H, Pv xs.length σ H → D.nx σ H) :
    ∃ W : Nat → Nat → L2.St → Hp → Prop, (∃ m, W 0 m σ H) ∧ ∀ i m σ H, W i m σ H →
      ((Itv K a xs.length).stop i H ∧ D.nx σ H) ∨ ((Itv K a xs.length).go i H ∧ ∃ N : L2.St → Hp → Prop, (∀ σ' H', N σ' H' → ∃ m', m' < m ∧ W (i + 1) m' σ' H') ∧ ∀ x H', (Itv K a xs.length).yld i H x H' → g x σ H' fun σ2 H2 => tb { D with nx := N, ct := N, bk := D.nx } σ2 H2) := by
  refine ⟨fun i m σ H => m = xs.length - i ∧ i ≤ xs.length ∧ Pv i σ H, ⟨xs.length, by simp, Nat.zero_le _, h0⟩, ?_⟩
  rintro i m σ H ⟨rfl, hi, p⟩
  have q := hl i σ H hi p
  by_cases hlt : i < xs.length
  · obtain ⟨x, hx⟩ : ∃ x, xs[xs.length - 1 - i]? = some x := ⟨_, List.getElem?_eq_getElem (by omega)⟩
    refine .inr ⟨⟨hlt, xs, x, q, hx⟩, Pv (i + 1), fun σ' H' p' => ⟨xs.length - (i + 1), by omega, rfl, hlt, p'⟩, fun x H' y => ?_⟩
    obtain ⟨e, y⟩ := y
    subst e
    exact hs i x σ _ hlt (y xs q) p
  · have e : i = xs.length := by omega
    subst e
    exact .inl ⟨Nat.le_refl _, hd σ H p⟩
/-- the frames that joined remembers: a node, and whether the rest goes behind it -/
def stepF (f : Ph.T × Bool) (r : Ph.T × Nat) : Ph.T × Nat := if f.2 = true then Ph.lean r.2 f.1 r.1 else Ph.leanB r.2 r.1 f.1
def unwind (fr : List (Ph.T × Bool)) (r : Ph.T × Nat) : Ph.T × Nat := fr.foldr stepF r
theorem unwind_snoc (fr : List (Ph.T × Bool)) (f : Ph.T × Bool) (r : Ph.T × Nat) : unwind (fr ++ [f]) r = unwind fr (stepF f r) := by simp [unwind]
def FrAt (c : Cs) (H : Hp) : List V → List (Ph.T × Bool) → Prop := Paired fun v f => ∃ p x, v = .ref p ∧ H p = some (.tup [.ref x, .bl f.2]) ∧ Rep c H f.1 x
theorem paired_snoc {α β : Type} {F : α → β → Prop} : ∀ {l : List α} {m : List β} {a : α} {b : β}, Paired F l m → F a b → Paired F (l ++ [a]) (m ++ [b])
  | _, _, _, _, .nil, h => .cons h .nil
  | _, _, _, _, .cons r t, h => .cons r (paired_snoc t h)
theorem paired_get {α β : Type} {F : α → β → Prop} : ∀ {l : List α} {m : List β} {i : Nat} {a : α}, Paired F l m → l[i]? = some a → ∃ b, m[i]? = some b ∧ F a b
  | _, _, _, _, .nil, h => by simp at h
  | _, _, 0, _, .cons r t, h => by
    simp at h; subst h
    exact ⟨_, rfl, r⟩
  | _, _, i + 1, a, .cons r t, h => by
    obtain ⟨b, h1, h2⟩ := paired_get (i := i) (a := a) t (by simpa using h)
    exact ⟨b, by simpa using h1, h2⟩
theorem paired_len {α β : Type} {F : α → β → Prop} : ∀ {l : List α} {m : List β}, Paired F l m → l.length = m.length
  | _, _, .nil => rfl
  | _, _, .cons _ t => by simp [paired_len t]
theorem drop_pred {α : Type} {l : List α} {i : Nat} {x : α} (h : i < l.length) (e : l[l.length - 1 - i]? = some x) : l.drop (l.length - (i + 1)) = x :: l.drop (l.length - i) := by
  have h1 : l.length - 1 - i < l.length := by omega
  have e1 : l[l.length - 1 - i] = x := by
    rw [List.getElem?_eq_getElem h1] at e; exact Option.some.inj e
  have e2 : l.length - (i + 1) = l.length - 1 - i := by omega
  rw [e2, List.drop_eq_getElem_cons h1, e1, show l.length - 1 - i + 1 = l.length - i by omega]
section
variable {P : Program} {w : World} {K : PySem.W.Frag} {mg : Str → Option Value} {base : Heap}
theorem FrAt.mono (Y : TX K mg) {H H' : Hp} {M : Addr} {n : Nat} (k : Keep M H H') (hM : MakerAt Y.toCs H M n) {xs : List V} {fr : List (Ph.T × Bool)} (h : FrAt Y.toCs H xs fr) : FrAt Y.toCs H' xs fr := by
  refine Paired.mapP h fun v f ⟨p, x, e1, e2, e3⟩ => ⟨p, x, e1, k _ _ e2 ?_, e3.mono Y k hM⟩
  obtain ⟨d, e⟩ := hM
  exact ne_of e2 e (by intro z; cases z)
theorem FrAt.at {c : Cs} {H : Hp} {p : Addr} (nb : NB H p) (o : HO) {xs : List V} {fr : List (Ph.T × Bool)} (h : FrAt c H xs fr) : FrAt c (upd H p o) xs fr :=
  Paired.mapP h fun v f ⟨q, x, e1, e2, e3⟩ => ⟨q, x, e1, by rw [upd_ne (fun z => nb.tup _ (z ▸ e2))]; exact e2, e3.at nb o⟩
theorem sc_joined : FnScope ["maker", "a", "b", "passed", "t", "x", "goes_behind"] ["maker", "a", "b"] (defScope s_joined) := ⟨rfl, rfl, rfl, by decide +kernel, rfl, by decide +kernel, by decide +kernel⟩
def spJoined (c : Cs) : Sp := fun vs H Q _ => ∃ (M : Addr) (va vb : V) (n : Nat) (oa ob : Option Ph.T), vs = [.ref M, va, vb] ∧ MakerAt c H M n ∧ RepO c H oa va ∧ RepO c H ob vb ∧ Ph.htO oa + Ph.htO ob ≤ 1000 ∧ Post c M H (Ph.joinO n oa ob).2 (Ph.joinO n oa ob).1 Q
theorem ok_joined (Y : TX K mg) : FnOk P w K mg base CX0 6 Y.f_joined Y.d_joined ["maker", "a", "b"] (spJoined Y.toCs) := by
  refine Y.g_joined.fn.ok sc_joined (fun vs H Q E h => ?_) (fun cdv A outer s H vs Q E hr h => ?_)
  · obtain ⟨M, va, vb, n, oa, ob, rfl, _⟩ := h
    rfl
  · obtain ⟨M, va, vb, n, oa, ob, rfl, hM, ha, hb, hh, k⟩ := h
    refine ⟨_, (pss_cons (ps_if (pt_cmpR op_isN (pv 1) pe_non (nomark _)) (pss_one (ps_ret (pv 2))) pss_nil)
      (pss_cons (ps_if (pt_cmpR op_isN (pv 2) pe_non (nomark _)) (pss_one (ps_ret (pv 1))) pss_nil)
      (pss_cons (ps_set (i := 3) sc_joined.nd rfl (Or.inl rfl) (pe_lst pa_nil))
      (pss_cons (ps_while PassesOwn.never (pt_cmpR op_gt (pe_callB call_abs (by rfl) Y.b_abs boot_abs (pa_cons (pe_op op_sub (pe_fld (pv 1) rfl) (pe_fld (pv 2) rfl)) pa_nil)) pe_int (nomark _)) (pss_one (ps_if (pt_cmpR op_gt (pe_fld (pv 1) rfl) (pe_fld (pv 2) rfl) (nomark _)) (pss_cons (ps_expr (pe_bm PySem.F.plainAttrs_list PySem.F.slot_list_append PySem.F.type_list_append mt_append (pv 3) (pa_cons (pe_tup (pa_cons (pe_fld (pv 1) rfl) (pa_cons pe_bl pa_nil))) pa_nil)))
          (pss_one (ps_set (i := 1) sc_joined.nd rfl (Or.inl rfl) (pe_fld (pv 1) rfl)))) (pss_cons (ps_expr (pe_bm PySem.F.plainAttrs_list PySem.F.slot_list_append PySem.F.type_list_append mt_append (pv 3) (pa_cons (pe_tup (pa_cons (pe_fld (pv 2) rfl) (pa_cons pe_bl pa_nil))) pa_nil)))
          (pss_one (ps_set (i := 2) sc_joined.nd rfl (Or.inl rfl) (pe_fld (pv 2) rfl)))))))
      (pss_cons (ps_set (i := 4) sc_joined.nd rfl (Or.inl rfl) (pe_meth (pv 0) Y.cl_Maker Y.m_Maker_over.me (ok_Maker_over Y) (hr.mono (by decide)) Y.m_Maker_over.bd .nil pass0 (pa_cons (pv 1) (pa_cons (pv 2) pa_nil))))
      (pss_cons (ps_for PassesOwn.never rfl (pi_reversed (by rfl) Y.b_reversed (pa_cons (pv 3) pa_nil)) (pg_tup rfl (pgs_cons (pg_name (i := 5) sc_joined.nd rfl (Or.inl rfl)) (pgs_cons (pg_name (i := 6) sc_joined.nd rfl (Or.inl rfl)) pgs_nil))) (pss_one (ps_if (pt_val (pv 6)) (pss_one (ps_set (i := 4) sc_joined.nd rfl (Or.inl rfl) (pe_call (ok_with_behind Y) (hr.mono (by decide)) rfl Y.g_with_behind.at_ Y.g_with_behind.fn.kp Y.g_with_behind.bd .nil pass0 (pa_cons (pv 0) (pa_cons (pv 5) (pa_cons (pv 4) pa_nil)))))) (pss_one (ps_set (i := 4) sc_joined.nd rfl (Or.inl rfl) (pe_call (ok_with_ahead Y) (hr.mono (by decide)) rfl Y.g_with_ahead.at_ Y.g_with_ahead.fn.kp Y.g_with_ahead.bd .nil pass0 (pa_cons (pv 0) (pa_cons (pv 5) (pa_cons (pv 4) pa_nil)))))))))
      (pss_one (ps_ret (pv 4))))))))), ?_⟩
    refine ⟨_, rfl, rfl, _, rfl, ?_⟩
    cases oa with
    | none =>
      have e : va = .non := ha
      subst e
      rw [if_pos (by simp)]
      exact ⟨_, rfl, k H vb hM hb (Keep.refl _ _)⟩
    | some ta =>
      obtain ⟨a, rfl, ha⟩ := ha
      rw [if_neg (by simp)]
      refine ⟨_, rfl, rfl, _, rfl, ?_⟩
      cases ob with
      | none =>
        have e : vb = .non := hb
        subst e
        rw [if_pos (by simp)]
        exact ⟨_, rfl, k H _ hM ⟨a, rfl, ha⟩ (Keep.refl _ _)⟩
      | some tb =>
        obtain ⟨b, rfl, hb⟩ := hb
        rw [if_neg (by simp)]
        refine ⟨Nat.zero_le _, fun L hL => ?_⟩
        have nbL := NB.none hL
        simp only [Ph.htO_some] at hh
        refine ⟨fun m σ H' => ∃ (a b : Addr) (ua ub : Ph.T) (xs : List V) (fr : List (Ph.T × Bool)), σ = [some (.ref M), some (.ref a), some (.ref b), some (.ref L), none, none, none] ∧ MakerAt Y.toCs H' M n ∧ Rep Y.toCs H' ua a ∧ Rep Y.toCs H' ub b ∧
          H' L = some (.lst xs) ∧ FrAt Y.toCs H' xs fr ∧ (∀ n, Ph.join n ta tb = unwind fr (Ph.join n ua ub)) ∧ fr.length + ua.ht + ub.ht ≤ 1000 ∧ Keep M H H' ∧ m = ua.ht + ub.ht,
          ⟨_, a, b, ta, tb, [], [], rfl, hM.at nbL _, ha.at nbL _, hb.at nbL _, upd_same, .nil, fun _ => rfl, by simp; omega, (Keep.refl M H).at hL _, rfl⟩, ?_⟩
        rintro m σ H1 ⟨a1, b1, ua, ub, xs, fr, rfl, m1, ra, rb, hl, hfr, hj, hlen, kp, rfl⟩
        refine ⟨_, rfl, ?_⟩
        refine fHt Y ra ?_
        refine ⟨_, rfl, ?_⟩
        refine fHt Y rb ?_
        refine ⟨_, _, rfl, rfl, _, rfl, _, _, rfl, rfl, _, rfl, ?_⟩
        refine ite2 (fun c => ?_) (fun c => ?_)
        · have c' := of_decide_eq_true c
          refine ⟨fun σ' H' => ∃ (a b : Addr) (va vb : Ph.T) (xs : List V) (fr : List (Ph.T × Bool)), σ' = [some (.ref M), some (.ref a), some (.ref b), some (.ref L), none, none, none] ∧ MakerAt Y.toCs H' M n ∧ Rep Y.toCs H' va a ∧ Rep Y.toCs H' vb b ∧
            H' L = some (.lst xs) ∧ FrAt Y.toCs H' xs fr ∧ (∀ n, Ph.join n ta tb = unwind fr (Ph.join n va vb)) ∧ fr.length + va.ht + vb.ht ≤ 1000 ∧ Keep M H H' ∧ va.ht + vb.ht < ua.ht + ub.ht, ?_, ?_⟩
          · rintro σ' H' ⟨a2, b2, va, vb, xs', fr', rfl, q1, q2, q3, q4, q5, q6, q7, q8, q9⟩
            exact ⟨_, q9, a2, b2, va, vb, xs', fr', rfl, q1, q2, q3, q4, q5, q6, q7, q8, rfl⟩
          refine ⟨_, rfl, ?_⟩
          refine fHt Y ra ?_
          refine ⟨_, rfl, ?_⟩
          refine fHt Y rb ?_
          refine ⟨_, _, rfl, rfl, _, rfl, ?_⟩
          have xl := paired_len hfr
          refine ite2 (fun d => ?_) (fun d => ?_)
          · have d' := of_decide_eq_true d
            rw [if_neg (by omega)] at c'
            obtain ⟨i, x, y, rfl⟩ := Ph.T.ht_fork_of (t := ua) (by omega)
            obtain ⟨ax, ay, hx, hy, dx, fs, hf⟩ := ra.kids
            refine ⟨_, rfl, .inl ⟨rfl, _, SqL.of hl⟩, ?_⟩
            refine ⟨_, rfl, ?_⟩
            refine fFirst Y hf ?_
            refine ⟨(by show 2 ≤ sizeLine; decide), fun p hp => ?_⟩
            have nbp := NB.none hp
            have nLp : L ≠ p := ne_of_none hl hp
            have hl2 : (upd H1 p (.tup [.ref ax, .bl true])) L = some (.lst xs) := by rw [upd_ne nLp]; exact hl
            refine ⟨L, xs, _, rfl, rfl, hl2, small1000 (by omega), ?_⟩
            have nbl := NB.lst hl2
            have npL : p ≠ L := fun z => nLp z.symm
            obtain ⟨ax2, ay2, hx2, hy2, dx2, fs2, hf2⟩ := ((ra.at nbp (.tup [.ref ax, .bl true])).at nbl (.lst (xs ++ [.ref p]))).kids
            refine ⟨_, rfl, ?_⟩
            refine fSecond Y hf2 ?_
            refine ⟨ay2, b1, y, ub, xs ++ [.ref p], fr ++ [(x, true)], rfl, (m1.at nbp _).at nbl _, hy2, (rb.at nbp _).at nbl _, upd_same, ?_, fun n => ?_, ?_, (kp.trans (Keep.new hp)).at hL _, ?_⟩
            · refine paired_snoc ((hfr.at nbp _).at nbl _) ⟨p, ax, rfl, ?_, (hx.at nbp _).at nbl _⟩
              rw [upd_ne npL, upd_same]
            · rw [hj, unwind_snoc, Ph.join_left (by omega)]
              all_goals rfl
            · simp only [Ph.T.ht, List.length_append, List.length_cons, List.length_nil] at *; omega
            · simp only [Ph.T.ht] at *; omega
          · have d' : ua.ht ≤ ub.ht := by
              by_cases z : ua.ht ≤ ub.ht
              · exact z
              · exact absurd (decide_eq_true (by omega)) d
            have c2 : ua.ht + 1 < ub.ht := by
              split at c' <;> omega
            obtain ⟨i, x, y, rfl⟩ := Ph.T.ht_fork_of (t := ub) (by omega)
            obtain ⟨ax, ay, hx, hy, dx, fs, hf⟩ := rb.kids
            refine ⟨_, rfl, .inl ⟨rfl, _, SqL.of hl⟩, ?_⟩
            refine ⟨_, rfl, ?_⟩
            refine fSecond Y hf ?_
            refine ⟨(by show 2 ≤ sizeLine; decide), fun p hp => ?_⟩
            have nbp := NB.none hp
            have nLp : L ≠ p := ne_of_none hl hp
            have hl2 : (upd H1 p (.tup [.ref ay, .bl false])) L = some (.lst xs) := by rw [upd_ne nLp]; exact hl
            refine ⟨L, xs, _, rfl, rfl, hl2, small1000 (by omega), ?_⟩
            have nbl := NB.lst hl2
            have npL : p ≠ L := fun z => nLp z.symm
            obtain ⟨ax2, ay2, hx2, hy2, dx2, fs2, hf2⟩ := ((rb.at nbp (.tup [.ref ay, .bl false])).at nbl (.lst (xs ++ [.ref p]))).kids
            refine ⟨_, rfl, ?_⟩
            refine fFirst Y hf2 ?_
            refine ⟨a1, ax2, ua, x, xs ++ [.ref p], fr ++ [(y, false)], rfl, (m1.at nbp _).at nbl _, (ra.at nbp _).at nbl _, hx2, upd_same, ?_, fun n => ?_, ?_, (kp.trans (Keep.new hp)).at hL _, ?_⟩
            · refine paired_snoc ((hfr.at nbp _).at nbl _) ⟨p, ay, rfl, ?_, (hy.at nbp _).at nbl _⟩
              rw [upd_ne npL, upd_same]
            · rw [hj, unwind_snoc, Ph.join_right (by omega)]
              all_goals rfl
            · simp only [Ph.T.ht, List.length_append, List.length_cons, List.length_nil] at *; omega
            · simp only [Ph.T.ht] at *; omega
        · have c' : ua.ht ≤ ub.ht + 1 ∧ ub.ht ≤ ua.ht + 1 := by
            by_cases z : ua.ht ≤ ub.ht + 1 ∧ ub.ht ≤ ua.ht + 1
            · exact z
            · exfalso
              apply c
              apply decide_eq_true
              split <;> omega
          obtain ⟨dM, eM⟩ := id m1
          refine ⟨_, rfl, M, dM, _, rfl, eM, rfl, _, rfl, _, rfl, ?_⟩
          refine ⟨M, a1, b1, n, ua, ub, rfl, m1, ra, rb, fun H2 v2 m2 r2 k2 => ?_⟩
          obtain ⟨t0, rfl, r2⟩ := r2
          have nLM : L ≠ M := ne_of hl eM (by intro z; cases z)
          have hl2 := k2 _ _ hl nLM
          have hfr2 := hfr.mono Y k2 m1
          have e0 : Ph.join n ua ub = (.fork n ua ub, n + 1) := Ph.join_near c'.1 c'.2
          have xl := paired_len hfr
          refine ⟨_, rfl, L, xs, rfl, SqL.of hl2, for_rev (K := K) (a := L) (xs := xs) (fun i σ H' => ∃ (t : Addr) (o1 o2 : Option V), σ = [some (.ref M), some (.ref a1), some (.ref b1), some (.ref L), some (.ref t), o1, o2] ∧
              MakerAt Y.toCs H' M (unwind (fr.drop (xs.length - i)) (Ph.join n ua ub)).2 ∧ Rep Y.toCs H' (unwind (fr.drop (xs.length - i)) (Ph.join n ua ub)).1 t ∧ H' L = some (.lst xs) ∧ FrAt Y.toCs H' xs fr ∧ Keep M H H') ?_ ?_ ?_ ?_⟩
          · rw [show fr.drop (xs.length - 0) = [] by rw [xl]; simp, e0]
            exact ⟨t0, none, none, rfl, m2, r2, hl2, hfr2, kp.trans k2⟩
          · rintro i σ H' hi ⟨_, _, _, _, _, _, q, _⟩
            exact SqL.of q
          · rintro i v σ H' hi hv ⟨t, o1, o2, rfl, q1, q2, q3, q4, q5⟩
            obtain ⟨f, hf, p, x, rfl, e2, e3⟩ := paired_get q4 hv
            have ed : fr.drop (xs.length - (i + 1)) = f :: fr.drop (xs.length - i) := by
              rw [xl] at hf hi ⊢
              exact drop_pred hi hf
            refine ⟨p, _, rfl, SqT.of e2, rfl, _, _, rfl, _, _, rfl, rfl, ?_⟩
            refine ⟨_, rfl, _, rfl, ?_⟩
            obtain ⟨ft, fb⟩ := f
            have es : unwind (fr.drop (xs.length - (i + 1))) (Ph.join n ua ub) = stepF (ft, fb) (unwind (fr.drop (xs.length - i)) (Ph.join n ua ub)) := by rw [ed]; rfl
            obtain ⟨dM', eM'⟩ := id q1
            have nLM' : L ≠ M := nLM
            cases fb with
            | true =>
              rw [if_pos rfl]
              refine ⟨_, rfl, _, rfl, _, rfl, ?_⟩
              refine ⟨M, x, t, _, ft, _, rfl, q1, e3, q2, fun H3 v3 m3 r3 k3 => ?_⟩
              obtain ⟨t3, rfl, r3⟩ := r3
              refine ⟨t3, _, _, rfl, ?_, ?_, k3 _ _ q3 nLM, q4.mono Y k3 q1, q5.trans k3⟩
              · rw [es]; exact m3
              · rw [es]; exact r3
            | false =>
              rw [if_neg (by simp)]
              refine ⟨_, rfl, _, rfl, _, rfl, ?_⟩
              refine ⟨M, x, t, _, ft, _, rfl, q1, e3, q2, fun H3 v3 m3 r3 k3 => ?_⟩
              obtain ⟨t3, rfl, r3⟩ := r3
              refine ⟨t3, _, _, rfl, ?_, ?_, k3 _ _ q3 nLM, q4.mono Y k3 q1, q5.trans k3⟩
              · rw [es]; exact m3
              · rw [es]; exact r3
          · rintro σ H' ⟨t, o1, o2, rfl, q1, q2, q3, q4, q5⟩
            rw [show fr.drop (xs.length - xs.length) = fr by simp, ← hj] at q1 q2
            exact ⟨_, rfl, k H' _ q1 ⟨t, rfl, q2⟩ q5⟩
end
end Pw
set_option Elab.async false
set_option linter.all false
set_option maxRecDepth 100000
namespace Pw
open PySem PySem.Spec PyProof.Rows L2
def FrL (c : Cs) (H : Hp) : List V → List Ph.T → Prop := Paired fun v t => ∃ x, v = .ref x ∧ Rep c H t x
/-- the rest, joined with what was passed -/
def unF (fr : List Ph.T) (r : Option Ph.T × Nat) : Option Ph.T × Nat := fr.foldr (fun y r => Ph.joinO r.2 r.1 (some y)) r
def unL (fr : List Ph.T) (r : Option Ph.T × Nat) : Option Ph.T × Nat := fr.foldr (fun x r => Ph.joinO r.2 (some x) r.1) r
theorem unF_snoc (fr : List Ph.T) (y : Ph.T) (r : Option Ph.T × Nat) : unF (fr ++ [y]) r = unF fr (Ph.joinO r.2 r.1 (some y)) := by simp [unF]
theorem unL_snoc (fr : List Ph.T) (y : Ph.T) (r : Option Ph.T × Nat) : unL (fr ++ [y]) r = unL fr (Ph.joinO r.2 (some y) r.1) := by simp [unL]
section
variable {P : Program} {w : World} {K : PySem.W.Frag} {mg : Str → Option Value} {base : Heap}
theorem FrL.mono (Y : TX K mg) {H H' : Hp} {M : Addr} {n : Nat} (k : Keep M H H') (hM : MakerAt Y.toCs H M n) {xs : List V} {fr : List Ph.T} (h : FrL Y.toCs H xs fr) : FrL Y.toCs H' xs fr :=
  Paired.mapP h fun v f ⟨x, e1, e3⟩ => ⟨x, e1, e3.mono Y k hM⟩
theorem FrL.at {c : Cs} {H : Hp} {p : Addr} (nb : NB H p) (o : HO) {xs : List V} {fr : List Ph.T} (h : FrL c H xs fr) : FrL c (upd H p o) xs fr :=
  Paired.mapP h fun v f ⟨x, e1, e3⟩ => ⟨x, e1, e3.at nb o⟩
theorem sc_without_first_leaf : FnScope ["maker", "tree", "passed", "node", "rest", "second"] ["maker", "tree"] (defScope s_without_first_leaf) := ⟨rfl, rfl, rfl, by decide +kernel, rfl, by decide +kernel, by decide +kernel⟩
def spWoF (c : Cs) : Sp := fun vs H Q _ => ∃ (M a : Addr) (n : Nat) (t : Ph.T), vs = [.ref M, .ref a] ∧ MakerAt c H M n ∧ Rep c H t a ∧ t.Avl ∧ t.Wf ∧ t.ht ≤ 100 ∧ Post c M H (Ph.lessFirst n t).2 (Ph.lessFirst n t).1 Q
theorem ok_without_first_leaf (Y : TX K mg) : FnOk P w K mg base CX0 7 Y.f_without_first_leaf Y.d_without_first_leaf ["maker", "tree"] (spWoF Y.toCs) := by
  refine Y.g_without_first_leaf.fn.ok sc_without_first_leaf (fun vs H Q E h => ?_) (fun cdv A outer s H vs Q E hr h => ?_)
  · obtain ⟨M, a, n, t, rfl, _⟩ := h
    rfl
  · obtain ⟨M, a, n, t, rfl, hM, ht, av, wf, hh, k⟩ := h
    refine ⟨_, (pss_cons (ps_set (i := 2) sc_without_first_leaf.nd rfl (Or.inl rfl) (pe_lst pa_nil))
      (pss_cons (ps_set (i := 3) sc_without_first_leaf.nd rfl (Or.inl rfl) (pv 1))
      (pss_cons (ps_while PassesOwn.never (pt_cmpR op_gt (pe_fld (pv 3) rfl) pe_int (nomark _)) (pss_cons (ps_expr (pe_bm PySem.F.plainAttrs_list PySem.F.slot_list_append PySem.F.type_list_append mt_append (pv 2) (pa_cons (pe_fld (pv 3) rfl) pa_nil)))
        (pss_one (ps_set (i := 3) sc_without_first_leaf.nd rfl (Or.inl rfl) (pe_fld (pv 3) rfl)))))
      (pss_cons (ps_set (i := 4) sc_without_first_leaf.nd rfl (Or.inl rfl) pe_non)
      (pss_cons (ps_for PassesOwn.never rfl (pi_reversed (by rfl) Y.b_reversed (pa_cons (pv 2) pa_nil)) (pg_name (i := 5) sc_without_first_leaf.nd rfl (Or.inl rfl)) (pss_one (ps_set (i := 4) sc_without_first_leaf.nd rfl (Or.inl rfl) (pe_call (ok_joined Y) (hr.mono (by decide)) rfl Y.g_joined.at_ Y.g_joined.fn.kp Y.g_joined.bd .nil pass0 (pa_cons (pv 0) (pa_cons (pv 4) (pa_cons (pv 5) pa_nil)))))))
      (pss_one (ps_ret (pv 4)))))))), ?_⟩
    refine ⟨Nat.zero_le _, fun L hL => ?_⟩
    have nbL := NB.none hL
    refine ⟨_, rfl, ?_⟩
    refine ⟨fun m σ H' => ∃ (b : Addr) (u : Ph.T) (xs : List V) (fr : List Ph.T), σ = [some (.ref M), some (.ref a), some (.ref L), some (.ref b), none, none] ∧ MakerAt Y.toCs H' M n ∧ Rep Y.toCs H' u b ∧ H' L = some (.lst xs) ∧ FrL Y.toCs H' xs fr ∧
        Ph.lessFirst n t = unF fr (Ph.lessFirst n u) ∧ fr.length + u.ht ≤ 100 ∧ u.Avl ∧ u.Wf ∧ (∀ f, f ∈ fr → f.Avl ∧ f.Wf ∧ f.ht ≤ 100) ∧ Keep M H H' ∧ m = u.ht,
      ⟨_, a, t, [], [], rfl, hM.at nbL _, ht.at nbL _, upd_same, .nil, rfl, by simpa using hh, av, wf, by simp, (Keep.refl M H).at hL _, rfl⟩, ?_⟩
    rintro m σ H1 ⟨b, u, xs, fr, rfl, m1, hu, hl, hfr, hj, hlen, ua, uw, hfa, kp, rfl⟩
    have xl := paired_len hfr
    refine ⟨_, rfl, ?_⟩
    refine fHt Y hu ?_
    refine ⟨_, _, rfl, rfl, _, rfl, ?_⟩
    refine ite2 (fun c => ?_) (fun c => ?_)
    · have c' : 0 < u.ht := by have := of_decide_eq_true c; omega
      obtain ⟨i, p, q, rfl⟩ := Ph.T.ht_fork_of c'
      refine ⟨fun σ' H' => ∃ (b : Addr) (v : Ph.T) (xs : List V) (fr : List Ph.T), σ' = [some (.ref M), some (.ref a), some (.ref L), some (.ref b), none, none] ∧ MakerAt Y.toCs H' M n ∧ Rep Y.toCs H' v b ∧ H' L = some (.lst xs) ∧ FrL Y.toCs H' xs fr ∧
        Ph.lessFirst n t = unF fr (Ph.lessFirst n v) ∧ fr.length + v.ht ≤ 100 ∧ v.Avl ∧ v.Wf ∧ (∀ f, f ∈ fr → f.Avl ∧ f.Wf ∧ f.ht ≤ 100) ∧ Keep M H H' ∧ v.ht < (Ph.T.fork i p q).ht, ?_, ?_⟩
      · rintro σ' H' ⟨b2, v, xs', fr', rfl, q1, q2, q3, q4, q5, q6, q7, q8, q9, q10, q11⟩
        exact ⟨_, q11, b2, v, xs', fr', rfl, q1, q2, q3, q4, q5, q6, q7, q8, q9, q10, rfl⟩
      obtain ⟨ax, ay, hx, hy, dx, fs, hf⟩ := hu.kids
      refine ⟨_, rfl, .inl ⟨rfl, _, SqL.of hl⟩, ?_⟩
      refine ⟨_, rfl, ?_⟩
      refine fSecond Y hf ?_
      refine ⟨L, xs, _, rfl, rfl, hl, small1000 (by omega), ?_⟩
      have nbl := NB.lst hl
      obtain ⟨ax2, ay2, hx2, hy2, dx2, fs2, hf2⟩ := (hu.at nbl (.lst (xs ++ [.ref ay]))).kids
      refine ⟨_, rfl, ?_⟩
      refine fFirst Y hf2 ?_
      simp only [Ph.T.ht] at hlen
      refine ⟨ax2, p, xs ++ [.ref ay], fr ++ [q], rfl, m1.at nbl _, hx2, upd_same, paired_snoc (hfr.at nbl _) ⟨ay, rfl, hy.at nbl _⟩, ?_, ?_, ua.2.2.1, uw.1, ?_, kp.at hL _, ?_⟩
      · rw [hj, unF_snoc]; rfl
      · simp only [List.length_append, List.length_cons, List.length_nil]; omega
      · intro f hf
        rcases List.mem_append.mp hf with z | z
        · exact hfa f z
        · have e : f = q := by simpa using z
          subst e
          exact ⟨ua.2.2.2, uw.2, by omega⟩
      · simp only [Ph.T.ht]; omega
    · have c' : u.ht = 0 := by
        by_cases z : 0 < u.ht
        · exact absurd (decide_eq_true (by omega)) c
        · omega
      have e0 : Ph.lessFirst n u = (none, n) := by
        cases u with
        | fork i p q => simp [Ph.T.ht] at c'
        | leaf i v => rfl
      rw [e0] at hj
      obtain ⟨dM, eM⟩ := id m1
      have nLM : L ≠ M := ne_of hl eM (by intro z; cases z)
      refine ⟨_, rfl, L, xs, rfl, SqL.of hl, for_rev (K := K) (a := L) (xs := xs) (fun i σ H' => ∃ (v : V) (o : Option V), σ = [some (.ref M), some (.ref a), some (.ref L), some (.ref b), some v, o] ∧
          MakerAt Y.toCs H' M (unF (fr.drop (xs.length - i)) (none, n)).2 ∧ RepO Y.toCs H' (unF (fr.drop (xs.length - i)) (none, n)).1 v ∧ Ph.Ok (unF (fr.drop (xs.length - i)) (none, n)).1 ∧ Ph.htO (unF (fr.drop (xs.length - i)) (none, n)).1 ≤ 100 + i ∧
          H' L = some (.lst xs) ∧ FrL Y.toCs H' xs fr ∧ Keep M H H') ?_ ?_ ?_ ?_⟩
      · rw [show fr.drop (xs.length - 0) = [] by rw [xl]; simp]
        exact ⟨.non, none, rfl, m1, rfl, True.intro, Nat.zero_le _, hl, hfr, kp⟩
      · rintro i σ H' hi ⟨_, _, _, _, _, _, _, q, _⟩
        exact SqL.of q
      · rintro i v σ H' hi hv ⟨r, o, rfl, q1, q2, q3, q4, q5, q6, q7⟩
        obtain ⟨f, hf, x, rfl, e3⟩ := paired_get q6 hv
        have ed : fr.drop (xs.length - (i + 1)) = f :: fr.drop (xs.length - i) := by
          rw [xl] at hf hi ⊢
          exact drop_pred hi hf
        have es : unF (fr.drop (xs.length - (i + 1))) (none, n) = Ph.joinO (unF (fr.drop (xs.length - i)) (none, n)).2 (unF (fr.drop (xs.length - i)) (none, n)).1 (some f) := by rw [ed]; rfl
        obtain ⟨fa, fw, fh⟩ := hfa f (List.mem_of_getElem? hf)
        obtain ⟨c1, c2, c3⟩ := Ph.joinO_cost (n := (unF (fr.drop (xs.length - i)) (none, n)).2) (b := some f) q3 ⟨fa, fw⟩
        refine ⟨_, rfl, _, rfl, _, rfl, ?_⟩
        refine ⟨M, _, _, _, _, some f, rfl, q1, q2, ⟨x, rfl, e3⟩, ?_, fun H3 v3 m3 r3 k3 => ?_⟩
        · rw [Ph.htO_some]; omega
        · refine ⟨v3, _, rfl, ?_, ?_, ?_, ?_, k3 _ _ q5 nLM, q6.mono Y k3 q1, q7.trans k3⟩
          · rw [es]; exact m3
          · rw [es]; exact r3
          · rw [es]; exact Ph.joinO_ok q3 ⟨fa, fw⟩
          · rw [es]; rw [Ph.htO_some] at c3; omega
      · rintro σ H' ⟨v, o, rfl, q1, q2, q3, q4, q5, q6, q7⟩
        rw [show fr.drop (xs.length - xs.length) = fr by simp, ← hj] at q1 q2
        exact ⟨_, rfl, k H' _ q1 q2 q7⟩
end
end Pw
set_option Elab.async false
set_option linter.all false
set_option maxRecDepth 100000
namespace Pw
open PySem PySem.Spec PyProof.Rows L2
section
variable {P : Program} {w : World} {K : PySem.W.Frag} {mg : Str → Option Value} {base : Heap}
theorem sc_without_last_leaf : FnScope ["maker", "tree", "passed", "node", "rest", "first"] ["maker", "tree"] (defScope s_without_last_leaf) := ⟨rfl, rfl, rfl, by decide +kernel, rfl, by decide +kernel, by decide +kernel⟩
def spWoL (c : Cs) : Sp := fun vs H Q _ => ∃ (M a : Addr) (n : Nat) (t : Ph.T), vs = [.ref M, .ref a] ∧ MakerAt c H M n ∧ Rep c H t a ∧ t.Avl ∧ t.Wf ∧ t.ht ≤ 100 ∧ Post c M H (Ph.lessLast n t).2 (Ph.lessLast n t).1 Q
theorem ok_without_last_leaf (Y : TX K mg) : FnOk P w K mg base CX0 7 Y.f_without_last_leaf Y.d_without_last_leaf ["maker", "tree"] (spWoL Y.toCs) := by
  refine Y.g_without_last_leaf.fn.ok sc_without_last_leaf (fun vs H Q E h => ?_) (fun cdv A outer s H vs Q E hr h => ?_)
  · obtain ⟨M, a, n, t, rfl, _⟩ := h
    rfl
  · obtain ⟨M, a, n, t, rfl, hM, ht, av, wf, hh, k⟩ := h
    refine ⟨_, (pss_cons (ps_set (i := 2) sc_without_last_leaf.nd rfl (Or.inl rfl) (pe_lst pa_nil))
      (pss_cons (ps_set (i := 3) sc_without_last_leaf.nd rfl (Or.inl rfl) (pv 1))
      (pss_cons (ps_while PassesOwn.never (pt_cmpR op_gt (pe_fld (pv 3) rfl) pe_int (nomark _)) (pss_cons (ps_expr (pe_bm PySem.F.plainAttrs_list PySem.F.slot_list_append PySem.F.type_list_append mt_append (pv 2) (pa_cons (pe_fld (pv 3) rfl) pa_nil)))
        (pss_one (ps_set (i := 3) sc_without_last_leaf.nd rfl (Or.inl rfl) (pe_fld (pv 3) rfl)))))
      (pss_cons (ps_set (i := 4) sc_without_last_leaf.nd rfl (Or.inl rfl) pe_non)
      (pss_cons (ps_for PassesOwn.never rfl (pi_reversed (by rfl) Y.b_reversed (pa_cons (pv 2) pa_nil)) (pg_name (i := 5) sc_without_last_leaf.nd rfl (Or.inl rfl)) (pss_one (ps_set (i := 4) sc_without_last_leaf.nd rfl (Or.inl rfl) (pe_call (ok_joined Y) (hr.mono (by decide)) rfl Y.g_joined.at_ Y.g_joined.fn.kp Y.g_joined.bd .nil pass0 (pa_cons (pv 0) (pa_cons (pv 5) (pa_cons (pv 4) pa_nil)))))))
      (pss_one (ps_ret (pv 4)))))))), ?_⟩
    refine ⟨Nat.zero_le _, fun L hL => ?_⟩
    have nbL := NB.none hL
    refine ⟨_, rfl, ?_⟩
    refine ⟨fun m σ H' => ∃ (b : Addr) (u : Ph.T) (xs : List V) (fr : List Ph.T), σ = [some (.ref M), some (.ref a), some (.ref L), some (.ref b), none, none] ∧ MakerAt Y.toCs H' M n ∧ Rep Y.toCs H' u b ∧ H' L = some (.lst xs) ∧ FrL Y.toCs H' xs fr ∧
        Ph.lessLast n t = unL fr (Ph.lessLast n u) ∧ fr.length + u.ht ≤ 100 ∧ u.Avl ∧ u.Wf ∧ (∀ f, f ∈ fr → f.Avl ∧ f.Wf ∧ f.ht ≤ 100) ∧ Keep M H H' ∧ m = u.ht,
      ⟨_, a, t, [], [], rfl, hM.at nbL _, ht.at nbL _, upd_same, .nil, rfl, by simpa using hh, av, wf, by simp, (Keep.refl M H).at hL _, rfl⟩, ?_⟩
    rintro m σ H1 ⟨b, u, xs, fr, rfl, m1, hu, hl, hfr, hj, hlen, ua, uw, hfa, kp, rfl⟩
    have xl := paired_len hfr
    refine ⟨_, rfl, ?_⟩
    refine fHt Y hu ?_
    refine ⟨_, _, rfl, rfl, _, rfl, ?_⟩
    refine ite2 (fun c => ?_) (fun c => ?_)
    · have c' : 0 < u.ht := by have := of_decide_eq_true c; omega
      obtain ⟨i, p, q, rfl⟩ := Ph.T.ht_fork_of c'
      refine ⟨fun σ' H' => ∃ (b : Addr) (v : Ph.T) (xs : List V) (fr : List Ph.T), σ' = [some (.ref M), some (.ref a), some (.ref L), some (.ref b), none, none] ∧ MakerAt Y.toCs H' M n ∧ Rep Y.toCs H' v b ∧ H' L = some (.lst xs) ∧ FrL Y.toCs H' xs fr ∧
        Ph.lessLast n t = unL fr (Ph.lessLast n v) ∧ fr.length + v.ht ≤ 100 ∧ v.Avl ∧ v.Wf ∧ (∀ f, f ∈ fr → f.Avl ∧ f.Wf ∧ f.ht ≤ 100) ∧ Keep M H H' ∧ v.ht < (Ph.T.fork i p q).ht, ?_, ?_⟩
      · rintro σ' H' ⟨b2, v, xs', fr', rfl, q1, q2, q3, q4, q5, q6, q7, q8, q9, q10, q11⟩
        exact ⟨_, q11, b2, v, xs', fr', rfl, q1, q2, q3, q4, q5, q6, q7, q8, q9, q10, rfl⟩
      obtain ⟨ax, ay, hx, hy, dx, fs, hf⟩ := hu.kids
      refine ⟨_, rfl, .inl ⟨rfl, _, SqL.of hl⟩, ?_⟩
      refine ⟨_, rfl, ?_⟩
      refine fFirst Y hf ?_
      refine ⟨L, xs, _, rfl, rfl, hl, small1000 (by omega), ?_⟩
      have nbl := NB.lst hl
      obtain ⟨ax2, ay2, hx2, hy2, dx2, fs2, hf2⟩ := (hu.at nbl (.lst (xs ++ [.ref ax]))).kids
      refine ⟨_, rfl, ?_⟩
      refine fSecond Y hf2 ?_
      simp only [Ph.T.ht] at hlen
      refine ⟨ay2, q, xs ++ [.ref ax], fr ++ [p], rfl, m1.at nbl _, hy2, upd_same, paired_snoc (hfr.at nbl _) ⟨ax, rfl, hx.at nbl _⟩, ?_, ?_, ua.2.2.2, uw.2, ?_, kp.at hL _, ?_⟩
      · rw [hj, unL_snoc]; rfl
      · simp only [List.length_append, List.length_cons, List.length_nil]; omega
      · intro f hf
        rcases List.mem_append.mp hf with z | z
        · exact hfa f z
        · have e : f = p := by simpa using z
          subst e
          exact ⟨ua.2.2.1, uw.1, by omega⟩
      · simp only [Ph.T.ht]; omega
    · have c' : u.ht = 0 := by
        by_cases z : 0 < u.ht
        · exact absurd (decide_eq_true (by omega)) c
        · omega
      have e0 : Ph.lessLast n u = (none, n) := by
        cases u with
        | fork i p q => simp [Ph.T.ht] at c'
        | leaf i v => rfl
      rw [e0] at hj
      obtain ⟨dM, eM⟩ := id m1
      have nLM : L ≠ M := ne_of hl eM (by intro z; cases z)
      refine ⟨_, rfl, L, xs, rfl, SqL.of hl, for_rev (K := K) (a := L) (xs := xs) (fun i σ H' => ∃ (v : V) (o : Option V), σ = [some (.ref M), some (.ref a), some (.ref L), some (.ref b), some v, o] ∧
          MakerAt Y.toCs H' M (unL (fr.drop (xs.length - i)) (none, n)).2 ∧ RepO Y.toCs H' (unL (fr.drop (xs.length - i)) (none, n)).1 v ∧ Ph.Ok (unL (fr.drop (xs.length - i)) (none, n)).1 ∧ Ph.htO (unL (fr.drop (xs.length - i)) (none, n)).1 ≤ 100 + i ∧
          H' L = some (.lst xs) ∧ FrL Y.toCs H' xs fr ∧ Keep M H H') ?_ ?_ ?_ ?_⟩
      · rw [show fr.drop (xs.length - 0) = [] by rw [xl]; simp]
        exact ⟨.non, none, rfl, m1, rfl, True.intro, Nat.zero_le _, hl, hfr, kp⟩
      · rintro i σ H' hi ⟨_, _, _, _, _, _, _, q, _⟩
        exact SqL.of q
      · rintro i v σ H' hi hv ⟨r, o, rfl, q1, q2, q3, q4, q5, q6, q7⟩
        obtain ⟨f, hf, x, rfl, e3⟩ := paired_get q6 hv
        have ed : fr.drop (xs.length - (i + 1)) = f :: fr.drop (xs.length - i) := by
          rw [xl] at hf hi ⊢
          exact drop_pred hi hf
        have es : unL (fr.drop (xs.length - (i + 1))) (none, n) = Ph.joinO (unL (fr.drop (xs.length - i)) (none, n)).2 (some f) (unL (fr.drop (xs.length - i)) (none, n)).1 := by rw [ed]; rfl
        obtain ⟨fa, fw, fh⟩ := hfa f (List.mem_of_getElem? hf)
        obtain ⟨c1, c2, c3⟩ := Ph.joinO_cost (n := (unL (fr.drop (xs.length - i)) (none, n)).2) (a := some f) ⟨fa, fw⟩ q3
        refine ⟨_, rfl, _, rfl, _, rfl, ?_⟩
        refine ⟨M, _, _, _, some f, _, rfl, q1, ⟨x, rfl, e3⟩, q2, ?_, fun H3 v3 m3 r3 k3 => ?_⟩
        · rw [Ph.htO_some]; omega
        · refine ⟨v3, _, rfl, ?_, ?_, ?_, ?_, k3 _ _ q5 nLM, q6.mono Y k3 q1, q7.trans k3⟩
          · rw [es]; exact m3
          · rw [es]; exact r3
          · rw [es]; exact Ph.joinO_ok (a := some f) ⟨fa, fw⟩ q3
          · rw [es]; rw [Ph.htO_some] at c3; omega
      · rintro σ H' ⟨v, o, rfl, q1, q2, q3, q4, q5, q6, q7⟩
        rw [show fr.drop (xs.length - xs.length) = fr by simp, ← hj] at q1 q2
        exact ⟨_, rfl, k H' _ q1 q2 q7⟩
theorem sc_sewn : FnScope ["maker", "a", "b", "seam", "front"] ["maker", "a", "b"] (defScope s_sewn) := ⟨rfl, rfl, rfl, by decide +kernel, rfl, by decide +kernel, by decide +kernel⟩
def spSewn (c : Cs) : Sp := fun vs H Q _ => ∃ (M : Addr) (va vb : V) (n : Nat) (oa ob : Option Ph.T), vs = [.ref M, va, vb] ∧ MakerAt c H M n ∧ RepO c H oa va ∧ RepO c H ob vb ∧ Ph.Ok oa ∧ Ph.Ok ob ∧ Ph.sizeO oa ≤ 2 ^ 40 ∧ Ph.sizeO ob ≤ 2 ^ 40 ∧ Post c M H (Ph.sewC n oa ob).2 (Ph.sewC n oa ob).1 Q
theorem map_vI_nil {w : List Nat} (h : w.map vI = []) : w = [] := List.map_eq_nil_iff.mp h
theorem ok_sewn (Y : TX K mg) : FnOk P w K mg base CX0 8 Y.f_sewn Y.d_sewn ["maker", "a", "b"] (spSewn Y.toCs) := by
  refine Y.g_sewn.fn.ok sc_sewn (fun vs H Q E h => ?_) (fun cdv A outer s H vs Q E hr h => ?_)
  · obtain ⟨M, va, vb, n, oa, ob, rfl, _⟩ := h
    rfl
  · obtain ⟨M, va, vb, n, oa, ob, rfl, hM, ha, hb, ka, kb, sa, sb, k⟩ := h
    refine ⟨_, (pss_cons (ps_if (pt_cmpR op_isN (pv 1) pe_non (nomark _)) (pss_one (ps_ret (pv 2))) pss_nil)
      (pss_cons (ps_if (pt_cmpR op_isN (pv 2) pe_non (nomark _)) (pss_one (ps_ret (pv 1))) pss_nil)
      (pss_cons (ps_set (i := 3) sc_sewn.nd rfl (Or.inl rfl) (pe_op op_catT (pe_fld (pe_call (ok_last_leaf Y) (hr.mono (by decide)) rfl Y.g_last_leaf.at_ Y.g_last_leaf.fn.kp Y.g_last_leaf.bd .nil pass0 (pa_cons (pv 1) pa_nil)) rfl) (pe_fld (pe_call (ok_first_leaf Y) (hr.mono (by decide)) rfl Y.g_first_leaf.at_ Y.g_first_leaf.fn.kp Y.g_first_leaf.bd .nil pass0 (pa_cons (pv 2) pa_nil)) rfl)))
      (pss_cons (ps_if (pt_cmpR op_gt (pe_callB call_len_seq (by rfl) Y.b_len PySem.boot_len (pa_cons (pv 3) pa_nil)) (pe_gint rfl Y.c_MOST_IN_LEAF) (nomark _)) (pss_one (ps_ret (pe_call (ok_joined Y) (hr.mono (by decide)) rfl Y.g_joined.at_ Y.g_joined.fn.kp Y.g_joined.bd .nil pass0 (pa_cons (pv 0) (pa_cons (pv 1) (pa_cons (pv 2) pa_nil)))))) pss_nil)
      (pss_cons (ps_set (i := 4) sc_sewn.nd rfl (Or.inl rfl) (pe_call (ok_joined Y) (hr.mono (by decide)) rfl Y.g_joined.at_ Y.g_joined.fn.kp Y.g_joined.bd .nil pass0 (pa_cons (pv 0) (pa_cons (pe_call (ok_without_last_leaf Y) (hr.mono (by decide)) rfl Y.g_without_last_leaf.at_ Y.g_without_last_leaf.fn.kp Y.g_without_last_leaf.bd .nil pass0 (pa_cons (pv 0) (pa_cons (pv 1) pa_nil))) (pa_cons (pe_meth (pv 0) Y.cl_Maker Y.m_Maker_leaf.me (ok_Maker_leaf Y) (hr.mono (by decide)) Y.m_Maker_leaf.bd .nil pass0 (pa_cons (pv 3) pa_nil)) pa_nil)))))
      (pss_one (ps_ret (pe_call (ok_joined Y) (hr.mono (by decide)) rfl Y.g_joined.at_ Y.g_joined.fn.kp Y.g_joined.bd .nil pass0 (pa_cons (pv 0) (pa_cons (pv 4) (pa_cons (pe_call (ok_without_first_leaf Y) (hr.mono (by decide)) rfl Y.g_without_first_leaf.at_ Y.g_without_first_leaf.fn.kp Y.g_without_first_leaf.bd .nil pass0 (pa_cons (pv 0) (pa_cons (pv 2) pa_nil))) pa_nil))))))))))), ?_⟩
    refine ⟨_, rfl, rfl, _, rfl, ?_⟩
    cases oa with
    | none =>
      have e : va = .non := ha
      subst e
      rw [if_pos (by simp)]
      exact ⟨_, rfl, k H vb hM hb (Keep.refl _ _)⟩
    | some ta =>
      obtain ⟨a, rfl, ha⟩ := ha
      rw [if_neg (by simp)]
      refine ⟨_, rfl, rfl, _, rfl, ?_⟩
      cases ob with
      | none =>
        have e : vb = .non := hb
        subst e
        rw [if_pos (by simp)]
        exact ⟨_, rfl, k H _ hM ⟨a, rfl, ha⟩ (Keep.refl _ _)⟩
      | some tb =>
        obtain ⟨b, rfl, hb⟩ := hb
        rw [if_neg (by simp)]
        have h1 := Ph.htO_small ka sa
        have h2 := Ph.htO_small kb sb
        rw [Ph.htO_some] at h1 h2
        have w1 := Ph.lastW_wf ka.2
        have w2 := Ph.firstW_wf kb.2
        refine ⟨_, rfl, ?_⟩
        refine ⟨a, ta, rfl, ha, fun la i1 d1 p1 f1 l1 => ?_⟩
        refine fContent Y l1 ?_
        refine ⟨_, rfl, ?_⟩
        refine ⟨b, tb, rfl, hb, fun lb i2 d2 p2 f2 l2 => ?_⟩
        refine fContent Y l2 ?_
        refine ⟨p1, p2, _, _, rfl, rfl, SqT.of l1.tup, SqT.of l2.tup, fun z => ?_, ?_, fun z => ?_, fun _ p hp => ?_⟩
        · have := map_vI_nil z
          rw [this] at w1
          simp at w1
        · rw [List.length_map, List.length_map]
          exact Nat.le_of_lt (small1000 (by omega))
        · have := map_vI_nil z
          rw [this] at w2
          simp at w2
        rw [← List.map_append]
        have nbp := NB.none hp
        have kp : Keep M H (upd H p (.tup ((ta.lastW ++ tb.firstW).map vI))) := Keep.new hp
        have tp : (upd H p (.tup ((ta.lastW ++ tb.firstW).map vI))) p = some (.tup ((ta.lastW ++ tb.firstW).map vI)) := upd_same
        have hM1 := hM.at nbp (.tup ((ta.lastW ++ tb.firstW).map vI))
        have ha1 := ha.at nbp (.tup ((ta.lastW ++ tb.firstW).map vI))
        have hb1 := hb.at nbp (.tup ((ta.lastW ++ tb.firstW).map vI))
        generalize hH1 : upd H p (.tup ((ta.lastW ++ tb.firstW).map vI)) = H1 at *
        refine ⟨_, rfl, _, _, rfl, .inr (SqT.of tp), ?_⟩
        refine ⟨_, _, rfl, rfl, _, rfl, ?_⟩
        have ks : Ph.sewC n (some ta) (some tb) = if 8 < ta.lastW.length + tb.firstW.length then (some (Ph.join n ta tb).1, (Ph.join n ta tb).2) else
          Ph.joinO (Ph.lessFirst (Ph.joinO ((Ph.lessLast n ta).2 + 1) (Ph.lessLast n ta).1 (some (.leaf (Ph.lessLast n ta).2 (ta.lastW ++ tb.firstW)))).2 tb).2
            (Ph.joinO ((Ph.lessLast n ta).2 + 1) (Ph.lessLast n ta).1 (some (.leaf (Ph.lessLast n ta).2 (ta.lastW ++ tb.firstW)))).1
            (Ph.lessFirst (Ph.joinO ((Ph.lessLast n ta).2 + 1) (Ph.lessLast n ta).1 (some (.leaf (Ph.lessLast n ta).2 (ta.lastW ++ tb.firstW)))).2 tb).1 := rfl
        refine ite2 (fun c => ?_) (fun c => ?_)
        · have c' : 8 < ta.lastW.length + tb.firstW.length := by
            have := of_decide_eq_true c
            rw [List.length_map, List.length_append] at this
            omega
          rw [ks, if_pos c'] at k
          refine ⟨_, rfl, _, rfl, _, rfl, ?_⟩
          refine ⟨M, _, _, n, some ta, some tb, rfl, hM1, ⟨a, rfl, ha1⟩, ⟨b, rfl, hb1⟩, ?_, fun H3 v3 m3 r3 k3 => ?_⟩
          · rw [Ph.htO_some, Ph.htO_some]; omega
          · exact k H3 v3 m3 r3 (kp.trans k3)
        · have c' : ¬ 8 < ta.lastW.length + tb.firstW.length := fun z => c (decide_eq_true (by
            rw [List.length_map, List.length_append]
            omega))
          rw [ks, if_neg c'] at k
          obtain ⟨o1, u1, u2, u3, u4⟩ := Ph.lessLast_ok n ta ka.1 ka.2
          refine ⟨_, rfl, ?_⟩
          refine ⟨_, rfl, _, rfl, ?_⟩
          refine ⟨M, a, n, ta, rfl, hM1, ha1, ka.1, ka.2, by omega, fun H2 v2 m2 r2 k2 => ?_⟩
          obtain ⟨dM2, eM2⟩ := id m2
          have npM : p ≠ M := by
            obtain ⟨dM1, eM1⟩ := id hM1
            exact ne_of tp eM1 (by intro z; cases z)
          refine ⟨_, rfl, M, dM2, _, rfl, eM2, rfl, _, rfl, ?_⟩
          refine ⟨M, p, _, ta.lastW ++ tb.firstW, rfl, m2, k2 _ _ tp npM, by rw [List.length_append]; omega, fun H3 v3 m3 r3 k3 => ?_⟩
          have lk : Ph.Ok (some (Ph.T.leaf (Ph.lessLast n ta).2 (ta.lastW ++ tb.firstW))) := ⟨True.intro, by simp only [Ph.T.Wf, List.length_append]; omega⟩
          obtain ⟨c1, c2, c3⟩ := Ph.joinO_cost (n := (Ph.lessLast n ta).2 + 1) o1 lk
          have o2 := Ph.joinO_ok (n := (Ph.lessLast n ta).2 + 1) o1 lk
          rw [Ph.htO_some, show (Ph.T.leaf (Ph.lessLast n ta).2 (ta.lastW ++ tb.firstW)).ht = 0 from rfl] at c3
          refine ⟨M, _, _, _, (Ph.lessLast n ta).1, some (.leaf (Ph.lessLast n ta).2 (ta.lastW ++ tb.firstW)), rfl, m3, r2.mono Y k3 m2, r3, ?_, fun H4 v4 m4 r4 k4 => ?_⟩
          · rw [Ph.htO_some, show (Ph.T.leaf (Ph.lessLast n ta).2 (ta.lastW ++ tb.firstW)).ht = 0 from rfl]; omega
          have k14 := (k2.trans k3).trans k4
          obtain ⟨o3, x1, x2, x3, x4⟩ := Ph.lessFirst_ok (Ph.joinO ((Ph.lessLast n ta).2 + 1) (Ph.lessLast n ta).1 (some (.leaf (Ph.lessLast n ta).2 (ta.lastW ++ tb.firstW)))).2 tb kb.1 kb.2
          refine ⟨_, rfl, ?_⟩
          refine ⟨_, rfl, ?_⟩
          refine ⟨_, rfl, _, rfl, ?_⟩
          refine ⟨M, b, _, tb, rfl, m4, hb1.mono Y k14 hM1, kb.1, kb.2, by omega, fun H5 v5 m5 r5 k5 => ?_⟩
          refine ⟨M, _, _, _, _, _, rfl, m5, r4.mono Y k5 m4, r5, ?_, fun H6 v6 m6 r6 k6 => ?_⟩
          · omega
          · exact k H6 v6 m6 r6 (kp.trans ((k14.trans k5).trans k6))
end
end Pw
set_option Elab.async false
set_option linter.all false
set_option maxRecDepth 100000
namespace Pw
open PySem PySem.Spec PyProof.Rows L2
/-! ### the way down of parted -/
/-- from a node and a place in it to the one below -/
def Child (f g : Ph.T × Nat) : Prop := ∃ i x y, f.1 = .fork i x y ∧ f.2 ≠ 0 ∧ ¬ x.size + y.size ≤ f.2 ∧ ((f.2 ≤ x.size ∧ g = (x, f.2)) ∨ (¬ f.2 ≤ x.size ∧ g = (y, f.2 - x.size)))
inductive Ch (s : Ph.T × Nat) : List (Ph.T × Nat) → Ph.T × Nat → Prop
  | nil : Ch s [] s
  | snoc {fr : List (Ph.T × Nat)} {c c' : Ph.T × Nat} : Ch s fr c → Child c c' → Ch s (fr ++ [c]) c'
theorem Ch.inv {s c' f : Ph.T × Nat} {l l' : List (Ph.T × Nat)} (h : Ch s l c') (e : l = l' ++ [f]) : Ch s l' f ∧ Child f c' := by
  cases h with
  | nil => simp at e
  | snoc h1 h2 =>
    obtain ⟨e1, e2⟩ := List.append_inj' e rfl
    injection e2 with e3
    subst e1 e3
    exact ⟨h1, h2⟩
theorem Ch.nil_eq {s c : Ph.T × Nat} {l : List (Ph.T × Nat)} (h : Ch s l c) (e : l = []) : c = s := by
  cases h with
  | nil => rfl
  | snoc h1 h2 => simp at e
/-- balanced, good leaves, not too large, not at 0 -/
structure Fit (c : Ph.T × Nat) : Prop where
  avl : c.1.Avl
  wf : c.1.Wf
  sz : c.1.size ≤ 2 ^ 40
  pos : c.2 ≠ 0
theorem Child.fit {f g : Ph.T × Nat} (h : Child f g) (k : Fit f) : Fit g ∧ g.1.ht < f.1.ht := by
  obtain ⟨i, x, y, e, h1, h2, h3⟩ := h
  obtain ⟨a, w, s, p⟩ := k
  rw [e] at a w s
  simp only [Ph.T.Avl, Ph.T.Wf, Ph.T.size] at a w s
  rcases h3 with ⟨c, rfl⟩ | ⟨c, rfl⟩
  · exact ⟨⟨a.2.2.1, w.1, by simp only []; omega, h1⟩, by rw [e]; simp only [Ph.T.ht]; omega⟩
  · exact ⟨⟨a.2.2.2, w.2, by simp only []; omega, by simp only []; omega⟩, by rw [e]; simp only [Ph.T.ht]; omega⟩
theorem Ch.fit {s c : Ph.T × Nat} {l : List (Ph.T × Nat)} (h : Ch s l c) (k : Fit s) : Fit c ∧ l.length + c.1.ht ≤ s.1.ht := by
  induction h with
  | nil => exact ⟨k, by simp⟩
  | snoc _ h2 ih =>
    obtain ⟨i1, i2⟩ := ih
    obtain ⟨j1, j2⟩ := h2.fit i1
    exact ⟨j1, by simp; omega⟩
def flag (f : Ph.T × Nat) : Bool := match f.1 with
  | .fork _ x _ => decide (f.2 ≤ x.size)
  | .leaf _ _ => false
def FrS (c : Cs) (H : Hp) : List V → List (Ph.T × Nat) → Prop := Paired fun v f => ∃ q a, v = .ref q ∧ H q = some (.tup [.ref a, .bl (flag f)]) ∧ Rep c H f.1 a
theorem cutV_hi (xs : List V) (k : Nat) (h : k ≤ xs.length) : cutV xs none (some (k : Int)) = xs.take k := by
  unfold cutV
  rw [HT.sIx_none, HT.sIx_nat, Nat.min_eq_left h]
  simp
theorem cutV_lo (xs : List V) (k : Nat) (h : k ≤ xs.length) : cutV xs (some (k : Int)) none = xs.drop k := by
  unfold cutV
  rw [HT.sIx_none, HT.sIx_nat, Nat.min_eq_left h]
  exact (List.take_of_length_le (by simp))
theorem and2 {t u : TT} {σ : L2.St} {H : Hp} {Q : Bool → Hp → Prop} {b1 b2 : Bool} (h1 : ∀ Q : Bool → Hp → Prop, Q b1 H → t σ H Q) (h2 : ∀ Q : Bool → Hp → Prop, Q b2 H → u σ H Q) (q : Q (b1 && b2) H) : tAnd t u σ H Q := by
  refine h1 _ ?_
  cases b1 with
  | true => exact iteT (h2 _ q)
  | false => exact iteF q
theorem or2 {t u : TT} {σ : L2.St} {H : Hp} {Q : Bool → Hp → Prop} {b1 b2 : Bool} (h1 : ∀ Q : Bool → Hp → Prop, Q b1 H → t σ H Q) (h2 : b1 = false → ∀ Q : Bool → Hp → Prop, Q b2 H → u σ H Q) (q : Q (b1 || b2) H) : tOr t u σ H Q := by
  refine h1 _ ?_
  cases b1 with
  | true => exact iteT q
  | false => exact iteF (h2 rfl _ q)
theorem seq3_by {a b c u : TS} {D : Ends} {σ : L2.St} {H : Hp} (cont : L2.St → Hp → Prop) (h1 : ∀ nx : L2.St → Hp → Prop, (∀ σ' H', cont σ' H' → nx σ' H') → tSeq a (tSeq b c) { D with nx := nx } σ H) (h2 : ∀ σ' H', cont σ' H' → u D σ' H') : tSeq a (tSeq b (tSeq c u)) D σ H := h1 _ h2
theorem seq_c {v : V} {i : Nat} {u : TS} {D : Ends} {σ : L2.St} {H : Hp} (h : u D (σ.set i (some v)) H) : tSeq (tAsg (tC v) (gName i)) u D σ H := h
section
variable {P : Program} {w : World} {K : PySem.W.Frag} {mg : Str → Option Value} {base : Heap}
theorem FrS.mono (Y : TX K mg) {H H' : Hp} {M : Addr} {n : Nat} (k : Keep M H H') (hM : MakerAt Y.toCs H M n) {xs : List V} {fr : List (Ph.T × Nat)} (h : FrS Y.toCs H xs fr) : FrS Y.toCs H' xs fr := by
  refine Paired.mapP h fun v f ⟨p, x, e1, e2, e3⟩ => ⟨p, x, e1, k _ _ e2 ?_, e3.mono Y k hM⟩
  obtain ⟨d, e⟩ := hM
  exact ne_of e2 e (by intro z; cases z)
theorem FrS.at {c : Cs} {H : Hp} {p : Addr} (nb : NB H p) (o : HO) {xs : List V} {fr : List (Ph.T × Nat)} (h : FrS c H xs fr) : FrS c (upd H p o) xs fr :=
  Paired.mapP h fun v f ⟨q, x, e1, e2, e3⟩ => ⟨q, x, e1, by rw [upd_ne (fun z => nb.tup _ (z ▸ e2))]; exact e2, e3.at nb o⟩
theorem sc_parted : FnScope ["maker", "tree", "place", "passed", "node", "in_first", "left", "right", "above"] ["maker", "tree", "place"] (defScope s_parted) := ⟨rfl, rfl, rfl, by decide +kernel, rfl, by decide +kernel, by decide +kernel⟩
/-- two trees in a tuple -/
def PostP (c : Cs) (M : Addr) (H : Hp) (r : (Option Ph.T × Option Ph.T) × Nat) (Q : VK) : Prop :=
  ∀ H' q v1 v2, MakerAt c H' M r.2 → H' q = some (.tup [v1, v2]) → RepO c H' r.1.1 v1 → RepO c H' r.1.2 v2 → Keep M H H' → Q (.ref q) H'
def spParted (c : Cs) : Sp := fun vs H Q _ => ∃ (M : Addr) (v : V) (p n : Nat) (o : Option Ph.T), vs = [.ref M, v, .int ((p : Nat) : Int)] ∧ MakerAt c H M n ∧ RepO c H o v ∧ Ph.Ok o ∧ Ph.sizeO o ≤ 2 ^ 40 ∧ PostP c M H (Ph.splitO Ph.sewC n o p) Q
theorem ok_parted (Y : TX K mg) : FnOk P w K mg base CX0 9 Y.f_parted Y.d_parted ["maker", "tree", "place"] (spParted Y.toCs) := by
  refine Y.g_parted.fn.ok sc_parted (fun vs H Q E h => ?_) (fun cdv A outer s H vs Q E hr h => ?_)
  · obtain ⟨M, v, p, n, o, rfl, _⟩ := h
    rfl
  · obtain ⟨M, v, p0, n, o, rfl, hM, ho, ok, sz, k⟩ := h
    refine ⟨_, (pss_cons (ps_if (PW.pt (pw_or (pt_cmpR op_isN (pv 1) pe_non (nomark _)) (pw_or1 (pt_cmpR op_eq (pv 2) pe_int (nomark _))))) (pss_one (ps_ret (pe_tup (pa_cons pe_non (pa_cons (pv 1) pa_nil))))) pss_nil)
      (pss_cons (ps_set (i := 3) sc_parted.nd rfl (Or.inl rfl) (pe_lst pa_nil))
      (pss_cons (ps_set (i := 4) sc_parted.nd rfl (Or.inl rfl) (pv 1))
      (pss_cons (ps_while PassesOwn.never (PW.pt (pw_and (pt_cmpR op_lt (pv 2) (pe_fld (pv 4) rfl) (nomark _)) (pw_and1 (pt_cmpR op_gt (pe_fld (pv 4) rfl) pe_int (nomark _))))) (pss_cons (ps_set (i := 5) sc_parted.nd rfl (Or.inl rfl) (pe_cmpR op_le (pv 2) (pe_fld (pe_fld (pv 4) rfl) rfl) (nomark _)))
        (pss_cons (ps_expr (pe_bm PySem.F.plainAttrs_list PySem.F.slot_list_append PySem.F.type_list_append mt_append (pv 3) (pa_cons (pe_tup (pa_cons (pv 4) (pa_cons (pv 5) pa_nil))) pa_nil)))
        (pss_one (ps_if (pt_val (pv 5)) (pss_one (ps_set (i := 4) sc_parted.nd rfl (Or.inl rfl) (pe_fld (pv 4) rfl))) (pss_cons (ps_aug (i := 2) sc_parted.nd rfl (Or.inl rfl) (pe_fld (pe_fld (pv 4) rfl) rfl) ip_sub)
          (pss_one (ps_set (i := 4) sc_parted.nd rfl (Or.inl rfl) (pe_fld (pv 4) rfl)))))))))
      (pss_cons (ps_set (i := 6) sc_parted.nd rfl (Or.inl rfl) (pv 4))
      (pss_cons (ps_set (i := 7) sc_parted.nd rfl (Or.inl rfl) pe_non)
      (pss_cons (ps_if (pt_cmpR op_lt (pv 2) (pe_fld (pv 4) rfl) (nomark _)) (pss_cons (ps_set (i := 6) sc_parted.nd rfl (Or.inl rfl) (pe_meth (pv 0) Y.cl_Maker Y.m_Maker_leaf.me (ok_Maker_leaf Y) (hr.mono (by decide)) Y.m_Maker_leaf.bd .nil pass0 (pa_cons (pe_slice sl_tup (pe_fld (pv 4) rfl) po_none (po_some (pv 2))) pa_nil)))
        (pss_one (ps_set (i := 7) sc_parted.nd rfl (Or.inl rfl) (pe_meth (pv 0) Y.cl_Maker Y.m_Maker_leaf.me (ok_Maker_leaf Y) (hr.mono (by decide)) Y.m_Maker_leaf.bd .nil pass0 (pa_cons (pe_slice sl_tup (pe_fld (pv 4) rfl) (po_some (pv 2)) po_none) pa_nil))))) pss_nil)
      (pss_cons (ps_for PassesOwn.never rfl (pi_reversed (by rfl) Y.b_reversed (pa_cons (pv 3) pa_nil)) (pg_tup rfl (pgs_cons (pg_name (i := 8) sc_parted.nd rfl (Or.inl rfl)) (pgs_cons (pg_name (i := 5) sc_parted.nd rfl (Or.inl rfl)) pgs_nil))) (pss_one (ps_if (pt_val (pv 5)) (pss_one (ps_set (i := 7) sc_parted.nd rfl (Or.inl rfl) (pe_call (ok_sewn Y) (hr.mono (by decide)) rfl Y.g_sewn.at_ Y.g_sewn.fn.kp Y.g_sewn.bd .nil pass0 (pa_cons (pv 0) (pa_cons (pv 7) (pa_cons (pe_fld (pv 8) rfl) pa_nil)))))) (pss_one (ps_set (i := 6) sc_parted.nd rfl (Or.inl rfl) (pe_call (ok_sewn Y) (hr.mono (by decide)) rfl Y.g_sewn.at_ Y.g_sewn.fn.kp Y.g_sewn.bd .nil pass0 (pa_cons (pv 0) (pa_cons (pe_fld (pv 8) rfl) (pa_cons (pv 6) pa_nil)))))))))
      (pss_one (ps_ret (pe_tup (pa_cons (pv 6) (pa_cons (pv 7) pa_nil))))))))))))), ?_⟩
    refine ⟨_, rfl, rfl, _, rfl, ?_⟩
    cases o with
    | none =>
      have e : v = .non := ho
      subst e
      rw [if_pos (by simp)]
      refine iteT ?_
      refine ⟨_, rfl, (by show 2 ≤ sizeLine; decide), fun q hq => ?_⟩
      exact k _ q .non .non (hM.at (NB.none hq) _) upd_same rfl rfl (Keep.new hq)
    | some t =>
      obtain ⟨a, rfl, ha⟩ := ho
      rw [if_neg (by simp)]
      refine ⟨_, rfl, rfl, _, rfl, ?_⟩
      refine ite2 (fun c => ?_) (fun c => ?_)
      · have c' : p0 = 0 := by
          have := of_decide_eq_true c
          injection this with z
          omega
        subst c'
        refine ⟨_, rfl, (by show 2 ≤ sizeLine; decide), fun q hq => ?_⟩
        have e : Ph.splitO Ph.sewC n (some t) 0 = ((none, some t), n) := by
          cases t <;> rfl
        rw [e] at k
        exact k _ q .non (.ref a) (hM.at (NB.none hq) _) upd_same rfl ⟨a, rfl, ha.at (NB.none hq) _⟩ (Keep.new hq)
      · have c' : p0 ≠ 0 := fun z => c (decide_eq_true (by rw [z]; rfl))
        have fit0 : Fit (t, p0) := ⟨ok.1, ok.2, sz, c'⟩
        have th := Ph.ht_small ok.1 ok.2 sz
        refine ⟨Nat.zero_le _, fun L hL => ?_⟩
        have nbL := NB.none hL
        refine ⟨_, rfl, ?_⟩
        refine ⟨fun m σ H' => ∃ (b : Addr) (cu : Ph.T × Nat) (xs : List V) (fr : List (Ph.T × Nat)) (o5 : Option V), σ = [some (.ref M), some (.ref a), some (.int ((cu.2 : Nat) : Int)), some (.ref L), some (.ref b), o5, none, none, none] ∧ MakerAt Y.toCs H' M n ∧
            Rep Y.toCs H' cu.1 b ∧ H' L = some (.lst xs) ∧ FrS Y.toCs H' xs fr ∧ Ch (t, p0) fr cu ∧ Keep M H H' ∧ m = cu.1.ht,
          ⟨_, a, (t, p0), [], [], none, rfl, hM.at nbL _, ha.at nbL _, upd_same, .nil, .nil, (Keep.refl M H).at hL _, rfl⟩, ?_⟩
        rintro m σ H1 ⟨b, ⟨u, p⟩, xs, fr, o5, rfl, m1, hu, hl, hfr, hch, kp, rfl⟩
        dsimp only at *
        obtain ⟨fit, hlen⟩ := hch.fit fit0
        dsimp only at hlen
        have xl := paired_len hfr
        refine and2 (b1 := decide ((p : Int) < (u.size : Int))) (b2 := decide ((0 : Int) < (u.ht : Int))) (fun Q q => ?_) (fun Q q => ?_) ?_
        · refine ⟨_, rfl, ?_⟩
          refine ⟨_, rfl, ?_⟩
          refine fSize Y hu ?_
          exact ⟨_, _, rfl, rfl, _, rfl, q⟩
        · refine ⟨_, rfl, ?_⟩
          refine fHt Y hu ?_
          exact ⟨_, _, rfl, rfl, _, rfl, q⟩
        refine ite2 (fun d12 => ?_) (fun d12 => ?_)
        · rw [Bool.and_eq_true] at d12
          obtain ⟨d1, d2⟩ := d12
          have d1' : p < u.size := by have := of_decide_eq_true d1; omega
          have d2' : 0 < u.ht := by have := of_decide_eq_true d2; omega
          obtain ⟨i, x, y, rfl⟩ := Ph.T.ht_fork_of d2'
          simp only [Ph.T.size] at d1'
          refine ⟨fun σ' H' => ∃ (b : Addr) (cu : Ph.T × Nat) (xs : List V) (fr : List (Ph.T × Nat)) (o5 : Option V), σ' = [some (.ref M), some (.ref a), some (.int ((cu.2 : Nat) : Int)), some (.ref L), some (.ref b), o5, none, none, none] ∧ MakerAt Y.toCs H' M n ∧
            Rep Y.toCs H' cu.1 b ∧ H' L = some (.lst xs) ∧ FrS Y.toCs H' xs fr ∧ Ch (t, p0) fr cu ∧ Keep M H H' ∧ cu.1.ht < (Ph.T.fork i x y).ht, ?_, ?_⟩
          · rintro σ' H' ⟨b2, cu, xs', fr', o5', rfl, q1, q2, q3, q4, q5, q6, q7⟩
            exact ⟨_, q7, b2, cu, xs', fr', o5', rfl, q1, q2, q3, q4, q5, q6, rfl⟩
          obtain ⟨ax, ay, hx, hy, dx, fs, hf⟩ := hu.kids
          refine ⟨_, rfl, ?_⟩
          refine ⟨_, rfl, ?_⟩
          refine fFirst Y hf ?_
          refine fSize Y hx ?_
          refine ⟨_, _, rfl, rfl, ?_⟩
          have ef : decide ((p : Int) ≤ (x.size : Int)) = flag (Ph.T.fork i x y, p) := by
            simp only [flag]
            exact decide_eq_decide.mpr (by omega)
          dsimp only
          rw [ef]
          refine ⟨_, rfl, .inl ⟨rfl, _, SqL.of hl⟩, ?_⟩
          refine ⟨_, rfl, _, rfl, (by show 2 ≤ sizeLine; decide), fun q hq => ?_⟩
          have nbq := NB.none hq
          have nLq : L ≠ q := ne_of_none hl hq
          have hl2 : (upd H1 q (.tup [.ref b, .bl (flag (Ph.T.fork i x y, p))])) L = some (.lst xs) := by rw [upd_ne nLq]; exact hl
          refine ⟨L, xs, _, rfl, rfl, hl2, small1000 (by omega), ?_⟩
          have nbl := NB.lst hl2
          have nqL : q ≠ L := fun z => nLq z.symm
          have hu2 := (hu.at nbq (.tup [.ref b, .bl (flag (Ph.T.fork i x y, p))])).at nbl (.lst (xs ++ [.ref q]))
          have m2 := (m1.at nbq (.tup [.ref b, .bl (flag (Ph.T.fork i x y, p))])).at nbl (.lst (xs ++ [.ref q]))
          have hfr2 : FrS Y.toCs _ (xs ++ [.ref q]) (fr ++ [(Ph.T.fork i x y, p)]) := paired_snoc ((hfr.at nbq (.tup [.ref b, .bl (flag (Ph.T.fork i x y, p))])).at nbl (.lst (xs ++ [.ref q]))) ⟨q, b, rfl, by rw [upd_ne nqL, upd_same], hu2⟩
          have kp2 := (kp.trans (Keep.new hq (o := .tup [.ref b, .bl (flag (Ph.T.fork i x y, p))]))).at hL (.lst (xs ++ [.ref q]))
          obtain ⟨ax2, ay2, hx2, hy2, dx2, fs2, hf2⟩ := hu2.kids
          refine ⟨_, rfl, _, rfl, ?_⟩
          refine ite2 (fun d3 => ?_) (fun d3 => ?_)
          · have d3' : p ≤ x.size := by
              rw [← ef] at d3
              have := of_decide_eq_true d3; omega
            refine ⟨_, rfl, ?_⟩
            refine fFirst Y hf2 ?_
            exact ⟨ax2, (x, p), _, _, _, rfl, m2, hx2, upd_same, hfr2, hch.snoc ⟨i, x, y, rfl, fit.pos, by simp only []; omega, .inl ⟨d3', rfl⟩⟩, kp2, by simp only [Ph.T.ht]; omega⟩
          · have d3' : ¬ p ≤ x.size := fun z => d3 (by
              rw [← ef]
              exact decide_eq_true (by omega))
            refine ⟨_, rfl, ?_⟩
            refine ⟨_, rfl, ?_⟩
            refine fFirst Y hf2 ?_
            refine fSize Y hx2 ?_
            refine ⟨_, _, rfl, rfl, ?_⟩
            refine ⟨_, rfl, ?_⟩
            refine fSecond Y hf2 ?_
            refine ⟨ay2, (y, p - x.size), _, _, some (.bl (flag (Ph.T.fork i x y, p))), ?_, m2, hy2, upd_same, hfr2, hch.snoc ⟨i, x, y, rfl, fit.pos, by simp only []; omega, .inr ⟨d3', rfl⟩⟩, kp2, by simp only [Ph.T.ht]; omega⟩
            have e9 : (p : Int) - (x.size : Int) = ((p - x.size : Nat) : Int) := by omega
            rw [← e9]
            rfl
        · have d12' : p < u.size → u.ht = 0 := fun z => by
            by_cases z2 : u.ht = 0
            · exact z2
            · exact absurd (by rw [Bool.and_eq_true]; exact ⟨decide_eq_true (by omega), decide_eq_true (by omega)⟩) d12
          refine seq3_by (fun σ' H' => ∃ vl vr, σ' = [some (.ref M), some (.ref a), some (.int ((p : Nat) : Int)), some (.ref L), some (.ref b), o5, some vl, some vr, none] ∧ MakerAt Y.toCs H' M (Ph.split Ph.sewC n u p).2 ∧
            RepO Y.toCs H' (Ph.split Ph.sewC n u p).1.1 vl ∧ RepO Y.toCs H' (Ph.split Ph.sewC n u p).1.2 vr ∧ H' L = some (.lst xs) ∧ FrS Y.toCs H' xs fr ∧ Keep M H H') (fun nx hnx => ?_) ?_
          · refine ⟨_, rfl, ?_⟩
            refine ⟨_, rfl, ?_⟩
            refine ⟨_, rfl, ?_⟩
            refine fSize Y hu ?_
            refine ⟨_, _, rfl, rfl, _, rfl, ?_⟩
            obtain ⟨dM1, eM1⟩ := id m1
            have nLM : L ≠ M := ne_of hl eM1 (by intro z; cases z)
            refine ite2 (fun e => ?_) (fun e => ?_)
            · have e' : p < u.size := by have := of_decide_eq_true e; omega
              have u0 := d12' e'
              cases u with
              | fork i x y => simp [Ph.T.ht] at u0
              | leaf i v =>
                have es : Ph.split Ph.sewC n (.leaf i v) p = ((some (.leaf n (v.take p)), some (.leaf (n + 1) (v.drop p))), n + 2) := by
                  simp only [Ph.T.size] at e'
                  rw [Ph.split, if_neg fit.pos, if_neg (by omega)]
                simp only [Ph.T.size] at e'
                have v8 : v.length ≤ 8 := fit.wf.2
                obtain ⟨dx, pc, fs, lf⟩ := hu
                refine ⟨_, rfl, M, dM1, _, rfl, eM1, rfl, ?_⟩
                refine ⟨_, rfl, ?_⟩
                refine fContent Y lf ?_
                refine ⟨_, rfl, _, rfl, pc, _, rfl, SqT.of lf.tup, ?_, fun q hq => ?_⟩
                · rw [HT.sIx_nat, List.length_map]
                  omega
                rw [cutV_hi _ _ (by rw [List.length_map]; omega), ← List.map_take]
                have nbq := NB.none hq
                refine ⟨M, q, n, v.take p, rfl, m1.at nbq _, upd_same, by rw [List.length_take]; omega, fun H2 v2 m2 r2 k2 => ?_⟩
                have kq : Keep M H1 H2 := (Keep.new hq).trans k2
                obtain ⟨dM2, eM2⟩ := id m2
                have hu2 : Rep Y.toCs H2 (.leaf i v) b := Rep.mono Y kq m1 ⟨dx, pc, fs, lf⟩
                obtain ⟨dx', pc', fs', lf'⟩ := hu2
                refine ⟨_, rfl, M, dM2, _, rfl, eM2, rfl, ?_⟩
                refine ⟨_, rfl, ?_⟩
                refine fContent Y lf' ?_
                refine ⟨_, rfl, _, rfl, pc', _, rfl, SqT.of lf'.tup, ?_, fun q2 hq2 => ?_⟩
                · have := fit.pos
                  rw [HT.sIx_nat, List.length_map]
                  omega
                rw [cutV_lo _ _ (by rw [List.length_map]; omega), ← List.map_drop]
                have nbq2 := NB.none hq2
                refine ⟨M, q2, n + 1, v.drop p, rfl, m2.at nbq2 _, upd_same, by rw [List.length_drop]; omega, fun H3 v3 m3 r3 k3 => ?_⟩
                have kq2 : Keep M H2 H3 := (Keep.new hq2).trans k3
                have k13 := kq.trans kq2
                refine hnx _ _ ⟨v2, v3, rfl, ?_, ?_, ?_, k13 _ _ hl nLM, hfr.mono Y k13 m1, kp.trans k13⟩
                · rw [es]; exact m3
                · rw [es]; exact r2.mono Y kq2 m2
                · rw [es]; exact r3
            · have es : Ph.split Ph.sewC n u p = ((some u, none), n) := by
                have e' : u.size ≤ p := by
                  by_cases z : u.size ≤ p
                  · exact z
                  · exact absurd (decide_eq_true (by omega)) e
                cases u with
                | leaf i v => rw [Ph.split, if_neg fit.pos, if_pos (show v.length ≤ p from e')]
                | fork i x y => rw [Ph.split, if_neg fit.pos, if_pos (show x.size + y.size ≤ p from e')]
              refine hnx _ _ ⟨.ref b, .non, rfl, ?_, ?_, ?_, hl, hfr, kp⟩
              · rw [es]; exact m1
              · rw [es]; exact ⟨b, rfl, hu⟩
              · rw [es]; rfl
          · rintro σ' H2 ⟨vl, vr, rfl, m2, rl, rr, hl2, hfr2, kp2⟩
            obtain ⟨dM2, eM2⟩ := id m2
            have nLM : L ≠ M := ne_of hl2 eM2 (by intro z; cases z)
            refine ⟨_, rfl, L, xs, rfl, SqL.of hl2, for_rev (K := K) (a := L) (xs := xs) (fun i σ H' => ∃ (cu : Ph.T × Nat) (vl vr : V) (o5 o8 : Option V), σ = [some (.ref M), some (.ref a), some (.int ((p : Nat) : Int)), some (.ref L), some (.ref b), o5, some vl, some vr, o8] ∧
                Ch (t, p0) (fr.take (xs.length - i)) cu ∧ MakerAt Y.toCs H' M (Ph.split Ph.sewC n cu.1 cu.2).2 ∧ RepO Y.toCs H' (Ph.split Ph.sewC n cu.1 cu.2).1.1 vl ∧ RepO Y.toCs H' (Ph.split Ph.sewC n cu.1 cu.2).1.2 vr ∧
                H' L = some (.lst xs) ∧ FrS Y.toCs H' xs fr ∧ Keep M H H') ?_ ?_ ?_ ?_⟩
            · refine ⟨(u, p), vl, vr, _, _, rfl, ?_, m2, rl, rr, hl2, hfr2, kp2⟩
              rw [xl, Nat.sub_zero, List.take_length]
              exact hch
            · rintro i σ H' hi ⟨_, _, _, _, _, _, _, _, _, _, q, _⟩
              exact SqL.of q
            · rintro i v σ H' hi hv ⟨cu, vl, vr, o5, o8, rfl, q1, q2, q3, q4, q5, q6, q7⟩
              obtain ⟨f, hf, q, x, rfl, e2, e3⟩ := paired_get q6 hv
              have et : fr.take (xs.length - i) = fr.take (xs.length - (i + 1)) ++ [f] := by
                rw [xl] at hf hi ⊢
                have h1 : fr.length - 1 - i < fr.length := by omega
                rw [show fr.length - i = fr.length - (i + 1) + 1 by omega, List.take_add_one, show fr.length - (i + 1) = fr.length - 1 - i by omega, hf]
                rfl
              obtain ⟨c1, c2⟩ := q1.inv et
              obtain ⟨ff, _⟩ := c1.fit fit0
              obtain ⟨cf, _⟩ := c2.fit ff
              have so := Ph.split_ok n cu.1 cu.2 cf.avl cf.wf cf.sz
              have s1 : Ph.sizeO (Ph.split Ph.sewC n cu.1 cu.2).1.1 ≤ 2 ^ 40 := by
                rw [← Ph.sizeO_bytes, so.b1, List.length_take]
                have := Ph.T.size_bytes cu.1
                have := cf.sz
                simp only [Ph.bytesO]; omega
              have s2 : Ph.sizeO (Ph.split Ph.sewC n cu.1 cu.2).1.2 ≤ 2 ^ 40 := by
                rw [← Ph.sizeO_bytes, so.b2, List.length_drop]
                have := Ph.T.size_bytes cu.1
                have := cf.sz
                simp only [Ph.bytesO]; omega
              obtain ⟨j, l, r, ef, g1, g2, g3⟩ := c2
              obtain ⟨ft, fp⟩ := f
              dsimp only at *
              subst ef
              obtain ⟨al, ar, hl3, hr3, dx, fs, hfk⟩ := e3.kids
              have fs1 := ff.sz
              simp only [Ph.T.size] at fs1
              refine ⟨q, _, rfl, SqT.of e2, rfl, _, _, rfl, _, _, rfl, rfl, ?_⟩
              refine ⟨_, rfl, _, rfl, ?_⟩
              rcases g3 with ⟨g3, rfl⟩ | ⟨g3, rfl⟩
              · have eg : flag (Ph.T.fork j l r, fp) = true := decide_eq_true g3
                have es : Ph.split Ph.sewC n (.fork j l r) fp = (((Ph.split Ph.sewC n l fp).1.1, (Ph.sewC (Ph.split Ph.sewC n l fp).2 (Ph.split Ph.sewC n l fp).1.2 (some r)).1), (Ph.sewC (Ph.split Ph.sewC n l fp).2 (Ph.split Ph.sewC n l fp).1.2 (some r)).2) := by
                  rw [Ph.split, if_neg g1, if_neg g2, if_pos g3]
                rw [if_pos eg]
                refine ⟨_, rfl, _, rfl, ?_⟩
                refine ⟨_, rfl, ?_⟩
                refine fSecond Y hfk ?_
                refine ⟨M, _, _, _, _, some r, rfl, q2, q4, ⟨ar, rfl, hr3⟩, so.ok2, ⟨ff.avl.2.2.2, ff.wf.2⟩, s2, by simp only [Ph.sizeO]; omega, fun H3 v3 m3 r3 k3 => ?_⟩
                refine ⟨(Ph.T.fork j l r, fp), vl, v3, _, _, rfl, c1, ?_, ?_, ?_, k3 _ _ q5 nLM, q6.mono Y k3 q2, q7.trans k3⟩
                · rw [es]; exact m3
                · rw [es]; exact q3.mono Y k3 q2
                · rw [es]; exact r3
              · have eg : ¬ flag (Ph.T.fork j l r, fp) = true := fun z => g3 (of_decide_eq_true z)
                have es : Ph.split Ph.sewC n (.fork j l r) fp = (((Ph.sewC (Ph.split Ph.sewC n r (fp - l.size)).2 (some l) (Ph.split Ph.sewC n r (fp - l.size)).1.1).1, (Ph.split Ph.sewC n r (fp - l.size)).1.2), (Ph.sewC (Ph.split Ph.sewC n r (fp - l.size)).2 (some l) (Ph.split Ph.sewC n r (fp - l.size)).1.1).2) := by
                  rw [Ph.split, if_neg g1, if_neg g2, if_neg g3]
                rw [if_neg eg]
                refine ⟨_, rfl, ?_⟩
                refine ⟨_, rfl, ?_⟩
                refine fFirst Y hfk ?_
                refine ⟨_, rfl, ?_⟩
                refine ⟨M, _, _, _, some l, _, rfl, q2, ⟨al, rfl, hl3⟩, q3, ⟨ff.avl.2.2.1, ff.wf.1⟩, so.ok1, by simp only [Ph.sizeO]; omega, s1, fun H3 v3 m3 r3 k3 => ?_⟩
                refine ⟨(Ph.T.fork j l r, fp), v3, vr, _, _, rfl, c1, ?_, ?_, ?_, k3 _ _ q5 nLM, q6.mono Y k3 q2, q7.trans k3⟩
                · rw [es]; exact m3
                · rw [es]; exact r3
                · rw [es]; exact q4.mono Y k3 q2
            · rintro σ H' ⟨cu, vl, vr, o5, o8, rfl, q1, q2, q3, q4, q5, q6, q7⟩
              rw [Nat.sub_self, List.take_zero] at q1
              have := q1.nil_eq rfl
              subst this
              refine ⟨_, rfl, _, rfl, (by show 2 ≤ sizeLine; decide), fun q hq => ?_⟩
              exact k _ q vl vr (q2.at (NB.none hq) _) upd_same (q3.at (NB.none hq) _) (q4.at (NB.none hq) _) (q7.trans (Keep.new hq))
end
end Pw
set_option Elab.async false
set_option linter.all false
set_option maxRecDepth 100000
namespace Pw
open PySem PySem.Spec PyProof.Rows L2
theorem rgc8 (l : Nat) (h : l ≤ 1000) : RgC 0 (l : Int) 8 ((l + 7) / 8) := by
  have e : Builtin.Range.rangeSize 0 (l : Int) 8 = (((l + 7) / 8 : Nat) : Int) := by
    unfold PySem.Builtin.Range.rangeSize
    rw [if_pos (by decide)]
    split <;> omega
  refine ⟨by decide, by decide, ?_, e⟩
  unfold Builtin.Range.small
  rw [e]
  unfold Builtin.Range.rangeFitsLong
  simp only [Bool.and_eq_true, Bool.or_eq_true, decide_eq_true_eq, beq_iff_eq]
  rw [if_pos (by decide)]
  refine ⟨by omega, .inr ?_⟩
  rw [Bool.and_eq_true]
  exact ⟨decide_eq_true (by omega), decide_eq_true (by omega)⟩
theorem cutV_8 (w : List Nat) (i : Nat) (h : 8 * i < w.length) : cutV (w.map vI) (some ((0 : Int) + (i : Nat) * 8)) (some ((0 : Int) + (i : Nat) * 8 + 8)) = ((w.drop (8 * i)).take 8).map vI := by
  have e1 : (0 : Int) + (i : Nat) * 8 = ((8 * i : Nat) : Int) := by omega
  have e2 : (0 : Int) + (i : Nat) * 8 + 8 = ((8 * i + 8 : Nat) : Int) := by omega
  rw [e2, e1]
  unfold cutV
  rw [HT.sIx_nat, HT.sIx_nat, List.length_map, Nat.min_eq_left (show 8 * i ≤ w.length by omega), ← List.map_drop, ← List.map_take]
  congr 1
  by_cases c : 8 * i + 8 ≤ w.length
  · rw [Nat.min_eq_left c, show 8 * i + 8 - 8 * i = 8 by omega]
  · rw [Nat.min_eq_right (by omega), List.take_of_length_le (by rw [List.length_drop]; omega), List.take_of_length_le (by rw [List.length_drop]; omega)]
section
variable {P : Program} {w : World} {K : PySem.W.Frag} {mg : Str → Option Value} {base : Heap}
theorem sc_made_of_bytes : FnScope ["maker", "content", "tree", "start"] ["maker", "content"] (defScope s_made_of_bytes) := ⟨rfl, rfl, rfl, by decide +kernel, rfl, by decide +kernel, by decide +kernel⟩
def spMade (c : Cs) : Sp := fun vs H Q _ => ∃ (M C : Addr) (n : Nat) (w : List Nat), vs = [.ref M, .ref C] ∧ MakerAt c H M n ∧ H C = some (.lst (w.map vI)) ∧ w.length ≤ 200 ∧ Post c M H (Ph.built (w.length + 1) n none w).2 (Ph.built (w.length + 1) n none w).1 Q
theorem ok_made_of_bytes (Y : TX K mg) : FnOk P w K mg base CX0 7 Y.f_made_of_bytes Y.d_made_of_bytes ["maker", "content"] (spMade Y.toCs) := by
  refine Y.g_made_of_bytes.fn.ok sc_made_of_bytes (fun vs H Q E h => ?_) (fun cdv A outer s H vs Q E hr h => ?_)
  · obtain ⟨M, C, n, w, rfl, _⟩ := h
    rfl
  · obtain ⟨M, C, n, v, rfl, hM, hC, hv, k⟩ := h
    refine ⟨_, (pss_cons (ps_set (i := 2) sc_made_of_bytes.nd rfl (Or.inl rfl) pe_non)
      (pss_cons (ps_for PassesOwn.never rfl (pi_range3 (by rfl) Y.b_range (pa_cons pe_int (pa_cons (pe_callB call_len_seq (by rfl) Y.b_len PySem.boot_len (pa_cons (pv 1) pa_nil)) (pa_cons (pe_gint rfl Y.c_MOST_IN_LEAF) pa_nil)))) (pg_name (i := 3) sc_made_of_bytes.nd rfl (Or.inl rfl)) (pss_one (ps_set (i := 2) sc_made_of_bytes.nd rfl (Or.inl rfl) (pe_call (ok_joined Y) (hr.mono (by decide)) rfl Y.g_joined.at_ Y.g_joined.fn.kp Y.g_joined.bd .nil pass0 (pa_cons (pv 0) (pa_cons (pv 2) (pa_cons (pe_meth (pv 0) Y.cl_Maker Y.m_Maker_leaf.me (ok_Maker_leaf Y) (hr.mono (by decide)) Y.m_Maker_leaf.bd .nil pass0 (pa_cons (pe_callTy call_tuple_of (by rfl) Y.b_tuple PyProof.Rows.boot_tuple (pa_cons (pe_slice sl_list (pv 1) (po_some (pv 3)) (po_some (pe_op op_add (pv 3) (pe_gint rfl Y.c_MOST_IN_LEAF)))) pa_nil)) pa_nil)) pa_nil)))))))
      (pss_one (ps_ret (pv 2))))), ?_⟩
    have nCM : C ≠ M := by
      obtain ⟨dM, eM⟩ := hM
      exact ne_of hC eM (by intro z; cases z)
    refine ⟨_, rfl, C, _, rfl, .inl (SqL.of hC), ?_⟩
    rw [List.length_map]
    refine ⟨_, _, _, _, rfl, rgc8 v.length (by omega), ?_⟩
    refine for_rangeC (fun i σ H' => ∃ (r : V) (o : Option V) (t : Option Ph.T) (n' : Nat), σ = [some (.ref M), some (.ref C), some r, o] ∧ Ph.built (v.length + 1) n none v = Ph.built (v.length + 1 - i) n' t (v.drop (8 * i)) ∧
      MakerAt Y.toCs H' M n' ∧ RepO Y.toCs H' t r ∧ Ph.Ok t ∧ Ph.sizeO t + (v.drop (8 * i)).length = v.length ∧ H' C = some (.lst (v.map vI)) ∧ Keep M H H') ?_ ?_ ?_
    · exact ⟨.non, none, none, n, rfl, rfl, hM, rfl, True.intro, by simp [Ph.sizeO], hC, Keep.refl _ _⟩
    · rintro i σ H1 hi ⟨r, o, t, n', rfl, e1, m1, r1, ok1, s1, hC1, k1⟩
      have hi8 : 8 * i < v.length := by omega
      have hne : ¬ (v.drop (8 * i)).isEmpty = true := by
        rw [List.isEmpty_iff]
        intro z
        have := congrArg List.length z
        rw [List.length_drop] at this
        simp at this
        omega
      obtain ⟨dM1, eM1⟩ := id m1
      have hl1 : (v.drop (8 * i)).length = v.length - 8 * i := by rw [List.length_drop]
      refine ⟨_, rfl, ?_⟩
      refine ⟨_, rfl, ?_⟩
      refine ⟨_, rfl, M, dM1, _, rfl, eM1, rfl, ?_⟩
      refine ⟨_, rfl, ?_⟩
      refine ⟨_, rfl, _, rfl, ?_⟩
      refine ⟨_, rfl, ?_⟩
      refine ⟨_, _, rfl, rfl, _, rfl, ?_⟩
      refine ⟨C, _, rfl, SqL.of hC1, fun q hq => ?_⟩
      rw [cutV_8 v i hi8]
      have nbq := NB.none hq
      refine ⟨q, _, rfl, .inl ⟨SqL.of upd_same, fun p hp => ?_⟩⟩
      have nbp := NB.none hp
      refine ⟨M, p, n', (v.drop (8 * i)).take 8, rfl, (m1.at nbq _).at nbp _, upd_same, by rw [List.length_take]; omega, fun H2 v2 m2 r2 k2 => ?_⟩
      have k12 : Keep M H1 H2 := ((Keep.new hq).trans (Keep.new hp)).trans k2
      have okl : Ph.Ok (some (Ph.T.leaf n' ((v.drop (8 * i)).take 8))) := ⟨True.intro, by simp only [Ph.T.Wf, List.length_take]; omega⟩
      have hh := Ph.htO_small ok1 (by omega)
      refine ⟨M, _, _, _, t, some (.leaf n' ((v.drop (8 * i)).take 8)), rfl, m2, r1.mono Y k12 m1, r2, ?_, fun H3 v3 m3 r3 k3 => ?_⟩
      · rw [Ph.htO_some, show (Ph.T.leaf n' ((v.drop (8 * i)).take 8)).ht = 0 from rfl]; omega
      refine ⟨v3, _, (Ph.joinO (n' + 1) t (some (.leaf n' ((v.drop (8 * i)).take 8)))).1, (Ph.joinO (n' + 1) t (some (.leaf n' ((v.drop (8 * i)).take 8)))).2, rfl, ?_, m3, r3, Ph.joinO_ok ok1 okl, ?_, (k12.trans k3) _ _ hC1 nCM, k1.trans (k12.trans k3)⟩
      · rw [e1, show v.length + 1 - i = (v.length + 1 - (i + 1)) + 1 by omega, Ph.built, if_neg hne, List.drop_drop, show 8 * i + 8 = 8 * (i + 1) by omega]
      · rw [← Ph.sizeO_bytes, Ph.joinO_bytes, List.length_append, Ph.sizeO_bytes]
        simp only [Ph.bytesO, Ph.T.bytes, List.length_take, List.length_drop]
        omega
    · rintro σ H1 ⟨r, o, t, n', rfl, e1, m1, r1, ok1, s1, hC1, k1⟩
      have e2 : v.drop (8 * ((v.length + 7) / 8)) = [] := List.drop_of_length_le (by omega)
      rw [e2] at e1
      have e3 : Ph.built (v.length + 1 - (v.length + 7) / 8) n' t [] = (t, n') := by
        cases v.length + 1 - (v.length + 7) / 8 with
        | zero => rfl
        | succ f => rfl
      rw [e1, e3] at k
      exact ⟨_, rfl, k H1 r m1 r1 k1⟩
theorem sc_put_in : FnScope ["maker", "tree", "place", "middle", "sides"] ["maker", "tree", "place", "middle"] (defScope s_put_in) := ⟨rfl, rfl, rfl, by decide +kernel, rfl, by decide +kernel, by decide +kernel⟩
def spPutIn (c : Cs) : Sp := fun vs H Q _ => ∃ (M : Addr) (v vm : V) (p n : Nat) (o m : Option Ph.T), vs = [.ref M, v, .int ((p : Nat) : Int), vm] ∧ MakerAt c H M n ∧ RepO c H o v ∧ RepO c H m vm ∧ Ph.Ok o ∧ Ph.Ok m ∧ Ph.sizeO o + Ph.sizeO m ≤ 2 ^ 40 ∧
  Post c M H (Ph.putIn Ph.sewC n o p m).2 (Ph.putIn Ph.sewC n o p m).1 Q
theorem ok_put_in (Y : TX K mg) : FnOk P w K mg base CX0 10 Y.f_put_in Y.d_put_in ["maker", "tree", "place", "middle"] (spPutIn Y.toCs) := by
  refine Y.g_put_in.fn.ok sc_put_in (fun vs H Q E h => ?_) (fun cdv A outer s H vs Q E hr h => ?_)
  · obtain ⟨M, v, vm, p, n, o, m, rfl, _⟩ := h
    rfl
  · obtain ⟨M, v, vm, p, n, o, m, rfl, hM, ho, hm, oko, okm, sz, k⟩ := h
    refine ⟨_, (pss_cons (ps_set (i := 4) sc_put_in.nd rfl (Or.inl rfl) (pe_call (ok_parted Y) (hr.mono (by decide)) rfl Y.g_parted.at_ Y.g_parted.fn.kp Y.g_parted.bd .nil pass0 (pa_cons (pv 0) (pa_cons (pv 1) (pa_cons (pv 2) pa_nil)))))
      (pss_one (ps_ret (pe_call (ok_sewn Y) (hr.mono (by decide)) rfl Y.g_sewn.at_ Y.g_sewn.fn.kp Y.g_sewn.bd .nil pass0 (pa_cons (pv 0) (pa_cons (pe_call (ok_sewn Y) (hr.mono (by decide)) rfl Y.g_sewn.at_ Y.g_sewn.fn.kp Y.g_sewn.bd .nil pass0 (pa_cons (pv 0) (pa_cons (pe_ix ix_tup (pv 4) pe_int (fun _ _ => rfl)) (pa_cons (pv 3) pa_nil)))) (pa_cons (pe_ix ix_tup (pv 4) pe_int (fun _ _ => rfl)) pa_nil))))))), ?_⟩
    have so := Ph.splitO_ok (n := n) (p := p) oko (by omega)
    have s1 : Ph.sizeO (Ph.splitO Ph.sewC n o p).1.1 ≤ Ph.sizeO o := by rw [← Ph.sizeO_bytes, so.b1, List.length_take, Ph.sizeO_bytes]; omega
    have s2 : Ph.sizeO (Ph.splitO Ph.sewC n o p).1.2 ≤ Ph.sizeO o := by rw [← Ph.sizeO_bytes, so.b2, List.length_drop, Ph.sizeO_bytes]; omega
    refine ⟨_, rfl, _, rfl, _, rfl, ?_⟩
    refine ⟨M, v, p, n, o, rfl, hM, ho, oko, by omega, fun H1 q v1 v2 m1 t1 r1 r2 k1 => ?_⟩
    refine ⟨_, rfl, ?_⟩
    refine ⟨_, rfl, ?_⟩
    refine ⟨_, rfl, q, _, _, _, rfl, rfl, SqT.of t1, atI_nat (j := 0) rfl, ?_⟩
    refine ⟨_, rfl, ?_⟩
    have sc := Ph.sewC_ok (n := (Ph.splitO Ph.sewC n o p).2) so.ok1 okm
    refine ⟨M, _, _, _, _, _, rfl, m1, r1, hm.mono Y k1 hM, so.ok1, okm, by omega, by omega, fun H2 v3 m2 r3 k2 => ?_⟩
    obtain ⟨dM1, eM1⟩ := id m1
    have nqM : q ≠ M := ne_of t1 eM1 (by intro z; cases z)
    refine ⟨_, rfl, q, _, _, _, rfl, rfl, SqT.of (k2 _ _ t1 nqM), atI_nat (j := 1) rfl, ?_⟩
    have s3 : Ph.sizeO (Ph.sewC (Ph.splitO Ph.sewC n o p).2 (Ph.splitO Ph.sewC n o p).1.1 m).1 ≤ Ph.sizeO o + Ph.sizeO m := by
      rw [← Ph.sizeO_bytes, sc.2.1, List.length_append, Ph.sizeO_bytes, Ph.sizeO_bytes]; omega
    refine ⟨M, _, _, _, _, _, rfl, m2, r3, r2.mono Y k2 m1, sc.1, so.ok2, by omega, by omega, fun H3 v4 m3 r4 k3 => ?_⟩
    exact k H3 v4 m3 r4 ((k1.trans k2).trans k3)
theorem sc_taken_out : FnScope ["maker", "tree", "begin", "end", "sides", "rest"] ["maker", "tree", "begin", "end"] (defScope s_taken_out) := ⟨rfl, rfl, rfl, by decide +kernel, rfl, by decide +kernel, by decide +kernel⟩
def spTakenOut (c : Cs) : Sp := fun vs H Q _ => ∃ (M : Addr) (v : V) (a b n : Nat) (o : Option Ph.T), vs = [.ref M, v, .int ((a : Nat) : Int), .int ((b : Nat) : Int)] ∧ MakerAt c H M n ∧ RepO c H o v ∧ Ph.Ok o ∧ Ph.sizeO o ≤ 2 ^ 40 ∧ a ≤ b ∧
  Post c M H (Ph.takeOut Ph.sewC n o a b).2 (Ph.takeOut Ph.sewC n o a b).1 Q
theorem ok_taken_out (Y : TX K mg) : FnOk P w K mg base CX0 10 Y.f_taken_out Y.d_taken_out ["maker", "tree", "begin", "end"] (spTakenOut Y.toCs) := by
  refine Y.g_taken_out.fn.ok sc_taken_out (fun vs H Q E h => ?_) (fun cdv A outer s H vs Q E hr h => ?_)
  · obtain ⟨M, v, a, b, n, o, rfl, _⟩ := h
    rfl
  · obtain ⟨M, v, a, b, n, o, rfl, hM, ho, oko, sz, hab, k⟩ := h
    refine ⟨_, (pss_cons (ps_set (i := 4) sc_taken_out.nd rfl (Or.inl rfl) (pe_call (ok_parted Y) (hr.mono (by decide)) rfl Y.g_parted.at_ Y.g_parted.fn.kp Y.g_parted.bd .nil pass0 (pa_cons (pv 0) (pa_cons (pv 1) (pa_cons (pv 2) pa_nil)))))
      (pss_cons (ps_set (i := 5) sc_taken_out.nd rfl (Or.inl rfl) (pe_ix ix_tup (pe_call (ok_parted Y) (hr.mono (by decide)) rfl Y.g_parted.at_ Y.g_parted.fn.kp Y.g_parted.bd .nil pass0 (pa_cons (pv 0) (pa_cons (pe_ix ix_tup (pv 4) pe_int (fun _ _ => rfl)) (pa_cons (pe_op op_sub (pv 3) (pv 2)) pa_nil)))) pe_int (fun _ _ => rfl)))
      (pss_one (ps_ret (pe_call (ok_sewn Y) (hr.mono (by decide)) rfl Y.g_sewn.at_ Y.g_sewn.fn.kp Y.g_sewn.bd .nil pass0 (pa_cons (pv 0) (pa_cons (pe_ix ix_tup (pv 4) pe_int (fun _ _ => rfl)) (pa_cons (pv 5) pa_nil)))))))), ?_⟩
    have so := Ph.splitO_ok (n := n) (p := a) oko (by omega)
    have s1 : Ph.sizeO (Ph.splitO Ph.sewC n o a).1.1 ≤ Ph.sizeO o := by rw [← Ph.sizeO_bytes, so.b1, List.length_take, Ph.sizeO_bytes]; omega
    have s2 : Ph.sizeO (Ph.splitO Ph.sewC n o a).1.2 ≤ Ph.sizeO o := by rw [← Ph.sizeO_bytes, so.b2, List.length_drop, Ph.sizeO_bytes]; omega
    have so2 := Ph.splitO_ok (n := (Ph.splitO Ph.sewC n o a).2) (p := b - a) so.ok2 (by omega)
    have s3 : Ph.sizeO (Ph.splitO Ph.sewC (Ph.splitO Ph.sewC n o a).2 (Ph.splitO Ph.sewC n o a).1.2 (b - a)).1.2 ≤ Ph.sizeO o := by rw [← Ph.sizeO_bytes, so2.b2, List.length_drop, Ph.sizeO_bytes]; omega
    refine ⟨_, rfl, _, rfl, _, rfl, ?_⟩
    refine ⟨M, v, a, n, o, rfl, hM, ho, oko, by omega, fun H1 q v1 v2 m1 t1 r1 r2 k1 => ?_⟩
    obtain ⟨dM1, eM1⟩ := id m1
    have nqM : q ≠ M := ne_of t1 eM1 (by intro z; cases z)
    refine ⟨_, rfl, ?_⟩
    refine ⟨_, rfl, q, _, _, _, rfl, rfl, SqT.of t1, atI_nat (j := 1) rfl, ?_⟩
    refine ⟨_, rfl, ?_⟩
    refine ⟨_, rfl, _, _, rfl, rfl, ?_⟩
    refine ⟨M, v2, b - a, _, _, ?_, m1, r2, so.ok2, by omega, fun H2 q2 v3 v4 m2 t2 r3 r4 k2 => ?_⟩
    · have e9 : (b : Int) - (a : Int) = ((b - a : Nat) : Int) := by omega
      rw [← e9]
      rfl
    refine ⟨q2, _, _, _, rfl, rfl, SqT.of t2, atI_nat (j := 1) rfl, ?_⟩
    refine ⟨_, rfl, ?_⟩
    refine ⟨_, rfl, q, _, _, _, rfl, rfl, SqT.of (k2 _ _ t1 nqM), atI_nat (j := 0) rfl, ?_⟩
    refine ⟨_, rfl, ?_⟩
    refine ⟨M, _, _, _, _, _, rfl, m2, r1.mono Y k2 m1, r4, so.ok1, so2.ok2, by omega, by omega, fun H3 v5 m3 r5 k3 => ?_⟩
    exact k H3 v5 m3 r5 ((k1.trans k2).trans k3)
theorem sc_cut : FnScope ["maker", "tree", "begin", "end", "front"] ["maker", "tree", "begin", "end"] (defScope s_cut) := ⟨rfl, rfl, rfl, by decide +kernel, rfl, by decide +kernel, by decide +kernel⟩
def spCut (c : Cs) : Sp := fun vs H Q _ => ∃ (M : Addr) (v : V) (a b n : Nat) (o : Option Ph.T), vs = [.ref M, v, .int ((a : Nat) : Int), .int ((b : Nat) : Int)] ∧ MakerAt c H M n ∧ RepO c H o v ∧ Ph.Ok o ∧ Ph.sizeO o ≤ 2 ^ 40 ∧
  Post c M H (Ph.cut Ph.sewC n o a b).2 (Ph.cut Ph.sewC n o a b).1 Q
theorem ok_cut (Y : TX K mg) : FnOk P w K mg base CX0 10 Y.f_cut Y.d_cut ["maker", "tree", "begin", "end"] (spCut Y.toCs) := by
  refine Y.g_cut.fn.ok sc_cut (fun vs H Q E h => ?_) (fun cdv A outer s H vs Q E hr h => ?_)
  · obtain ⟨M, v, a, b, n, o, rfl, _⟩ := h
    rfl
  · obtain ⟨M, v, a, b, n, o, rfl, hM, ho, oko, sz, k⟩ := h
    refine ⟨_, (pss_cons (ps_set (i := 4) sc_cut.nd rfl (Or.inl rfl) (pe_ix ix_tup (pe_call (ok_parted Y) (hr.mono (by decide)) rfl Y.g_parted.at_ Y.g_parted.fn.kp Y.g_parted.bd .nil pass0 (pa_cons (pv 0) (pa_cons (pv 1) (pa_cons (pv 3) pa_nil)))) pe_int (fun _ _ => rfl)))
      (pss_one (ps_ret (pe_ix ix_tup (pe_call (ok_parted Y) (hr.mono (by decide)) rfl Y.g_parted.at_ Y.g_parted.fn.kp Y.g_parted.bd .nil pass0 (pa_cons (pv 0) (pa_cons (pv 4) (pa_cons (pv 2) pa_nil)))) pe_int (fun _ _ => rfl))))), ?_⟩
    have so := Ph.splitO_ok (n := n) (p := b) oko (by omega)
    have s1 : Ph.sizeO (Ph.splitO Ph.sewC n o b).1.1 ≤ Ph.sizeO o := by rw [← Ph.sizeO_bytes, so.b1, List.length_take, Ph.sizeO_bytes]; omega
    refine ⟨_, rfl, _, rfl, _, rfl, ?_⟩
    refine ⟨M, v, b, n, o, rfl, hM, ho, oko, by omega, fun H1 q v1 v2 m1 t1 r1 r2 k1 => ?_⟩
    refine ⟨q, _, _, _, rfl, rfl, SqT.of t1, atI_nat (j := 0) rfl, ?_⟩
    refine ⟨_, rfl, _, rfl, _, rfl, ?_⟩
    refine ⟨M, v1, a, _, _, rfl, m1, r1, so.ok1, by omega, fun H2 q2 v3 v4 m2 t2 r3 r4 k2 => ?_⟩
    refine ⟨q2, _, _, _, rfl, rfl, SqT.of t2, atI_nat (j := 1) rfl, ?_⟩
    exact k H2 v4 m2 r4 (k1.trans k2)
end
end Pw
set_option Elab.async false
set_option linter.all false
set_option maxRecDepth 100000
namespace Pw
open PySem PySem.Spec PyProof.Rows L2
/-! ### counting -/
def nkey (i : Nat) : Key := Sum.inl ((i + 1 : Nat) : Int)
theorem nkey_inj {i j : Nat} (h : nkey i = nkey j) : i = j := by
  have := Sum.inl.inj h
  omega
def SeenAt (kvs : List (Key × V)) (S : List Nat) : Prop := kvs.map (·.1) = (S.map nkey).reverse
theorem SeenAt.len {kvs : List (Key × V)} {S : List Nat} (h : SeenAt kvs S) : kvs.length = S.length := by
  have := congrArg (List.length) h
  simpa using this
theorem SeenAt.has {kvs : List (Key × V)} {S : List Nat} (h : SeenAt kvs S) (i : Nat) : (valV kvs (nkey i)).isSome = true ↔ i ∈ S := by
  constructor
  · intro q
    obtain ⟨v, e⟩ := Option.isSome_iff_exists.mp q
    have m := valV_in e
    rw [h, List.mem_reverse] at m
    obtain ⟨j, hj, e2⟩ := List.mem_map.mp m
    rw [← nkey_inj e2]; exact hj
  · intro m
    cases e : valV kvs (nkey i) with
    | some v => rfl
    | none =>
      exfalso
      refine valV_not e ?_
      rw [h, List.mem_reverse]
      exact List.mem_map.mpr ⟨i, m, rfl⟩
theorem SeenAt.put {kvs : List (Key × V)} {S : List Nat} (h : SeenAt kvs S) {i : Nat} (n : i ∉ S) (v : V) : SeenAt (putK kvs (nkey i) v) (i :: S) := by
  have e : valV kvs (nkey i) = none := by
    cases e : valV kvs (nkey i) with
    | none => rfl
    | some v => exact absurd ((h.has i).mp (by rw [e]; rfl)) n
  unfold SeenAt
  rw [putK_new v e, List.map_append, h]
  simp
/-- what waits -/
def WaitAt (c : Cs) (H : Hp) : List V → List (Option Ph.T) → Prop := Paired fun v o => RepO c H o v
theorem WaitAt.at {c : Cs} {H : Hp} {p : Addr} (nb : NB H p) (o : HO) {xs : List V} {lo : List (Option Ph.T)} (h : WaitAt c H xs lo) : WaitAt c (upd H p o) xs lo :=
  Paired.mapP h fun v t e => RepO.at nb o e
theorem paired_last {α β : Type} {F : α → β → Prop} : ∀ {l : List α} {m : List β}, Paired F l m → 0 < l.length → ∃ a b l' m', l = l' ++ [a] ∧ m = m' ++ [b] ∧ Paired F l' m' ∧ F a b
  | _, _, .nil, h => by simp at h
  | _, _, .cons (a := a) (b := b) r .nil, _ => ⟨a, b, [], [], rfl, rfl, .nil, r⟩
  | _, _, .cons (a := a) (b := b) r (.cons (a := a2) (b := b2) r2 t), _ => by
    obtain ⟨x, y, l', m', e1, e2, p, q⟩ := paired_last (.cons r2 t) (by simp)
    exact ⟨x, y, a :: l', b :: m', by rw [e1]; rfl, by rw [e2]; rfl, .cons r p, q⟩
theorem seqIf_or {t u : TT} {A B R : TS} {D : Ends} {σ : L2.St} {H : Hp} {b1 b2 : Bool} (h1 : ∀ Q : Bool → Hp → Prop, Q b1 H → t σ H Q) (h2 : b1 = false → ∀ Q : Bool → Hp → Prop, Q b2 H → u σ H Q)
    (q : if (b1 || b2) = true then A { D with nx := R D } σ H else B { D with nx := R D } σ H) : tSeq (tIfS (tOr t u) A B) R D σ H := or2 (b1 := b1) (b2 := b2) h1 h2 q
section
variable {P : Program} {w : World} {K : PySem.W.Frag} {mg : Str → Option Value} {base : Heap}
theorem sc_count_nodes : FnScope ["trees", "earlier", "seen", "waiting", "node"] ["trees", "earlier"] (defScope s_count_nodes) := ⟨rfl, rfl, rfl, by decide +kernel, rfl, by decide +kernel, by decide +kernel⟩
def spCount (c : Cs) : Sp := fun vs H Q _ => ∃ (B : Addr) (vs0 : List V) (los : List (Option Ph.T)) (n b : Nat), vs = [.ref B, .int ((n : Nat) : Int)] ∧ H B = some (.lst vs0) ∧ WaitAt c H vs0 los ∧ los.length ≤ 1000 ∧ Ph.Countable n (los.filterMap id) b ∧ b ≤ 10000000 ∧ ∀ (H' : Hp) (N : Nat), Ph.Cnt n (los.filterMap id) N → Same H H' → Q (.int ((N : Nat) : Int)) H'
theorem ok_count_nodes (Y : TX K mg) : FnOk P w K mg base CX0 1 Y.f_count_nodes Y.d_count_nodes ["trees", "earlier"] (spCount Y.toCs) := by
  refine Y.g_count_nodes.fn.ok sc_count_nodes (fun vs H Q E h => ?_) (fun cdv A outer s H vs Q E hr h => ?_)
  · obtain ⟨B, vs0, los, n, b, rfl, _⟩ := h
    rfl
  · obtain ⟨B, vs0, los, n, b, rfl, hB, ho, hlos, cn, hb, k⟩ := h
    have hu := hu_of hr
    have hline : sizeLine = 16777216 := sizeLine_eq
    generalize hts : los.filterMap id = ts at *
    refine ⟨_, (pss_cons (ps_set (i := 2) sc_count_nodes.nd rfl (Or.inl rfl) pe_dnewK)
      (pss_cons (ps_set (i := 3) sc_count_nodes.nd rfl (Or.inl rfl) (pe_callTy call_list_of (by rfl) Y.b_list PyProof.Rows.boot_list (pa_cons (pv 0) pa_nil)))
      (pss_cons (ps_while PassesOwn.never (pt_cmpR op_gt (pe_callB call_len_seq (by rfl) Y.b_len PySem.boot_len (pa_cons (pv 3) pa_nil)) pe_int (nomark _)) (pss_cons (ps_set (i := 4) sc_count_nodes.nd rfl (Or.inl rfl) (pe_bm0 PySem.F.plainAttrs_list PySem.F.slot_list_pop PySem.F.type_list_pop mt_pop (pv 3)))
        (pss_cons (ps_if (PW.pt (pw_or (pt_cmpR op_isN (pv 4) pe_non (nomark _)) (pw_or (pt_cmpR op_le (pe_fld (pv 4) rfl) (pv 1) (nomark _)) (pw_or1 (pt_cmp (pc_din hu (pe_fld (pv 4) rfl) (pv 2))))))) (pss_one ps_continue) pss_nil)
        (pss_cons (ps_dput hu (pv 2) (pe_fld (pv 4) rfl) pe_bl rfl)
        (pss_one (ps_if (pt_cmpR op_gt (pe_fld (pv 4) rfl) pe_int (nomark _)) (pss_cons (ps_expr (pe_bm PySem.F.plainAttrs_list PySem.F.slot_list_append PySem.F.type_list_append mt_append (pv 3) (pa_cons (pe_fld (pv 4) rfl) pa_nil)))
          (pss_one (ps_expr (pe_bm PySem.F.plainAttrs_list PySem.F.slot_list_append PySem.F.type_list_append mt_append (pv 3) (pa_cons (pe_fld (pv 4) rfl) pa_nil))))) pss_nil))))))
      (pss_one (ps_ret (pe_callB call_lenD (by rfl) Y.b_len PySem.boot_len (pa_cons (pv 2) pa_nil))))))), ?_⟩
    intro d hd
    have nBd : B ≠ d := ne_of_none hB hd
    refine ⟨_, rfl, B, _, rfl, .inl (SqL.of (by rw [upd_ne nBd]; exact hB)), fun L hL => ?_⟩
    have nbd := NB.none hd
    have nbL := NB.none hL
    have hL0 : H L = none := by
      by_cases z : L = d
      · subst z; rw [upd_same] at hL; cases hL
      · rw [upd_ne z] at hL; exact hL
    have ndL : d ≠ L := fun z => by subst z; rw [upd_same] at hL; cases hL
    refine ⟨fun m σ H' => ∃ (xs : List V) (lo : List (Option Ph.T)) (S : List Nat) (kvs : List (Key × V)) (o4 : Option V), σ = [some (.ref B), some (.int ((n : Nat) : Int)), some (.ref d), some (.ref L), o4] ∧ H' L = some (.lst xs) ∧ H' d = some (.dK kvs) ∧
        WaitAt Y.toCs H' xs lo ∧ SeenAt kvs S ∧ Ph.Dfs n ts S (lo.filterMap id) ∧ lo.length ≤ 1000 + S.length ∧ Same H H' ∧ m = lo.length + 2 * (b - S.length),
      ⟨_, vs0, los, [], [], none, rfl, upd_same, by rw [upd_ne ndL, upd_same], WaitAt.at nbL _ (WaitAt.at nbd _ ho), rfl, ?_, by simpa using hlos, ?_, rfl⟩, ?_⟩
    · rw [hts]
      exact Ph.Dfs.start n ts
    · intro b' u e
      rw [upd_ne (ne_of_none e hL0), upd_ne (ne_of_none e hd)]; exact e
    rintro m σ H1 ⟨xs, lo, S, kvs, o4, rfl, hl, hdk, hw, hse, dfs, hlen, sm, rfl⟩
    have xl := paired_len hw
    refine ⟨_, rfl, L, _, rfl, .inl (SqL.of hl), _, _, rfl, rfl, _, rfl, ?_⟩
    have sb : S.length ≤ b := Ph.nodup_lt_len dfs.nd fun i hi => by
      obtain ⟨_, t, ht, hit⟩ := dfs.sub i hi
      exact Ph.T.below_iff.mp (cn.below t ht) i hit
    refine ite2 (fun c => ?_) (fun c => ?_)
    · have c' : 0 < xs.length := by have := of_decide_eq_true c; omega
      obtain ⟨x, ox, xs', lo', rfl, rfl, hw', hx⟩ := paired_last hw c'
      refine ⟨fun σ' H' => ∃ (xs : List V) (lo : List (Option Ph.T)) (S' : List Nat) (kvs : List (Key × V)) (o4 : Option V), σ' = [some (.ref B), some (.int ((n : Nat) : Int)), some (.ref d), some (.ref L), o4] ∧ H' L = some (.lst xs) ∧ H' d = some (.dK kvs) ∧
        WaitAt Y.toCs H' xs lo ∧ SeenAt kvs S' ∧ Ph.Dfs n ts S' (lo.filterMap id) ∧ lo.length ≤ 1000 + S'.length ∧ Same H H' ∧ lo.length + 2 * (b - S'.length) < (lo' ++ [ox]).length + 2 * (b - S.length), ?_, ?_⟩
      · rintro σ' H' ⟨xs2, lo2, S2, kvs2, o42, rfl, q1, q2, q3, q4, q5, q6, q7, q8⟩
        exact ⟨_, q8, xs2, lo2, S2, kvs2, o42, rfl, q1, q2, q3, q4, q5, q6, q7, rfl⟩
      refine ⟨_, rfl, .inl ⟨rfl, _, SqL.of hl⟩, L, _, x, rfl, rfl, hl, by simp, ?_⟩
      rw [List.dropLast_concat]
      have nbl := NB.lst hl
      have hl2 : (upd H1 L (.lst xs')) L = some (.lst xs') := upd_same
      have hd2 : (upd H1 L (.lst xs')) d = some (.dK kvs) := by rw [upd_ne ndL]; exact hdk
      have hw2 := WaitAt.at nbl (.lst xs') hw'
      have hx2 : RepO Y.toCs (upd H1 L (.lst xs')) ox x := RepO.at nbl (.lst xs') hx
      have sm2 : Same H (upd H1 L (.lst xs')) := fun b' u e => by
        rw [upd_ne (ne_of_none e hL0)]; exact sm b' u e
      generalize hH2 : upd H1 L (.lst xs') = H2 at *
      simp only [List.length_append, List.length_cons, List.length_nil] at hlen xl
      cases ox with
      | none =>
        have ex : x = .non := hx
        subst ex
        dsimp only [gName]
        refine seqIf_or (b1 := true) (b2 := true) (fun Q q => ?_) (fun z => by cases z) ?_
        · exact ⟨_, rfl, rfl, _, rfl, q⟩
        refine iteT ?_
        refine ⟨xs', lo', S, kvs, _, rfl, hl2, hd2, hw2, hse, ?_, by omega, sm2, by simp⟩
        simpa using dfs
      | some u =>
        obtain ⟨a, rfl, ra⟩ := hx2
        have df2 : Ph.Dfs n ts S (u :: lo'.filterMap id) := dfs.perm fun t => by simp [or_comm]
        dsimp only [gName]
        refine seqIf_or (b1 := false) (b2 := (decide (((u.id + 1 : Nat) : Int) ≤ ((n : Nat) : Int)) || (valV kvs (nkey u.id)).isSome)) (fun Q q => ?_) (fun _ Q q => ?_) ?_
        · exact ⟨_, rfl, rfl, _, rfl, q⟩
        · refine or2 (b1 := decide (((u.id + 1 : Nat) : Int) ≤ ((n : Nat) : Int))) (b2 := (valV kvs (nkey u.id)).isSome) (fun Q q => ?_) (fun _ Q q => ?_) q
          · refine ⟨_, rfl, ?_⟩
            refine fNumber Y ra ?_
            exact ⟨_, rfl, _, _, rfl, rfl, _, rfl, q⟩
          · refine ⟨_, rfl, ?_⟩
            refine fNumber Y ra ?_
            exact ⟨_, rfl, d, _, rfl, DGet.k (k := nkey u.id) hd2, _, rfl, q⟩
        refine ite2 (fun e => ?_) (fun e => ?_)
        · refine ⟨xs', lo', S, kvs, _, rfl, hl2, hd2, hw2, hse, df2.skip ?_, by omega, sm2, by simp⟩
          rw [Bool.false_or, Bool.or_eq_true] at e
          rcases e with e | e
          · left
            have := of_decide_eq_true e
            omega
          · right
            exact (hse.has u.id).mp e
        · rw [Bool.false_or, Bool.or_eq_true] at e
          have e1 : n ≤ u.id := by
            by_cases z : n ≤ u.id
            · exact z
            · exact absurd (.inl (decide_eq_true (by omega))) e
          have e2 : u.id ∉ S := fun z => e (.inr ((hse.has u.id).mpr z))
          have df3 := df2.visit cn.coh e1 e2
          have sb2 : S.length + 1 ≤ b := by
            have := Ph.nodup_lt_len (n := b) df3.nd fun i hi => by
              obtain ⟨_, t, ht, hit⟩ := df3.sub i hi
              exact Ph.T.below_iff.mp (cn.below t ht) i hit
            simpa using this
          refine ⟨_, rfl, ?_⟩
          refine ⟨_, rfl, ?_⟩
          refine fNumber Y ra ?_
          refine ⟨d, _, rfl, DPut.k (k := nkey u.id) hd2 (by rw [hse.len]; omega), ?_⟩
          have nbd2 := NB.dK hd2
          have nLd : L ≠ d := fun z => ndL z.symm
          have hd3 : (upd H2 d (.dK (putK kvs (nkey u.id) (.bl true)))) d = some (.dK (putK kvs (nkey u.id) (.bl true))) := upd_same
          have hl3 : (upd H2 d (.dK (putK kvs (nkey u.id) (.bl true)))) L = some (.lst xs') := by rw [upd_ne nLd]; exact hl2
          have hw3 := WaitAt.at nbd2 (.dK (putK kvs (nkey u.id) (.bl true))) hw2
          have ra3 := ra.at nbd2 (.dK (putK kvs (nkey u.id) (.bl true)))
          have sm3 : Same H (upd H2 d (.dK (putK kvs (nkey u.id) (.bl true)))) := fun b' u' e' => by
            rw [upd_ne (ne_of_none e' hd)]; exact sm2 b' u' e'
          generalize hH3 : upd H2 d (.dK (putK kvs (nkey u.id) (.bl true))) = H3 at *
          refine ⟨_, rfl, ?_⟩
          refine fHt Y ra3 ?_
          refine ⟨_, _, rfl, rfl, _, rfl, ?_⟩
          refine ite2 (fun f => ?_) (fun f => ?_)
          · have f' : 0 < u.ht := by have := of_decide_eq_true f; omega
            obtain ⟨i, p, q, rfl⟩ := Ph.T.ht_fork_of f'
            obtain ⟨ap, aq, hp, hq, dx, fs, hf⟩ := ra3.kids
            refine ⟨_, rfl, .inl ⟨rfl, _, SqL.of hl3⟩, ?_⟩
            refine ⟨_, rfl, ?_⟩
            refine fFirst Y hf ?_
            refine ⟨L, _, _, rfl, rfl, hl3, by omega, ?_⟩
            have nbl3 := NB.lst hl3
            obtain ⟨ap2, aq2, hp2, hq2, dx2, fs2, hf2⟩ := (ra3.at nbl3 (.lst (xs' ++ [.ref ap]))).kids
            have hl4 : (upd H3 L (.lst (xs' ++ [.ref ap]))) L = some (.lst (xs' ++ [.ref ap])) := upd_same
            refine ⟨_, rfl, .inl ⟨rfl, _, SqL.of hl4⟩, ?_⟩
            refine ⟨_, rfl, ?_⟩
            refine fSecond Y hf2 ?_
            refine ⟨L, _, _, rfl, rfl, hl4, by simp only [List.length_append, List.length_cons, List.length_nil]; omega, ?_⟩
            have nbl4 := NB.lst hl4
            rw [upd_upd]
            refine ⟨xs' ++ [.ref ap] ++ [.ref aq2], lo' ++ [some p] ++ [some q], i :: S, _, _, rfl, upd_same, ?_, ?_, hse.put e2 (.bl true), df3.perm fun t => ?_, ?_, ?_, ?_⟩
            · rw [upd_ne ndL]; exact hd3
            · have e9 : upd H3 L (.lst (xs' ++ [.ref ap] ++ [.ref aq2])) = upd (upd H3 L (.lst (xs' ++ [.ref ap]))) L (.lst (xs' ++ [.ref ap] ++ [.ref aq2])) := by rw [upd_upd]
              rw [e9]
              exact WaitAt.at nbl4 _ (paired_snoc (paired_snoc (hw3.at nbl3 _) ⟨ap, rfl, hp.at nbl3 _⟩) ⟨aq2, rfl, hq2⟩)
            · simp only [Ph.T.kids, List.filterMap_append, List.mem_append, List.mem_cons, List.mem_filterMap, id, List.not_mem_nil, or_false]
              constructor
              · rintro ((z | z) | z)
                · exact .inl (.inr ⟨some p, rfl, by rw [z]⟩)
                · exact .inr ⟨some q, rfl, by rw [z]⟩
                · exact .inl (.inl z)
              · rintro ((z | ⟨_, z, z2⟩) | ⟨_, z, z2⟩)
                · exact .inr z
                · subst z
                  exact .inl (.inl (Option.some.inj z2).symm)
                · subst z
                  exact .inl (.inr (Option.some.inj z2).symm)
            · simp only [List.length_append, List.length_cons, List.length_nil]; omega
            · intro b' u' e'
              rw [upd_ne (ne_of_none e' hL0)]; exact sm3 b' u' e'
            · simp only [List.length_append, List.length_cons, List.length_nil]; omega
          · have f' : u.ht = 0 := by
              by_cases z : 0 < u.ht
              · exact absurd (decide_eq_true (by omega)) f
              · omega
            refine ⟨xs', lo', u.id :: S, _, _, rfl, hl3, hd3, hw3, hse.put e2 _, ?_, by simp only [List.length_cons]; omega, sm3, by simp only [List.length_append, List.length_cons, List.length_nil]; omega⟩
            cases u with
            | fork i p q => simp [Ph.T.ht] at f'
            | leaf i w => exact df3
    · have c' : xs.length = 0 := by
        by_cases z : 0 < xs.length
        · exact absurd (decide_eq_true (by omega)) c
        · omega
      have e0 : lo = [] := List.length_eq_zero_iff.mp (by omega)
      subst e0
      refine ⟨_, rfl, d, kvs, rfl, hdk, ?_⟩
      rw [hse.len]
      exact k H1 S.length (dfs.done cn.cl) sm
end
end Pw
set_option Elab.async false
set_option linter.all false
set_option maxRecDepth 100000
namespace Pw
open PySem PySem.Spec PyProof.Rows L2
section
variable {P : Program} {w : World} {K : PySem.W.Frag} {mg : Str → Option Value} {base : Heap}
theorem sc_size_of : FnScope ["tree"] ["tree"] (defScope s_size_of) := ⟨rfl, rfl, rfl, by decide +kernel, rfl, by decide +kernel, by decide +kernel⟩
def spSizeOf (c : Cs) : Sp := fun vs H Q _ => ∃ (v : V) (o : Option Ph.T), vs = [v] ∧ RepO c H o v ∧ Q (.int ((Ph.sizeO o : Nat) : Int)) H
theorem ok_size_of (Y : TX K mg) : FnOk P w K mg base CX0 1 Y.f_size_of Y.d_size_of ["tree"] (spSizeOf Y.toCs) := by
  refine Y.g_size_of.fn.ok sc_size_of (fun vs H Q E h => ?_) (fun cdv A outer s H vs Q E hr h => ?_)
  · obtain ⟨v, o, rfl, _⟩ := h
    rfl
  · obtain ⟨v, o, rfl, ho, k⟩ := h
    refine ⟨_, (pss_one (ps_ret (pe_ifExp (pt_cmpR op_isN (pv 0) pe_non (nomark _)) pe_int (pe_fld (pv 0) rfl)))), ?_⟩
    refine ⟨_, rfl, rfl, _, rfl, ?_⟩
    cases o with
    | none =>
      have e : v = .non := ho
      subst e
      rw [if_pos (by simp)]
      exact k
    | some t =>
      obtain ⟨a, rfl, ha⟩ := ho
      rw [if_neg (by simp)]
      refine ⟨_, rfl, ?_⟩
      exact fSize Y ha k
theorem sc_feeds_of : FnScope ["tree"] ["tree"] (defScope s_feeds_of) := ⟨rfl, rfl, rfl, by decide +kernel, rfl, by decide +kernel, by decide +kernel⟩
def spFeedsOf (c : Cs) : Sp := fun vs H Q _ => ∃ (v : V) (o : Option Ph.T), vs = [v] ∧ RepO c H o v ∧ Q (.int (((Ph.bytesO o).count 10 : Nat) : Int)) H
theorem ok_feeds_of (Y : TX K mg) : FnOk P w K mg base CX0 1 Y.f_feeds_of Y.d_feeds_of ["tree"] (spFeedsOf Y.toCs) := by
  refine Y.g_feeds_of.fn.ok sc_feeds_of (fun vs H Q E h => ?_) (fun cdv A outer s H vs Q E hr h => ?_)
  · obtain ⟨v, o, rfl, _⟩ := h
    rfl
  · obtain ⟨v, o, rfl, ho, k⟩ := h
    refine ⟨_, (pss_one (ps_ret (pe_ifExp (pt_cmpR op_isN (pv 0) pe_non (nomark _)) pe_int (pe_fld (pv 0) rfl)))), ?_⟩
    refine ⟨_, rfl, rfl, _, rfl, ?_⟩
    cases o with
    | none =>
      have e : v = .non := ho
      subst e
      rw [if_pos (by simp)]
      exact k
    | some t =>
      obtain ⟨a, rfl, ha⟩ := ho
      rw [if_neg (by simp)]
      refine ⟨_, rfl, ?_⟩
      exact fFeeds Y ha k
theorem sc_place_behind_feed : FnScope ["tree", "count", "place", "node", "index"] ["tree", "count"] (defScope s_place_behind_feed) := ⟨rfl, rfl, rfl, by decide +kernel, rfl, by decide +kernel, by decide +kernel⟩
def spBehind (c : Cs) : Sp := fun vs H Q _ => ∃ (a : Addr) (t : Ph.T) (k : Nat), vs = [.ref a, .int ((k : Nat) : Int)] ∧ Rep c H t a ∧ 1 ≤ k ∧ k ≤ t.bytes.count 10 ∧ Q (.int ((Ue01.behindIn t.bytes k 0 : Nat) : Int)) H
theorem ok_place_behind_feed (Y : TX K mg) : FnOk P w K mg base CX0 1 Y.f_place_behind_feed Y.d_place_behind_feed ["tree", "count"] (spBehind Y.toCs) := by
  refine Y.g_place_behind_feed.fn.ok sc_place_behind_feed (fun vs H Q E h => ?_) (fun cdv A outer s H vs Q E hr h => ?_)
  · obtain ⟨a, t, k, rfl, _⟩ := h
    rfl
  · obtain ⟨a, t, k0, rfl, ha, hk1, hk2, k⟩ := h
    refine ⟨_, (pss_cons (ps_set (i := 2) sc_place_behind_feed.nd rfl (Or.inl rfl) pe_int)
      (pss_cons (ps_set (i := 3) sc_place_behind_feed.nd rfl (Or.inl rfl) (pv 0))
      (pss_cons (ps_while PassesOwn.never (pt_cmpR op_gt (pe_fld (pv 3) rfl) pe_int (nomark _)) (pss_one (ps_if (pt_cmpR op_le (pv 1) (pe_fld (pe_fld (pv 3) rfl) rfl) (nomark _)) (pss_one (ps_set (i := 3) sc_place_behind_feed.nd rfl (Or.inl rfl) (pe_fld (pv 3) rfl))) (pss_cons (ps_aug (i := 1) sc_place_behind_feed.nd rfl (Or.inl rfl) (pe_fld (pe_fld (pv 3) rfl) rfl) ip_sub)
          (pss_cons (ps_aug (i := 2) sc_place_behind_feed.nd rfl (Or.inl rfl) (pe_fld (pe_fld (pv 3) rfl) rfl) ip_add)
          (pss_one (ps_set (i := 3) sc_place_behind_feed.nd rfl (Or.inl rfl) (pe_fld (pv 3) rfl))))))))
      (pss_cons (ps_set (i := 4) sc_place_behind_feed.nd rfl (Or.inl rfl) pe_int)
      (pss_cons (ps_while PassesOwn.never (pt_cmpR op_gt (pv 1) pe_int (nomark _)) (pss_cons (ps_if (pt_cmpR op_eq (pe_ix ix_tup (pe_fld (pv 3) rfl) (pv 4) (fun _ _ => rfl)) (pe_gint rfl Y.c_LINE_FEED) (nomark _)) (pss_one (ps_aug (i := 1) sc_place_behind_feed.nd rfl (Or.inl rfl) pe_int ip_sub)) pss_nil)
        (pss_one (ps_aug (i := 4) sc_place_behind_feed.nd rfl (Or.inl rfl) pe_int ip_add))))
      (pss_one (ps_ret (pe_op op_add (pv 2) (pv 4))))))))), ?_⟩
    refine ⟨_, rfl, ?_⟩
    refine ⟨fun m σ H' => ∃ (b : Addr) (u : Ph.T) (cn pl : Nat), σ = [some (.ref a), some (.int ((cn : Nat) : Int)), some (.int ((pl : Nat) : Int)), some (.ref b), none] ∧ H' = H ∧ Rep Y.toCs H u b ∧ 1 ≤ cn ∧ cn ≤ u.bytes.count 10 ∧
        Ue01.behindIn t.bytes k0 0 = pl + Ue01.behindIn u.bytes cn 0 ∧ m = u.ht, ⟨_, a, t, k0, 0, rfl, rfl, ha, hk1, hk2, by simp, rfl⟩, ?_⟩
    rintro m σ H' ⟨b, u, cn, pl, rfl, rfl, hu, h1, h2, h3, rfl⟩
    refine ⟨_, rfl, ?_⟩
    refine fHt Y hu ?_
    refine ⟨_, _, rfl, rfl, _, rfl, ?_⟩
    refine ite2 (fun c => ?_) (fun c => ?_)
    · have c' : 0 < u.ht := by have := of_decide_eq_true c; omega
      obtain ⟨i, p, q, rfl⟩ := Ph.T.ht_fork_of c'
      refine ⟨fun σ' H2 => ∃ (b : Addr) (v : Ph.T) (cn pl : Nat), σ' = [some (.ref a), some (.int ((cn : Nat) : Int)), some (.int ((pl : Nat) : Int)), some (.ref b), none] ∧ H2 = H' ∧ Rep Y.toCs H' v b ∧ 1 ≤ cn ∧ cn ≤ v.bytes.count 10 ∧
        Ue01.behindIn t.bytes k0 0 = pl + Ue01.behindIn v.bytes cn 0 ∧ v.ht < (Ph.T.fork i p q).ht, ?_, ?_⟩
      · rintro σ' H2 ⟨b', v, cn', pl', rfl, rfl, q1, q2, q3, q4, q5⟩
        exact ⟨_, q5, b', v, cn', pl', rfl, rfl, q1, q2, q3, q4, rfl⟩
      obtain ⟨ap, aq, hp, hq, dx, fs, hf⟩ := hu.kids
      simp only [Ph.T.bytes] at h2 h3
      rw [List.count_append] at h2
      refine ⟨_, rfl, ?_⟩
      refine ⟨_, rfl, ?_⟩
      refine fFirst Y hf ?_
      refine fFeeds Y hp ?_
      refine ⟨_, _, rfl, rfl, _, rfl, ?_⟩
      refine ite2 (fun d => ?_) (fun d => ?_)
      · have d' : cn ≤ p.bytes.count 10 := by have := of_decide_eq_true d; omega
        refine ⟨_, rfl, ?_⟩
        refine fFirst Y hf ?_
        exact ⟨ap, p, cn, pl, rfl, rfl, hp, h1, d', by rw [h3, Ph.behindIn_left _ _ _ h1 d'], by simp only [Ph.T.ht]; omega⟩
      · have d' : p.bytes.count 10 < cn := by
          by_cases z : cn ≤ p.bytes.count 10
          · exact absurd (decide_eq_true (by omega)) d
          · omega
        refine ⟨_, rfl, ?_⟩
        refine ⟨_, rfl, ?_⟩
        refine fFirst Y hf ?_
        refine fFeeds Y hp ?_
        refine ⟨_, _, rfl, rfl, ?_⟩
        refine ⟨_, rfl, ?_⟩
        refine ⟨_, rfl, ?_⟩
        refine fFirst Y hf ?_
        refine fSize Y hp ?_
        refine ⟨_, _, rfl, rfl, ?_⟩
        refine ⟨_, rfl, ?_⟩
        refine fSecond Y hf ?_
        refine ⟨aq, q, cn - p.bytes.count 10, pl + p.size, ?_, rfl, hq, by omega, by omega, ?_, by simp only [Ph.T.ht]; omega⟩
        · have e1 : (cn : Int) - (p.bytes.count 10 : Int) = ((cn - p.bytes.count 10 : Nat) : Int) := by omega
          have e2 : (pl : Int) + (p.size : Int) = ((pl + p.size : Nat) : Int) := by omega
          rw [← e1, ← e2]
          rfl
        · rw [h3, Ph.behindIn_right _ _ _ d', Ph.T.size_bytes]; omega
    · have c' : u.ht = 0 := by
        by_cases z : 0 < u.ht
        · exact absurd (decide_eq_true (by omega)) c
        · omega
      cases u with
      | fork i p q => simp [Ph.T.ht] at c'
      | leaf i v =>
        obtain ⟨dx, pc, fs, lf⟩ := hu
        simp only [Ph.T.bytes] at h2 h3
        refine ⟨fun m σ H2 => ∃ (j c : Nat), σ = [some (.ref a), some (.int ((c : Nat) : Int)), some (.int ((pl : Nat) : Int)), some (.ref b), some (.int ((j : Nat) : Int))] ∧ H2 = H' ∧ j ≤ v.length ∧ c ≤ (v.drop j).count 10 ∧
          Ue01.behindIn v cn 0 = j + (if c = 0 then 0 else Ue01.behindIn (v.drop j) c 0) ∧ m = v.length - j, ⟨_, 0, cn, rfl, rfl, by omega, by simpa using h2, by rw [if_neg (by omega)]; simp, rfl⟩, ?_⟩
        rintro m σ H2 ⟨j, c, rfl, rfl, g1, g2, g3, rfl⟩
        refine ⟨_, rfl, _, _, rfl, rfl, _, rfl, ?_⟩
        refine ite2 (fun d => ?_) (fun d => ?_)
        · have d' : 0 < c := by have := of_decide_eq_true d; omega
          have jl : j < v.length := by
            by_cases z : j < v.length
            · exact z
            · rw [List.drop_of_length_le (by omega)] at g2
              simp at g2
              omega
          have ed : v.drop j = v[j] :: v.drop (j + 1) := List.drop_eq_getElem_cons jl
          rw [if_neg (by omega), ed] at g3
          rw [ed] at g2
          refine ⟨fun σ' H3 => ∃ (j' c : Nat), σ' = [some (.ref a), some (.int ((c : Nat) : Int)), some (.int ((pl : Nat) : Int)), some (.ref b), some (.int ((j' : Nat) : Int))] ∧ H3 = H2 ∧ j' ≤ v.length ∧ c ≤ (v.drop j').count 10 ∧
            Ue01.behindIn v cn 0 = j' + (if c = 0 then 0 else Ue01.behindIn (v.drop j') c 0) ∧ v.length - j' < v.length - j, ?_, ?_⟩
          · rintro σ' H3 ⟨j', c'', rfl, rfl, q1, q2, q3, q4⟩
            exact ⟨_, q4, j', c'', rfl, rfl, q1, q2, q3, rfl⟩
          refine seq_by (fun σ' H3 => ∃ c2 : Nat, σ' = [some (.ref a), some (.int ((c2 : Nat) : Int)), some (.int ((pl : Nat) : Int)), some (.ref b), some (.int ((j : Nat) : Int))] ∧ H3 = H2 ∧ c2 ≤ (v.drop (j + 1)).count 10 ∧
            Ue01.behindIn v cn 0 = (j + 1) + (if c2 = 0 then 0 else Ue01.behindIn (v.drop (j + 1)) c2 0)) (fun nx hnx => ?_) ?_
          · refine ⟨_, rfl, ?_⟩
            refine fContent Y lf ?_
            refine ⟨_, rfl, pc, _, _, _, rfl, rfl, SqT.of lf.tup, atI_nat (j := j) (v := vI v[j]) (by rw [List.getElem?_map, List.getElem?_eq_getElem jl]; rfl), ?_⟩
            refine ⟨rfl, _, rfl, ?_⟩
            refine ite2 (fun f => ?_) (fun f => ?_)
            · have f' : v[j] = 10 := by
                have := of_decide_eq_true f
                injection this with z
                omega
              rw [f', Ue01.behindIn, if_pos rfl] at g3
              rw [f', List.count_cons_self] at g2
              refine ⟨_, rfl, _, _, rfl, rfl, ?_⟩
              refine hnx _ _ ⟨c - 1, ?_, rfl, by omega, ?_⟩
              · have e1 : (c : Int) - 1 = ((c - 1 : Nat) : Int) := by omega
                rw [← e1]
                rfl
              · rw [g3]
                by_cases z : c ≤ 1
                · rw [if_pos z, if_pos (by omega)]
                · rw [if_neg z, if_neg (by omega), Ph.behindIn_shift]; omega
            · have f' : ¬ v[j] = 10 := fun z => f (decide_eq_true (by rw [z]; rfl))
              rw [Ue01.behindIn, if_neg f', Ph.behindIn_shift (v.drop (j + 1)) c (0 + 1)] at g3
              rw [List.count_cons_of_ne f'] at g2
              refine hnx _ _ ⟨c, rfl, rfl, g2, ?_⟩
              rw [g3, if_neg (by omega)]; omega
          · rintro σ' H3 ⟨c2, rfl, rfl, q1, q2⟩
            refine ⟨_, rfl, _, _, rfl, rfl, ?_⟩
            exact ⟨j + 1, c2, rfl, rfl, jl, q1, q2, by omega⟩
        · have d' : c = 0 := by
            by_cases z : 0 < c
            · exact absurd (decide_eq_true (by omega)) d
            · omega
          subst d'
          rw [if_pos rfl] at g3
          refine ⟨_, rfl, _, rfl, _, _, rfl, rfl, ?_⟩
          have e2 : (pl : Int) + (j : Int) = ((Ue01.behindIn t.bytes k0 0 : Nat) : Int) := by omega
          dsimp only
          rw [e2]
          exact k
theorem sc_line_begin : FnScope ["tree", "line"] ["tree", "line"] (defScope s_line_begin) := ⟨rfl, rfl, rfl, by decide +kernel, rfl, by decide +kernel, by decide +kernel⟩
def spLineBegin (c : Cs) : Sp := fun vs H Q _ => ∃ (v : V) (o : Option Ph.T) (k : Nat), vs = [v, .int ((k : Nat) : Int)] ∧ RepO c H o v ∧ k ≤ (Ph.bytesO o).count 10 ∧ Q (.int ((Ph.startB (Ph.bytesO o) k : Nat) : Int)) H
theorem ok_line_begin (Y : TX K mg) : FnOk P w K mg base CX0 2 Y.f_line_begin Y.d_line_begin ["tree", "line"] (spLineBegin Y.toCs) := by
  refine Y.g_line_begin.fn.ok sc_line_begin (fun vs H Q E h => ?_) (fun cdv A outer s H vs Q E hr h => ?_)
  · obtain ⟨v, o, k, rfl, _⟩ := h
    rfl
  · obtain ⟨v, o, n, rfl, ho, hn, k⟩ := h
    refine ⟨_, (pss_cons (ps_if (pt_cmpR op_eq (pv 1) pe_int (nomark _)) (pss_one (ps_ret pe_int)) pss_nil)
      (pss_one (ps_ret (pe_call (ok_place_behind_feed Y) (hr.mono (by decide)) rfl Y.g_place_behind_feed.at_ Y.g_place_behind_feed.fn.kp Y.g_place_behind_feed.bd .nil pass0 (pa_cons (pv 0) (pa_cons (pv 1) pa_nil)))))), ?_⟩
    refine ⟨_, rfl, rfl, _, rfl, ?_⟩
    refine ite2 (fun c => ?_) (fun c => ?_)
    · have c' : n = 0 := by
        have := of_decide_eq_true c
        injection this with z
        omega
      subst c'
      exact k
    · have c' : ¬ n = 0 := fun z => c (decide_eq_true (by rw [z]; rfl))
      unfold Ph.startB at k
      rw [if_neg c'] at k
      cases o with
      | none => simp [Ph.bytesO] at hn; exact absurd hn c'
      | some t =>
        obtain ⟨a, rfl, ha⟩ := ho
        refine ⟨_, rfl, _, rfl, ?_⟩
        exact ⟨a, t, n, rfl, ha, by omega, hn, k⟩
theorem sc_line_end : FnScope ["tree", "line"] ["tree", "line"] (defScope s_line_end) := ⟨rfl, rfl, rfl, by decide +kernel, rfl, by decide +kernel, by decide +kernel⟩
def spLineEnd (c : Cs) : Sp := fun vs H Q _ => ∃ (v : V) (o : Option Ph.T) (k : Nat), vs = [v, .int ((k : Nat) : Int)] ∧ RepO c H o v ∧ k ≤ (Ph.bytesO o).count 10 ∧
  Q (.int (if k < (Ph.bytesO o).count 10 then ((Ph.startB (Ph.bytesO o) (k + 1) : Nat) : Int) - 1 else ((Ph.sizeO o : Nat) : Int))) H
theorem ok_line_end (Y : TX K mg) : FnOk P w K mg base CX0 2 Y.f_line_end Y.d_line_end ["tree", "line"] (spLineEnd Y.toCs) := by
  refine Y.g_line_end.fn.ok sc_line_end (fun vs H Q E h => ?_) (fun cdv A outer s H vs Q E hr h => ?_)
  · obtain ⟨v, o, k, rfl, _⟩ := h
    rfl
  · obtain ⟨v, o, n, rfl, ho, hn, k⟩ := h
    refine ⟨_, (pss_cons (ps_if (pt_cmpR op_eq (pv 1) (pe_call (ok_feeds_of Y) (hr.mono (by decide)) rfl Y.g_feeds_of.at_ Y.g_feeds_of.fn.kp Y.g_feeds_of.bd .nil pass0 (pa_cons (pv 0) pa_nil)) (nomark _)) (pss_one (ps_ret (pe_call (ok_size_of Y) (hr.mono (by decide)) rfl Y.g_size_of.at_ Y.g_size_of.fn.kp Y.g_size_of.bd .nil pass0 (pa_cons (pv 0) pa_nil)))) pss_nil)
      (pss_one (ps_ret (pe_op op_sub (pe_call (ok_place_behind_feed Y) (hr.mono (by decide)) rfl Y.g_place_behind_feed.at_ Y.g_place_behind_feed.fn.kp Y.g_place_behind_feed.bd .nil pass0 (pa_cons (pv 0) (pa_cons (pe_op op_add (pv 1) pe_int) pa_nil))) pe_int)))), ?_⟩
    refine ⟨_, rfl, ?_⟩
    refine ⟨_, rfl, ?_⟩
    refine ⟨v, o, rfl, ho, ?_⟩
    refine ⟨rfl, _, rfl, ?_⟩
    refine ite2 (fun c => ?_) (fun c => ?_)
    · have c' : n = (Ph.bytesO o).count 10 := by
        have := of_decide_eq_true c
        injection this with z
        omega
      rw [if_neg (by omega)] at k
      refine ⟨_, rfl, ?_⟩
      exact ⟨v, o, rfl, ho, k⟩
    · have c' : ¬ n = (Ph.bytesO o).count 10 := fun z => c (decide_eq_true (by rw [z]))
      rw [if_pos (by omega)] at k
      cases o with
      | none => simp [Ph.bytesO] at hn c'; exact absurd hn c'
      | some t =>
        obtain ⟨a, rfl, ha⟩ := ho
        unfold Ph.startB at k
        rw [if_neg (by omega)] at k
        refine ⟨_, rfl, ?_⟩
        refine ⟨_, rfl, _, _, rfl, rfl, ?_⟩
        refine ⟨a, t, n + 1, rfl, ha, by omega, ?_, ?_⟩
        · show n + 1 ≤ (Ph.bytesO (some t)).count 10
          omega
        · exact ⟨_, _, rfl, rfl, k⟩
end
end Pw
set_option Elab.async false
set_option linter.all false
set_option maxRecDepth 100000
namespace Pw
open PySem PySem.Spec PyProof.Rows L2
def nds : Ph.T → Nat
  | .leaf _ _ => 1
  | .fork _ a b => nds a + nds b + 1
def flat (ls : List Ph.T) : List Nat := (ls.reverse.map Ph.T.bytes).flatten
theorem flat_snoc (ls : List Ph.T) (u : Ph.T) : flat (ls ++ [u]) = u.bytes ++ flat ls := by simp [flat]
theorem nds_snoc (ls : List Ph.T) (u : Ph.T) : ((ls ++ [u]).map nds).sum = (ls.map nds).sum + nds u := by simp
theorem nds_pos (t : Ph.T) : 0 < nds t := by cases t <;> simp [nds]
theorem cut_eq (w : List Nat) (lo hi : Nat) : cutV (w.map vI) (some (lo : Int)) (some (hi : Int)) = ((w.take hi).drop lo).map vI := by
  unfold cutV
  rw [HT.sIx_nat, HT.sIx_nat, List.length_map, ← List.map_drop, ← List.map_take, List.drop_take]
  congr 1
  by_cases c : lo ≤ w.length
  · rw [Nat.min_eq_left c]
    by_cases d : hi ≤ w.length
    · rw [Nat.min_eq_left d]
    · rw [Nat.min_eq_right (by omega), List.take_of_length_le (by rw [List.length_drop]; omega), List.take_of_length_le (by rw [List.length_drop]; omega)]
  · have e1 : w.drop (min lo w.length) = [] := List.drop_of_length_le (by omega)
    have e2 : w.drop lo = [] := List.drop_of_length_le (by omega)
    rw [e1, e2]; simp
/-- the bytes found, a leaf further -/
theorem found_more {B w rest : List Nat} {st a b : Nat} (h : B.drop st = w ++ rest) (hs : st ≤ B.length) (hb : st < b) : (B.take (min st b)).drop a ++ (w.take (b - st)).drop (a - st) = (B.take (min (st + w.length) b)).drop a := by
  have e : B = B.take st ++ (w ++ rest) := by rw [← h, List.take_append_drop]
  have l1 : (B.take st).length = st := by rw [List.length_take]; omega
  have e2 : B.take (min (st + w.length) b) = B.take st ++ w.take (b - st) := by
    conv => lhs; rw [e]
    rw [List.take_append, l1, List.take_of_length_le (by rw [l1]; omega)]
    congr 1
    by_cases c : st + w.length ≤ b
    · rw [Nat.min_eq_left c, show st + w.length - st = w.length by omega, List.take_left', List.take_of_length_le (by omega)]
      rfl
    · rw [Nat.min_eq_right (by omega), List.take_append_of_le_length (by omega)]
  rw [e2, List.drop_append, l1, Nat.min_eq_left (by omega)]
section
variable {P : Program} {w : World} {K : PySem.W.Frag} {mg : Str → Option Value} {base : Heap}
theorem sc_bytes_between : FnScope ["tree", "begin", "end", "found", "start", "waiting", "node"] ["tree", "begin", "end"] (defScope s_bytes_between) := ⟨rfl, rfl, rfl, by decide +kernel, rfl, by decide +kernel, by decide +kernel⟩
def spBytes (c : Cs) : Sp := fun vs H Q _ => ∃ (v : V) (o : Option Ph.T) (a b : Nat), vs = [v, .int ((a : Nat) : Int), .int ((b : Nat) : Int)] ∧ RepO c H o v ∧ Ph.Ok o ∧ Ph.sizeO o ≤ 2 ^ 40 ∧ a ≤ b ∧ b ≤ Ph.sizeO o ∧ b - a ≤ 1000 ∧
  ∀ (H' : Hp) (l : Addr), H' l = some (.lst ((((Ph.bytesO o).take b).drop a).map vI)) → H l = none → Same H H' → Q (.ref l) H'
theorem ok_bytes_between (Y : TX K mg) : FnOk P w K mg base CX0 1 Y.f_bytes_between Y.d_bytes_between ["tree", "begin", "end"] (spBytes Y.toCs) := by
  refine Y.g_bytes_between.fn.ok sc_bytes_between (fun vs H Q E h => ?_) (fun cdv A outer s H vs Q E hr h => ?_)
  · obtain ⟨v, o, a, b, rfl, _⟩ := h
    rfl
  · obtain ⟨v, o, a, b, rfl, ho, ok, sz, hab, hb, h200, k⟩ := h
    refine ⟨_, (pss_cons (ps_set (i := 3) sc_bytes_between.nd rfl (Or.inl rfl) (pe_lst pa_nil))
      (pss_cons (ps_set (i := 4) sc_bytes_between.nd rfl (Or.inl rfl) pe_int)
      (pss_cons (ps_set (i := 5) sc_bytes_between.nd rfl (Or.inl rfl) (pe_lst (pa_cons (pv 0) pa_nil)))
      (pss_cons (ps_while PassesOwn.never (pt_cmpR op_lt (pv 4) (pv 2) (nomark _)) (pss_cons (ps_set (i := 6) sc_bytes_between.nd rfl (Or.inl rfl) (pe_bm0 PySem.F.plainAttrs_list PySem.F.slot_list_pop PySem.F.type_list_pop mt_pop (pv 5)))
        (pss_one (ps_if (pt_cmpR op_le (pe_op op_add (pv 4) (pe_fld (pv 6) rfl)) (pv 1) (nomark _)) (pss_one (ps_aug (i := 4) sc_bytes_between.nd rfl (Or.inl rfl) (pe_fld (pv 6) rfl) ip_add)) (pss_one (ps_if (pt_cmpR op_gt (pe_fld (pv 6) rfl) pe_int (nomark _)) (pss_cons (ps_expr (pe_bm PySem.F.plainAttrs_list PySem.F.slot_list_append PySem.F.type_list_append mt_append (pv 5) (pa_cons (pe_fld (pv 6) rfl) pa_nil)))
            (pss_one (ps_expr (pe_bm PySem.F.plainAttrs_list PySem.F.slot_list_append PySem.F.type_list_append mt_append (pv 5) (pa_cons (pe_fld (pv 6) rfl) pa_nil))))) (pss_cons (ps_expr (pe_bm PySem.F.plainAttrs_list PySem.F.slot_list_extend PySem.F.type_list_extend Lx.mt_extendT (pv 3) (pa_cons (pe_slice Lx.sl_tupW (pe_fld (pv 6) rfl) (po_some (pe_callB (call_max2 rfl) (by rfl) Y.b_max boot_max (pa_cons (pe_op op_sub (pv 1) (pv 4)) (pa_cons pe_int pa_nil)))) (po_some (pe_op op_sub (pv 2) (pv 4)))) pa_nil)))
            (pss_one (ps_aug (i := 4) sc_bytes_between.nd rfl (Or.inl rfl) (pe_fld (pv 6) rfl) ip_add)))))))))
      (pss_one (ps_ret (pv 3))))))), ?_⟩
    refine ⟨Nat.zero_le _, fun F hF => ?_⟩
    have nbF := NB.none hF
    refine ⟨_, rfl, (by show 1 ≤ sizeLine; decide), fun L hL => ?_⟩
    have nbL := NB.none hL
    have hL0 : H L = none := by
      by_cases z : L = F
      · subst z; rw [upd_same] at hL; cases hL
      · rw [upd_ne z] at hL; exact hL
    have nFL : F ≠ L := fun z => by subst z; rw [upd_same] at hL; cases hL
    have sm0 : Same H (upd (upd H F (.lst [])) L (.lst [v])) := fun b' u e => by
      rw [upd_ne (ne_of_none e hL0), upd_ne (ne_of_none e hF)]; exact e
    cases o with
    | none =>
      simp only [Ph.sizeO] at hb
      have b0 : b = 0 := by omega
      subst b0
      refine ⟨fun m σ H' => σ = [some v, some (.int ((a : Nat) : Int)), some (.int ((0 : Nat) : Int)), some (.ref F), some (.int 0), some (.ref L), none] ∧ H' = upd (upd H F (.lst [])) L (.lst [v]), ⟨0, rfl, rfl⟩, ?_⟩
      rintro m σ H' ⟨rfl, rfl⟩
      refine ⟨_, rfl, _, rfl, _, _, rfl, rfl, _, rfl, ?_⟩
      refine ite2 (fun z => absurd (of_decide_eq_true z) (by omega)) (fun _ => ?_)
      refine ⟨_, rfl, ?_⟩
      exact k _ F (by rw [upd_ne nFL, upd_same]; simp [Ph.bytesO]) hF sm0
    | some t =>
      obtain ⟨at_, rfl, ht⟩ := ho
      have th := Ph.ht_small ok.1 ok.2 sz
      have tb := Ph.T.size_bytes t
      simp only [Ph.sizeO] at hb sz
      simp only [Ph.bytesO] at k
      refine ⟨fun m σ H' => ∃ (xs : List V) (ls : List Ph.T) (st : Nat) (o6 : Option V), σ = [some (.ref at_), some (.int ((a : Nat) : Int)), some (.int ((b : Nat) : Int)), some (.ref F), some (.int ((st : Nat) : Int)), some (.ref L), o6] ∧
          H' F = some (.lst (((t.bytes.take (min st b)).drop a).map vI)) ∧ H' L = some (.lst xs) ∧ FrL Y.toCs H' xs ls ∧ t.bytes.drop st = flat ls ∧ st ≤ t.bytes.length ∧ (∀ (j : Nat) (u : Ph.T), ls[j]? = some u → j + u.ht ≤ 57) ∧ Same H H' ∧ m = (ls.map nds).sum,
        ⟨_, [.ref at_], [t], 0, none, rfl, by rw [upd_ne nFL, upd_same]; simp, upd_same, .cons ⟨at_, rfl, (ht.at nbF _).at nbL _⟩ .nil, by simp [flat], by omega, ?_, sm0, rfl⟩, ?_⟩
      · intro j u e
        cases j with
        | zero => simp at e; subst e; omega
        | succ j => simp at e
      rintro m σ H1 ⟨xs, ls, st, o6, rfl, hf1, hl1, hw, hfl, hst, hht, sm, rfl⟩
      refine ⟨_, rfl, _, rfl, _, _, rfl, rfl, _, rfl, ?_⟩
      refine ite2 (fun c => ?_) (fun c => ?_)
      · have c' : st < b := by have := of_decide_eq_true c; omega
        have xl := paired_len hw
        have hne : 0 < xs.length := by
          by_cases z : 0 < xs.length
          · exact z
          · have e0 : ls = [] := List.length_eq_zero_iff.mp (by omega)
            rw [e0] at hfl
            have := congrArg List.length hfl
            rw [List.length_drop] at this
            simp [flat] at this
            omega
        obtain ⟨x, u, xs', ls', rfl, rfl, hw', x1, rfl, hu⟩ := paired_last hw hne
        rw [flat_snoc] at hfl
        have hhu := hht ls'.length u (by simp)
        have hht' : ∀ (j : Nat) (v : Ph.T), ls'[j]? = some v → j + v.ht ≤ 57 := fun j v e => hht j v (by rw [List.getElem?_append_left (List.getElem?_eq_some_iff.mp e).1]; exact e)
        refine ⟨fun σ' H' => ∃ (xs : List V) (ls : List Ph.T) (st : Nat) (o6 : Option V), σ' = [some (.ref at_), some (.int ((a : Nat) : Int)), some (.int ((b : Nat) : Int)), some (.ref F), some (.int ((st : Nat) : Int)), some (.ref L), o6] ∧
          H' F = some (.lst (((t.bytes.take (min st b)).drop a).map vI)) ∧ H' L = some (.lst xs) ∧ FrL Y.toCs H' xs ls ∧ t.bytes.drop st = flat ls ∧ st ≤ t.bytes.length ∧ (∀ (j : Nat) (u : Ph.T), ls[j]? = some u → j + u.ht ≤ 57) ∧ Same H H' ∧ (ls.map nds).sum < ((ls' ++ [u]).map nds).sum, ?_, ?_⟩
        · rintro σ' H' ⟨xs2, ls2, st2, o62, rfl, q1, q2, q3, q4, q5, q6, q7, q8⟩
          exact ⟨_, q8, xs2, ls2, st2, o62, rfl, q1, q2, q3, q4, q5, q6, q7, rfl⟩
        rw [nds_snoc]
        refine ⟨_, rfl, .inl ⟨rfl, _, SqL.of hl1⟩, L, _, .ref x1, rfl, rfl, hl1, by simp, ?_⟩
        rw [List.dropLast_concat]
        have nbl := NB.lst hl1
        have hl2 : (upd H1 L (.lst xs')) L = some (.lst xs') := upd_same
        have hf2 : (upd H1 L (.lst xs')) F = some (.lst (((t.bytes.take (min st b)).drop a).map vI)) := by rw [upd_ne nFL]; exact hf1
        have hw2 : FrL Y.toCs (upd H1 L (.lst xs')) xs' ls' := FrL.at nbl (.lst xs') hw'
        have hu2 := hu.at nbl (.lst xs')
        have sm2 : Same H (upd H1 L (.lst xs')) := fun b' u' e => by
          rw [upd_ne (ne_of_none e hL0)]; exact sm b' u' e
        generalize hH2 : upd H1 L (.lst xs') = H2 at *
        have us := Ph.T.size_bytes u
        have dl : u.bytes.length + (flat ls').length = t.bytes.length - st := by
          have := congrArg List.length hfl
          rw [List.length_drop, List.length_append] at this
          omega
        have dr : t.bytes.drop (st + u.size) = flat ls' := by
          rw [← List.drop_drop, hfl, ← us, List.drop_left']
          rfl
        refine ⟨_, rfl, ?_⟩
        refine ⟨_, rfl, ?_⟩
        refine fSize Y hu2 ?_
        refine ⟨_, _, rfl, rfl, _, rfl, _, _, rfl, rfl, _, rfl, ?_⟩
        refine ite2 (fun d => ?_) (fun d => ?_)
        · have d' : st + u.size ≤ a := by have := of_decide_eq_true d; omega
          refine ⟨_, rfl, ?_⟩
          refine ⟨_, rfl, ?_⟩
          refine fSize Y hu2 ?_
          refine ⟨_, _, rfl, rfl, ?_⟩
          have e1 : (t.bytes.take (min st b)).drop a = [] := List.drop_of_length_le (by rw [List.length_take]; omega)
          have e2 : (t.bytes.take (min (st + u.size) b)).drop a = [] := List.drop_of_length_le (by rw [List.length_take]; omega)
          rw [e1] at hf2
          exact ⟨xs', ls', st + u.size, _, rfl, by rw [e2]; exact hf2, hl2, hw2, dr, by omega, hht', sm2, by have := nds_pos u; omega⟩
        · refine ⟨_, rfl, ?_⟩
          refine fHt Y hu2 ?_
          refine ⟨_, _, rfl, rfl, _, rfl, ?_⟩
          refine ite2 (fun e => ?_) (fun e => ?_)
          · have e' : 0 < u.ht := by have := of_decide_eq_true e; omega
            obtain ⟨i, p, q, rfl⟩ := Ph.T.ht_fork_of e'
            obtain ⟨ap, aq, hp, hq, dx, fs, hfk⟩ := hu2.kids
            have xl2 : xs'.length = ls'.length := by simpa using xl
            refine ⟨_, rfl, .inl ⟨rfl, _, SqL.of hl2⟩, ?_⟩
            refine ⟨_, rfl, ?_⟩
            refine fSecond Y hfk ?_
            refine ⟨L, _, _, rfl, rfl, hl2, small1000 (by omega), ?_⟩
            have nbl2 := NB.lst hl2
            obtain ⟨ap2, aq2, hp2, hq2, dx2, fs2, hfk2⟩ := (hu2.at nbl2 (.lst (xs' ++ [.ref aq]))).kids
            have hl3 : (upd H2 L (.lst (xs' ++ [.ref aq]))) L = some (.lst (xs' ++ [.ref aq])) := upd_same
            refine ⟨_, rfl, .inl ⟨rfl, _, SqL.of hl3⟩, ?_⟩
            refine ⟨_, rfl, ?_⟩
            refine fFirst Y hfk2 ?_
            refine ⟨L, _, _, rfl, rfl, hl3, small1000 (by simp only [List.length_append, List.length_cons, List.length_nil]; omega), ?_⟩
            have nbl3 := NB.lst hl3
            simp only [Ph.T.ht] at hhu
            refine ⟨xs' ++ [.ref aq] ++ [.ref ap2], ls' ++ [q] ++ [p], st, _, rfl, ?_, upd_same, ?_, ?_, hst, ?_, ?_, ?_⟩
            · rw [upd_ne nFL, upd_ne nFL]; exact hf2
            · exact FrL.at nbl3 _ (paired_snoc (paired_snoc (hw2.at nbl2 _) ⟨aq, rfl, hq.at nbl2 _⟩) ⟨ap2, rfl, hp2⟩)
            · rw [flat_snoc, flat_snoc, hfl, Ph.T.bytes, List.append_assoc]
            · intro j v ej
              by_cases z : j < ls'.length
              · rw [List.append_assoc, List.getElem?_append_left z] at ej
                exact hht' j v ej
              · rw [List.append_assoc, List.getElem?_append_right (by omega)] at ej
                have z2 : j - ls'.length = 0 ∨ j - ls'.length = 1 := by
                  have := (List.getElem?_eq_some_iff.mp ej).1
                  simp at this
                  omega
                rcases z2 with z2 | z2
                · rw [z2] at ej
                  simp at ej
                  subst ej
                  omega
                · rw [z2] at ej
                  simp at ej
                  subst ej
                  omega
            · intro b' u' e9
              rw [upd_ne (ne_of_none e9 hL0), upd_ne (ne_of_none e9 hL0)]; exact sm2 b' u' e9
            · rw [nds_snoc, nds_snoc]; simp only [nds]; omega
          · have e' : u.ht = 0 := by
              by_cases z : 0 < u.ht
              · exact absurd (decide_eq_true (by omega)) e
              · omega
            cases u with
            | fork i p q => simp [Ph.T.ht] at e'
            | leaf i v =>
              obtain ⟨dx, pc, fs, lf⟩ := hu2
              simp only [Ph.T.bytes, Ph.T.size] at us dl dr hfl d
              have fm := found_more (a := a) (b := b) (w := v) (rest := flat ls') hfl hst c'
              have e1 : (if (0 : Int) > (a : Int) - (st : Int) then (0 : Int) else (a : Int) - (st : Int)) = ((a - st : Nat) : Int) := by
                split <;> omega
              have e2 : (b : Int) - (st : Int) = ((b - st : Nat) : Int) := by omega
              have sm3 : ∀ {Hc : Hp} (o : HO), Same H Hc → Same H (upd Hc F o) := fun o sc b' u' e9 => by
                rw [upd_ne (ne_of_none e9 hF)]; exact sc b' u' e9
              have l200 : (((t.bytes.take (min st b)).drop a).map vI).length + (((v.take (b - st)).drop (a - st)).map vI).length ≤ sizeLine := by
                rw [← List.length_append, ← List.map_append, fm, List.length_map, List.length_drop, List.length_take]
                exact Nat.le_of_lt (small1000 (by omega))
              have nLF : L ≠ F := fun z => nFL z.symm
              refine ⟨_, rfl, .inl ⟨rfl, _, SqL.of hf2⟩, ?_⟩
              refine ⟨_, rfl, ?_⟩
              refine fContent Y lf ?_
              refine ⟨_, rfl, _, rfl, _, _, rfl, rfl, ?_⟩
              refine ⟨_, _, rfl, ?_⟩
              dsimp only
              rw [e1]
              refine ⟨_, rfl, ?_⟩
              refine ⟨_, rfl, _, rfl, _, _, rfl, rfl, _, rfl, ?_⟩
              dsimp only
              rw [e2]
              have ws : (v.map vI).length = v.length := List.length_map vI
              refine ⟨pc, _, rfl, SqT.of lf.tup, fun wh => ?_, fun nw q hq => ?_⟩
              · rw [ws, HT.sIx_nat, HT.sIx_nat] at wh
                have ev : (v.take (b - st)).drop (a - st) = v := by
                  by_cases z : v.length = 0
                  · have : v = [] := List.length_eq_zero_iff.mp z
                    subst this; simp
                  · rw [show a - st = 0 by omega, List.drop_zero, List.take_of_length_le (by omega)]
                rw [ev] at fm l200
                refine ⟨F, pc, _, _, rfl, rfl, hf2, lf.tup, l200, ?_⟩
                rw [← List.map_append, fm]
                have nbf := NB.lst hf2
                have hu3 : Rep Y.toCs (upd H2 F (.lst (((t.bytes.take (min (st + v.length) b)).drop a).map vI))) (.leaf i v) x1 := Rep.at nbf _ ⟨dx, pc, fs, lf⟩
                refine ⟨_, rfl, ?_⟩
                refine ⟨_, rfl, ?_⟩
                refine fSize Y hu3 ?_
                refine ⟨_, _, rfl, rfl, ?_⟩
                exact ⟨xs', ls', st + v.length, _, rfl, upd_same, by rw [upd_ne nLF]; exact hl2, hw2.at nbf _, dr, by omega, hht', sm3 _ sm2, by simp [nds]⟩
              · rw [cut_eq]
                have nbq := NB.none hq
                have nFq : F ≠ q := ne_of_none hf2 hq
                have nLq : L ≠ q := ne_of_none hl2 hq
                have hf3 : (upd H2 q (.tup (((v.take (b - st)).drop (a - st)).map vI))) F = some (.lst (((t.bytes.take (min st b)).drop a).map vI)) := by rw [upd_ne nFq]; exact hf2
                refine ⟨F, q, _, _, rfl, rfl, hf3, upd_same, l200, ?_⟩
                rw [← List.map_append, fm]
                have nbf := NB.lst hf3
                have hu3 : Rep Y.toCs (upd (upd H2 q (.tup (((v.take (b - st)).drop (a - st)).map vI))) F (.lst (((t.bytes.take (min (st + v.length) b)).drop a).map vI))) (.leaf i v) x1 := Rep.at nbf _ (Rep.at nbq _ ⟨dx, pc, fs, lf⟩)
                refine ⟨_, rfl, ?_⟩
                refine ⟨_, rfl, ?_⟩
                refine fSize Y hu3 ?_
                refine ⟨_, _, rfl, rfl, ?_⟩
                refine ⟨xs', ls', st + v.length, _, rfl, upd_same, by rw [upd_ne nLF, upd_ne nLq]; exact hl2, (hw2.at nbq _).at nbf _, dr, by omega, hht', sm3 _ ?_, by simp [nds]⟩
                intro b' u' e9
                rw [upd_ne (ne_of_none (sm2 _ _ e9) hq)]; exact sm2 _ _ e9
      · have c' : b ≤ st := by
          by_cases z : b ≤ st
          · exact z
          · exact absurd (decide_eq_true (by omega)) c
        rw [Nat.min_eq_right c'] at hf1
        refine ⟨_, rfl, ?_⟩
        exact k H1 F hf1 hF sm
end
end Pw
set_option Elab.async false
set_option linter.all false
set_option maxRecDepth 100000
namespace Pw
open PySem PySem.Spec PyProof.Rows L2
theorem and2s {t u : TT} {σ : L2.St} {H : Hp} {Q : Bool → Hp → Prop} (h1 : ∀ Q : Bool → Hp → Prop, Q false H → t σ H Q) (q : Q false H) : tAnd t u σ H Q := by
  refine h1 _ ?_
  exact iteF q
section
variable {P : Program} {w : World} {K : PySem.W.Frag} {mg : Str → Option Value} {base : Heap}
theorem sc_height_of : FnScope ["tree"] ["tree"] (defScope s_height_of) := ⟨rfl, rfl, rfl, by decide +kernel, rfl, by decide +kernel, by decide +kernel⟩
def spHeightOf (c : Cs) : Sp := fun vs H Q _ => ∃ (v : V) (o : Option Ph.T), vs = [v] ∧ RepO c H o v ∧ Q (.int ((Ph.htO o : Nat) : Int)) H
theorem ok_height_of (Y : TX K mg) : FnOk P w K mg base CX0 1 Y.f_height_of Y.d_height_of ["tree"] (spHeightOf Y.toCs) := by
  refine Y.g_height_of.fn.ok sc_height_of (fun vs H Q E h => ?_) (fun cdv A outer s H vs Q E hr h => ?_)
  · obtain ⟨v, o, rfl, _⟩ := h
    rfl
  · obtain ⟨v, o, rfl, ho, k⟩ := h
    refine ⟨_, (pss_one (ps_ret (pe_ifExp (pt_cmpR op_isN (pv 0) pe_non (nomark _)) pe_int (pe_fld (pv 0) rfl)))), ?_⟩
    refine ⟨_, rfl, rfl, _, rfl, ?_⟩
    cases o with
    | none =>
      have e : v = .non := ho
      subst e
      rw [if_pos (by simp)]
      exact k
    | some t =>
      obtain ⟨a, rfl, ha⟩ := ho
      rw [if_neg (by simp)]
      refine ⟨_, rfl, ?_⟩
      exact fHt Y ha k
theorem sc_leaves_of : FnScope ["tree"] ["tree"] (defScope s_leaves_of) := ⟨rfl, rfl, rfl, by decide +kernel, rfl, by decide +kernel, by decide +kernel⟩
def spLeavesOf (c : Cs) : Sp := fun vs H Q _ => ∃ (v : V) (o : Option Ph.T), vs = [v] ∧ RepO c H o v ∧ Q (.int ((Ph.leavesO o : Nat) : Int)) H
theorem ok_leaves_of (Y : TX K mg) : FnOk P w K mg base CX0 1 Y.f_leaves_of Y.d_leaves_of ["tree"] (spLeavesOf Y.toCs) := by
  refine Y.g_leaves_of.fn.ok sc_leaves_of (fun vs H Q E h => ?_) (fun cdv A outer s H vs Q E hr h => ?_)
  · obtain ⟨v, o, rfl, _⟩ := h
    rfl
  · obtain ⟨v, o, rfl, ho, k⟩ := h
    refine ⟨_, (pss_one (ps_ret (pe_ifExp (pt_cmpR op_isN (pv 0) pe_non (nomark _)) pe_int (pe_fld (pv 0) rfl)))), ?_⟩
    refine ⟨_, rfl, rfl, _, rfl, ?_⟩
    cases o with
    | none =>
      have e : v = .non := ho
      subst e
      rw [if_pos (by simp)]
      exact k
    | some t =>
      obtain ⟨a, rfl, ha⟩ := ho
      rw [if_neg (by simp)]
      refine ⟨_, rfl, ?_⟩
      exact fLeaves Y ha k
theorem sc_longest_of : FnScope ["tree"] ["tree"] (defScope s_longest_of) := ⟨rfl, rfl, rfl, by decide +kernel, rfl, by decide +kernel, by decide +kernel⟩
def spLongestOf (c : Cs) : Sp := fun vs H Q _ => ∃ (v : V) (o : Option Ph.T), vs = [v] ∧ RepO c H o v ∧ ∀ (H' : Hp) (q : Addr), Same H H' → H' q = some (.tup (lgV (Ph.sumO o))) → Q (.ref q) H'
theorem ok_longest_of (Y : TX K mg) : FnOk P w K mg base CX0 1 Y.f_longest_of Y.d_longest_of ["tree"] (spLongestOf Y.toCs) := by
  refine Y.g_longest_of.fn.ok sc_longest_of (fun vs H Q E h => ?_) (fun cdv A outer s H vs Q E hr h => ?_)
  · obtain ⟨v, o, rfl, _⟩ := h
    rfl
  · obtain ⟨v, o, rfl, ho, k⟩ := h
    refine ⟨_, (pss_one (ps_ret (pe_ifExp (pt_cmpR op_isN (pv 0) pe_non (nomark _)) (pe_tup (pa_cons pe_int (pa_cons pe_int pa_nil))) (pe_fld (pv 0) rfl)))), ?_⟩
    refine ⟨_, rfl, rfl, _, rfl, ?_⟩
    cases o with
    | none =>
      have e : v = .non := ho
      subst e
      rw [if_pos (by simp)]
      refine ⟨(by show 2 ≤ sizeLine; decide), fun q hq => ?_⟩
      exact k _ q (fun b o e => by rw [upd_ne (ne_of_none e hq)]; exact e) (by rw [upd_same]; rfl)
    | some t =>
      obtain ⟨a, rfl, ha⟩ := ho
      rw [if_neg (by simp)]
      refine ⟨_, rfl, ?_⟩
      exact fLongest Y ha fun q hq => k H q (fun b o e => e) hq
theorem sc_feeds_ahead : FnScope ["tree", "place", "passed", "node"] ["tree", "place"] (defScope s_feeds_ahead) := ⟨rfl, rfl, rfl, by decide +kernel, rfl, by decide +kernel, by decide +kernel⟩
def spAhead (c : Cs) : Sp := fun vs H Q _ => ∃ (v : V) (o : Option Ph.T) (p : Nat), vs = [v, .int ((p : Nat) : Int)] ∧ RepO c H o v ∧ ∀ H' : Hp, Same H H' → Q (.int ((((Ph.bytesO o).take p).count 10 : Nat) : Int)) H'
theorem ok_feeds_ahead (Y : TX K mg) : FnOk P w K mg base CX0 1 Y.f_feeds_ahead Y.d_feeds_ahead ["tree", "place"] (spAhead Y.toCs) := by
  refine Y.g_feeds_ahead.fn.ok sc_feeds_ahead (fun vs H Q E h => ?_) (fun cdv A outer s H vs Q E hr h => ?_)
  · obtain ⟨v, o, p, rfl, _⟩ := h
    rfl
  · obtain ⟨v, o, p0, rfl, ho, k⟩ := h
    refine ⟨_, (pss_cons (ps_if (pt_cmpR op_isN (pv 0) pe_non (nomark _)) (pss_one (ps_ret pe_int)) pss_nil)
      (pss_cons (ps_set (i := 2) sc_feeds_ahead.nd rfl (Or.inl rfl) pe_int)
      (pss_cons (ps_set (i := 3) sc_feeds_ahead.nd rfl (Or.inl rfl) (pv 0))
      (pss_cons (ps_while PassesOwn.never (pt_cmpR op_gt (pe_fld (pv 3) rfl) pe_int (nomark _)) (pss_one (ps_if (pt_cmpR op_le (pv 1) (pe_fld (pe_fld (pv 3) rfl) rfl) (nomark _)) (pss_one (ps_set (i := 3) sc_feeds_ahead.nd rfl (Or.inl rfl) (pe_fld (pv 3) rfl))) (pss_cons (ps_aug (i := 1) sc_feeds_ahead.nd rfl (Or.inl rfl) (pe_fld (pe_fld (pv 3) rfl) rfl) ip_sub)
          (pss_cons (ps_aug (i := 2) sc_feeds_ahead.nd rfl (Or.inl rfl) (pe_fld (pe_fld (pv 3) rfl) rfl) ip_add)
          (pss_one (ps_set (i := 3) sc_feeds_ahead.nd rfl (Or.inl rfl) (pe_fld (pv 3) rfl))))))))
      (pss_one (ps_ret (pe_op op_add (pv 2) (pe_bm PySem.F.plainAttrs_tuple PySem.F.slot_tuple_count PySem.F.type_tuple_count Lx.mt_countT (pe_slice Lx.sl_tupW (pe_fld (pv 3) rfl) po_none (po_some (pv 1))) (pa_cons (pe_gint rfl Y.c_LINE_FEED) pa_nil))))))))), ?_⟩
    refine ⟨_, rfl, rfl, _, rfl, ?_⟩
    cases o with
    | none =>
      have e : v = .non := ho
      subst e
      rw [if_pos (by simp)]
      have q0 := k H fun b o e => e
      have e0 : (((Ph.bytesO none).take p0).count 10 : Nat) = 0 := by simp [Ph.bytesO]
      rw [e0] at q0
      exact q0
    | some t =>
      obtain ⟨a, rfl, ha⟩ := ho
      rw [if_neg (by simp)]
      refine ⟨_, rfl, ?_⟩
      refine ⟨fun m σ H' => ∃ (b : Addr) (u : Ph.T) (p ps : Nat), σ = [some (.ref a), some (.int ((p : Nat) : Int)), some (.int ((ps : Nat) : Int)), some (.ref b)] ∧ H' = H ∧ Rep Y.toCs H u b ∧ (t.bytes.take p0).count 10 = ps + (u.bytes.take p).count 10 ∧ m = u.ht,
        ⟨_, a, t, p0, 0, rfl, rfl, ha, by simp, rfl⟩, ?_⟩
      rintro m σ H' ⟨b, u, p, ps, rfl, rfl, hu, h3, rfl⟩
      refine ⟨_, rfl, ?_⟩
      refine fHt Y hu ?_
      refine ⟨_, _, rfl, rfl, _, rfl, ?_⟩
      refine ite2 (fun c => ?_) (fun c => ?_)
      · have c' : 0 < u.ht := by have := of_decide_eq_true c; omega
        obtain ⟨i, x, y, rfl⟩ := Ph.T.ht_fork_of c'
        refine ⟨fun σ' H2 => ∃ (b : Addr) (v : Ph.T) (p ps : Nat), σ' = [some (.ref a), some (.int ((p : Nat) : Int)), some (.int ((ps : Nat) : Int)), some (.ref b)] ∧ H2 = H' ∧ Rep Y.toCs H' v b ∧ (t.bytes.take p0).count 10 = ps + (v.bytes.take p).count 10 ∧ v.ht < (Ph.T.fork i x y).ht, ?_, ?_⟩
        · rintro σ' H2 ⟨b', v, p', ps', rfl, rfl, q1, q2, q3⟩
          exact ⟨_, q3, b', v, p', ps', rfl, rfl, q1, q2, rfl⟩
        obtain ⟨ax, ay, hx, hy, dx, fs, hf⟩ := hu.kids
        simp only [Ph.T.bytes] at h3
        rw [Ph.take_count, Ph.T.size_bytes] at h3
        refine ⟨_, rfl, ?_⟩
        refine ⟨_, rfl, ?_⟩
        refine fFirst Y hf ?_
        refine fSize Y hx ?_
        refine ⟨_, _, rfl, rfl, _, rfl, ?_⟩
        refine ite2 (fun d => ?_) (fun d => ?_)
        · have d' : p ≤ x.size := by have := of_decide_eq_true d; omega
          rw [if_pos d'] at h3
          refine ⟨_, rfl, ?_⟩
          refine fFirst Y hf ?_
          exact ⟨ax, x, p, ps, rfl, rfl, hx, h3, by simp only [Ph.T.ht]; omega⟩
        · have d' : ¬ p ≤ x.size := fun z => d (decide_eq_true (by omega))
          rw [if_neg d'] at h3
          refine ⟨_, rfl, ?_⟩
          refine ⟨_, rfl, ?_⟩
          refine fFirst Y hf ?_
          refine fSize Y hx ?_
          refine ⟨_, _, rfl, rfl, ?_⟩
          refine ⟨_, rfl, ?_⟩
          refine ⟨_, rfl, ?_⟩
          refine fFirst Y hf ?_
          refine fFeeds Y hx ?_
          refine ⟨_, _, rfl, rfl, ?_⟩
          refine ⟨_, rfl, ?_⟩
          refine fSecond Y hf ?_
          refine ⟨ay, y, p - x.size, ps + x.bytes.count 10, ?_, rfl, hy, by omega, by simp only [Ph.T.ht]; omega⟩
          have e1 : (p : Int) - (x.size : Int) = ((p - x.size : Nat) : Int) := by omega
          have e2 : (ps : Int) + (x.bytes.count 10 : Int) = ((ps + x.bytes.count 10 : Nat) : Int) := by omega
          rw [← e1, ← e2]
          rfl
      · have c' : u.ht = 0 := by
          by_cases z : 0 < u.ht
          · exact absurd (decide_eq_true (by omega)) c
          · omega
        cases u with
        | fork i x y => simp [Ph.T.ht] at c'
        | leaf i v =>
          obtain ⟨dx, pc, fs, lf⟩ := hu
          simp only [Ph.T.bytes] at h3
          refine ⟨_, rfl, ?_⟩
          refine ⟨_, rfl, ?_⟩
          refine fContent Y lf ?_
          have fin : ∀ (H2 : Hp) (q : Addr), Same H' H2 → H2 q = some (.tup ((v.take p).map vI)) → ∃ (p' : Addr) (ns : List Int) (k' : Int), V.ref q = .ref p' ∧ [V.int 10] = [.int k'] ∧ H2 p' = some (.tup (ns.map V.int)) ∧ ∃ i j, V.int ((ps : Nat) : Int) = .int i ∧ V.int ((ns.count k' : Nat) : Int) = .int j ∧ Q (.int (i + j)) H2 := fun H2 q s2 hq => by
            refine ⟨q, Ph.ofN (v.take p), 10, rfl, rfl, by rw [hq, map_vI], _, _, rfl, rfl, ?_⟩
            have := k H2 s2
            rw [show Ph.bytesO (some t) = t.bytes from rfl, h3] at this
            rw [show (10 : Int) = ((10 : Nat) : Int) from rfl, count_ofN, ← Int.natCast_add]
            exact this
          refine ⟨_, rfl, _, rfl, pc, _, rfl, SqT.of lf.tup, fun hw => ?_, fun hw q hq => ?_⟩
          · rw [HT.sIx_nat, List.length_map] at hw
            have e0 : v.take p = v := List.take_of_length_le (by omega)
            refine ⟨.inr (.inr (.inr (.inr ⟨rfl, _, lf.tup⟩))), ?_⟩
            exact fin H' pc (fun b o e => e) (by rw [e0]; exact lf.tup)
          · rw [HT.sIx_nat, List.length_map] at hw
            have e0 : cutV (v.map vI) none (some ((p : Nat) : Int)) = (v.take p).map vI := by
              unfold cutV
              rw [HT.sIx_nat, List.length_map, show HT.sIx v.length 0 none = 0 from rfl, List.drop_zero, Nat.sub_zero, ← List.map_take]
              congr 1
              rw [← List.take_take, List.take_length]
            rw [e0]
            refine ⟨.inr (.inr (.inr (.inr ⟨rfl, _, upd_same⟩))), ?_⟩
            exact fin _ q (fun b o e => by rw [upd_ne (ne_of_none e hq)]; exact e) upd_same
theorem sc_count_alike : FnScope ["some", "others", "count"] ["some", "others"] (defScope s_count_alike) := ⟨rfl, rfl, rfl, by decide +kernel, rfl, by decide +kernel, by decide +kernel⟩
def spAlikeN : Sp := fun vs H Q _ => ∃ (p q : Addr) (a b : List Nat), vs = [.ref p, .ref q] ∧ H p = some (.lst (a.map vI)) ∧ H q = some (.lst (b.map vI)) ∧ a.length = b.length ∧ Q (.int ((Ue01.common a b : Nat) : Int)) H
theorem ok_count_alike (Y : TX K mg) : FnOk P w K mg base CX0 1 Y.f_count_alike Y.d_count_alike ["some", "others"] spAlikeN := by
  refine Y.g_count_alike.fn.ok sc_count_alike (fun vs H Q E h => ?_) (fun cdv A outer s H vs Q E hr h => ?_)
  · obtain ⟨p, q, a, b, rfl, _⟩ := h
    rfl
  · obtain ⟨p, q, a, b, rfl, hp, hq, hl, k⟩ := h
    refine ⟨_, (pss_cons (ps_set (i := 2) sc_count_alike.nd rfl (Or.inl rfl) pe_int)
      (pss_cons (ps_while PassesOwn.never (PW.pt (pw_and (pt_cmpR op_lt (pv 2) (pe_callB call_len_seq (by rfl) Y.b_len PySem.boot_len (pa_cons (pv 0) pa_nil)) (nomark _)) (pw_and1 (pt_cmpR op_eq (pe_ix ix_list (pv 0) (pv 2) (fun _ _ => rfl)) (pe_ix ix_list (pv 1) (pv 2) (fun _ _ => rfl)) (nomark _))))) (pss_one (ps_aug (i := 2) sc_count_alike.nd rfl (Or.inl rfl) pe_int ip_add)))
      (pss_one (ps_ret (pv 2))))), ?_⟩
    refine ⟨fun m σ H' => ∃ i : Nat, σ = [some (.ref p), some (.ref q), some (.int ((i : Nat) : Int))] ∧ H' = H ∧ i ≤ a.length ∧ (∀ j, j < i → a[j]? = b[j]?) ∧ m = a.length - i, ⟨_, 0, rfl, rfl, Nat.zero_le _, fun j hj => absurd hj (Nat.not_lt_zero _), rfl⟩, ?_⟩
    rintro m σ H' ⟨i, rfl, rfl, hi, heq, rfl⟩
    by_cases ci : i < a.length
    · have ea : a[i]? = some a[i] := List.getElem?_eq_getElem ci
      have eb : b[i]? = some (b[i]'(by omega)) := List.getElem?_eq_getElem (by omega)
      refine and2 (b1 := true) (b2 := decide (V.int ((a[i] : Nat) : Int) = V.int (((b[i]'(by omega)) : Nat) : Int))) (fun Q q' => ?_) (fun Q q' => ?_) ?_
      · refine ⟨_, rfl, _, rfl, p, _, rfl, .inl (SqL.of hp), _, _, rfl, rfl, _, rfl, ?_⟩
        rw [show decide (((i : Nat) : Int) < (((a.map vI).length : Nat) : Int)) = true from decide_eq_true (by rw [List.length_map]; omega)]
        exact q'
      · refine ⟨_, rfl, _, rfl, p, _, _, _, rfl, rfl, SqL.of hp, atI_nat (j := i) (at_nat ea), ?_⟩
        refine ⟨_, rfl, _, rfl, q, _, _, _, rfl, rfl, SqL.of hq, atI_nat (j := i) (at_nat eb), ?_⟩
        exact ⟨rfl, _, rfl, q'⟩
      refine ite2 (fun d => ?_) (fun d => ?_)
      · have d' : a[i]? = b[i]? := by
          rw [Bool.true_and] at d
          have := of_decide_eq_true d
          injection this with z
          rw [ea, eb]
          congr 1
          omega
        refine ⟨fun σ' H2 => ∃ i' : Nat, σ' = [some (.ref p), some (.ref q), some (.int ((i' : Nat) : Int))] ∧ H2 = H' ∧ i' ≤ a.length ∧ (∀ j, j < i' → a[j]? = b[j]?) ∧ a.length - i' < a.length - i, ?_, ?_⟩
        · rintro σ' H2 ⟨i', rfl, rfl, q1, q2, q3⟩
          exact ⟨_, q3, i', rfl, rfl, q1, q2, rfl⟩
        refine ⟨_, rfl, _, _, rfl, rfl, ?_⟩
        refine ⟨i + 1, rfl, rfl, by omega, fun j hj => ?_, by omega⟩
        rcases Nat.lt_or_ge j i with z | z
        · exact heq j z
        · rw [show j = i by omega]; exact d'
      · have d' : ¬ a[i] = b[i]'(by omega) := fun z => d (by rw [Bool.true_and]; exact decide_eq_true (by rw [z]))
        refine ⟨_, rfl, ?_⟩
        have e : Ue01.common a b = i := by
          rw [Ph.common_drop a b i hi (by omega) heq, List.drop_eq_getElem_cons ci, List.drop_eq_getElem_cons (show i < b.length by omega), Ue01.common, if_neg d']
          rfl
        rw [e] at k
        exact k
    · have ei : i = a.length := by omega
      refine and2s (fun Q q' => ?_) ?_
      · refine ⟨_, rfl, _, rfl, p, _, rfl, .inl (SqL.of hp), _, _, rfl, rfl, _, rfl, ?_⟩
        rw [show decide (((i : Nat) : Int) < (((a.map vI).length : Nat) : Int)) = false from decide_eq_false (by rw [List.length_map]; omega)]
        exact q'
      · rw [if_neg (by simp)]
        refine ⟨_, rfl, ?_⟩
        have e : Ue01.common a b = i := by
          rw [Ph.common_drop a b i hi (by omega) heq, List.drop_of_length_le (by omega), List.drop_of_length_le (by omega)]
          rfl
        rw [e] at k
        exact k
end
end Pw
set_option Elab.async false
set_option linter.all false
set_option maxRecDepth 100000
namespace Pw
open PySem PySem.Spec PyProof.Rows L2
/-- a house stands at A: its maker at M, the list of its trees at L -/
structure HouseAt (c : Cs) (H : Hp) (A M L : Addr) (n : Nat) (vs : List (Option Ph.T)) : Prop where
  ob : ∃ dx, H A = some (.ins c.CH dx [("maker", .ref M), ("trees", .ref L)])
  mkr : MakerAt c H M n
  ls : ∃ xs, H L = some (.lst xs) ∧ WaitAt c H xs vs
/-- all but the maker and the list of trees is kept -/
def KeepH (M L : Addr) (H H' : Hp) : Prop := ∀ b o, H b = some o → b ≠ M → b ≠ L → H' b = some o
theorem KeepH.refl (M L : Addr) (H : Hp) : KeepH M L H H := fun _ _ h _ _ => h
theorem KeepH.trans {M L : Addr} {H H1 H2 : Hp} (a : KeepH M L H H1) (b : KeepH M L H1 H2) : KeepH M L H H2 := fun c o h n m => b c o (a c o h n m) n m
theorem KeepH.of {M L : Addr} {H H' : Hp} (k : Keep M H H') : KeepH M L H H' := fun b o h n _ => k b o h n
theorem KeepH.new {M L : Addr} {H : Hp} {p : Addr} {o : HO} (h : H p = none) : KeepH M L H (upd H p o) := KeepH.of (Keep.new h)
section
variable {P : Program} {w : World} {K : PySem.W.Frag} {mg : Str → Option Value} {base : Heap}
theorem WaitAt.mono (Y : TX K mg) {H H' : Hp} {M : Addr} {n : Nat} (k : Keep M H H') (hM : MakerAt Y.toCs H M n) {xs : List V} {lo : List (Option Ph.T)} (h : WaitAt Y.toCs H xs lo) : WaitAt Y.toCs H' xs lo :=
  Paired.mapP h fun v t e => RepO.mono Y k hM e
theorem WaitAt.same {c : Cs} {H H' : Hp} (s : Same H H') {xs : List V} {lo : List (Option Ph.T)} (h : WaitAt c H xs lo) : WaitAt c H' xs lo :=
  Paired.mapP h fun v t e => RepO.same s e
theorem HouseAt.same {c : Cs} {H H' : Hp} {A M L : Addr} {n : Nat} {vs : List (Option Ph.T)} (h : HouseAt c H A M L n vs) (s : Same H H') : HouseAt c H' A M L n vs := by
  obtain ⟨⟨dx, e1⟩, ⟨d2, e2⟩, xs, e3, e4⟩ := h
  exact ⟨⟨dx, s _ _ e1⟩, ⟨d2, s _ _ e2⟩, xs, s _ _ e3, e4.same s⟩
theorem HouseAt.nML {c : Cs} {H : Hp} {A M L : Addr} {n : Nat} {vs : List (Option Ph.T)} (h : HouseAt c H A M L n vs) : M ≠ L := by
  obtain ⟨_, ⟨d2, e2⟩, xs, e3, _⟩ := h
  exact ne_of e2 e3 (by intro z; cases z)
theorem HouseAt.nAM {c : Cs} {H : Hp} {A M L : Addr} {n : Nat} {vs : List (Option Ph.T)} (h : HouseAt c H A M L n vs) : A ≠ M ∧ A ≠ L := by
  obtain ⟨⟨dx, e1⟩, ⟨d2, e2⟩, xs, e3, _⟩ := h
  refine ⟨ne_of e1 e2 fun z => ?_, ne_of e1 e3 (by intro z; cases z)⟩
  injection z with _ _ z3
  cases z3
/-- behind the maker's work -/
theorem HouseAt.kept (Y : TX K mg) {H H' : Hp} {A M L : Addr} {n n' : Nat} {vs : List (Option Ph.T)} (h : HouseAt Y.toCs H A M L n vs) (k : Keep M H H') (hM : MakerAt Y.toCs H' M n') : HouseAt Y.toCs H' A M L n' vs := by
  have n1 := h.nAM.1
  have n2 := h.nML
  obtain ⟨⟨dx, e1⟩, m, xs, e3, e4⟩ := h
  exact ⟨⟨dx, k _ _ e1 n1⟩, hM, xs, k _ _ e3 (Ne.symm n2), e4.mono Y k m⟩
theorem HouseAt.get {c : Cs} {H : Hp} {A M L : Addr} {n : Nat} {vs : List (Option Ph.T)} {i : Nat} {o : Option Ph.T} (h : HouseAt c H A M L n vs) (e : vs[i]? = some o) : ∃ xs v, H L = some (.lst xs) ∧ xs[i]? = some v ∧ RepO c H o v := by
  obtain ⟨_, _, xs, e3, e4⟩ := h
  have l := paired_len e4
  have hi : i < xs.length := by rw [l]; exact (List.getElem?_eq_some_iff.mp e).1
  obtain ⟨b, e5, e6⟩ := paired_get e4 (List.getElem?_eq_getElem hi)
  rw [e] at e5
  cases e5
  exact ⟨xs, _, e3, List.getElem?_eq_getElem hi, e6⟩
theorem HouseAt.len {c : Cs} {H : Hp} {A M L : Addr} {n : Nat} {vs : List (Option Ph.T)} (h : HouseAt c H A M L n vs) : ∃ xs, H L = some (.lst xs) ∧ xs.length = vs.length := by
  obtain ⟨_, _, xs, e3, e4⟩ := h
  exact ⟨xs, e3, paired_len e4⟩
theorem fMaker (Y : TX K mg) {H : Hp} {A M L : Addr} {n : Nat} {vs : List (Option Ph.T)} {Q : V → Prop} (h : HouseAt Y.toCs H A M L n vs) (q : Q (.ref M)) : FldC K "maker" (.ref A) H Q := by
  obtain ⟨dx, e⟩ := h.ob
  exact ⟨A, _, dx, _, _, rfl, e, Y.cl_House, Y.aH _ (by simp), rfl, q⟩
theorem fTrees (Y : TX K mg) {H : Hp} {A M L : Addr} {n : Nat} {vs : List (Option Ph.T)} {Q : V → Prop} (h : HouseAt Y.toCs H A M L n vs) (q : Q (.ref L)) : FldC K "trees" (.ref A) H Q := by
  obtain ⟨dx, e⟩ := h.ob
  exact ⟨A, _, dx, _, _, rfl, e, Y.cl_House, Y.aH _ (by simp), rfl, q⟩
theorem fMade (Y : TX K mg) {H : Hp} {M : Addr} {n : Nat} {Q : V → Prop} (h : MakerAt Y.toCs H M n) (q : Q (.int ((n : Nat) : Int))) : FldC K "made" (.ref M) H Q := by
  obtain ⟨dx, e⟩ := h
  exact ⟨M, _, dx, _, _, rfl, e, Y.cl_Maker, Y.aM _ (by simp), rfl, q⟩
theorem sc_House_init : FnScope ["self"] ["self"] (defScope s_House_init) := ⟨rfl, rfl, rfl, by decide +kernel, rfl, by decide +kernel, by decide +kernel⟩
def spHouseInit (c : Cs) : Sp := fun vs H Q _ => ∃ (p dx : Addr), vs = [.ref p] ∧ H p = some (.ins c.CH dx []) ∧ ∀ (H' : Hp) (M L : Addr), HouseAt c H' p M L 0 [none] → H M = none → H L = none → (∀ b o, H b = some o → b ≠ p → H' b = some o) → Q .non H'
theorem ok_House_init (Y : TX K mg) : FnOk P w K mg base CX0 3 Y.fi_House Y.di_House ["self"] (spHouseInit Y.toCs) := by
  refine Y.i_House.fn.ok sc_House_init (fun vs H Q E h => ?_) (fun cdv A outer s H vs Q E hr h => ?_)
  · obtain ⟨p, dx, rfl, _⟩ := h
    rfl
  · obtain ⟨p, dx, rfl, hp, k⟩ := h
    refine ⟨_, (pss_cons (ps_fld (pv 0) (pe_make0 Y.mk_Maker (ok_Maker_init Y) (hr.mono (by decide)) rfl Y.c_Maker Y.i_Maker.bd .nil pass0) rfl)
      (pss_one (ps_fld (pv 0) (pe_lst (pa_cons pe_non pa_nil)) rfl))), ?_⟩
    intro M dM hM hdM hne
    refine ⟨M, dM, rfl, upd_same, fun H1 m1 k1 => ⟨rfl, ?_⟩⟩
    have npM : p ≠ M := ne_of_none hp hM
    have s1 : Same H H1 := fun b o e => k1 b o (by rw [upd_ne (ne_of_none e hM), upd_ne (ne_of_none e hdM)]; exact e) (ne_of_none e hM)
    have hp1 := s1 _ _ hp
    refine ⟨_, rfl, p, _, dx, _, rfl, hp1, Y.cl_House, Y.aH _ (by simp), few few0, ?_⟩
    refine ⟨(by show 1 ≤ sizeLine; decide), fun L hL => ?_⟩
    have npL : p ≠ L := fun z => by rw [← z, upd_same] at hL; cases hL
    have hL1 : H1 L = none := by rw [upd_ne (Ne.symm npL)] at hL; exact hL
    obtain ⟨dm, em⟩ := id m1
    have nML : M ≠ L := ne_of_none em hL1
    have hp2 : (upd (upd H1 p (.ins Y.CH dx (putF "maker" (.ref M) []))) L (.lst [.non])) p = some (.ins Y.CH dx (putF "maker" (.ref M) [])) := by rw [upd_ne npL, upd_same]
    refine ⟨_, rfl, p, _, dx, _, rfl, hp2, Y.cl_House, Y.aH _ (by simp), few (fewS few0), ?_⟩
    refine k _ M L ⟨⟨dx, upd_same⟩, ⟨dm, by rw [upd_ne (Ne.symm npM), upd_ne nML, upd_ne (Ne.symm npM)]; exact em⟩, [.non], by rw [upd_ne (Ne.symm npL), upd_same], .cons rfl .nil⟩ hM (s1.free hL1) fun b o e hb => ?_
    rw [upd_ne hb, upd_ne (ne_of_none (s1 _ _ e) hL1), upd_ne hb]
    exact s1 _ _ e
theorem sc_House_has : FnScope ["self", "version"] ["self", "version"] (defScope s_House_has) := ⟨rfl, rfl, rfl, by decide +kernel, rfl, by decide +kernel, by decide +kernel⟩
def spHas (c : Cs) : Sp := fun vs H Q _ => ∃ (A M L : Addr) (n v : Nat) (ts : List (Option Ph.T)), vs = [.ref A, .int ((v : Nat) : Int)] ∧ HouseAt c H A M L n ts ∧ Q (.bl (decide (v < ts.length))) H
theorem ok_House_has (Y : TX K mg) : FnOk P w K mg base CX0 1 Y.f_House_has Y.d_House_has ["self", "version"] (spHas Y.toCs) := by
  refine Y.m_House_has.fn.ok sc_House_has (fun vs H Q E h => ?_) (fun cdv A outer s H vs Q E hr h => ?_)
  · obtain ⟨A, M, L, n, v, ts, rfl, _⟩ := h
    rfl
  · obtain ⟨A, M, L, n, v, ts, rfl, hA, k⟩ := h
    obtain ⟨xs, e1, e2⟩ := hA.len
    refine ⟨_, (pss_one (ps_ret (pe_cmpR op_lt (pv 1) (pe_callB call_len_seq (by rfl) Y.b_len PySem.boot_len (pa_cons (pe_fld (pv 0) rfl) pa_nil)) (nomark _)))), ?_⟩
    refine ⟨_, rfl, ?_⟩
    refine ⟨_, rfl, ?_⟩
    refine fTrees Y hA ?_
    refine ⟨L, _, rfl, .inl (SqL.of e1), _, _, rfl, rfl, ?_⟩
    have e3 : decide (((v : Nat) : Int) < ((xs.length : Nat) : Int)) = decide (v < ts.length) := decide_eq_decide.mpr (by omega)
    dsimp only
    rw [e3]
    exact k
theorem sc_House_is_full : FnScope ["self"] ["self"] (defScope s_House_is_full) := ⟨rfl, rfl, rfl, by decide +kernel, rfl, by decide +kernel, by decide +kernel⟩
def spFull (c : Cs) : Sp := fun vs H Q _ => ∃ (A M L : Addr) (n : Nat) (ts : List (Option Ph.T)), vs = [.ref A] ∧ HouseAt c H A M L n ts ∧ Q (.bl (decide (60 ≤ ts.length))) H
theorem ok_House_is_full (Y : TX K mg) : FnOk P w K mg base CX0 1 Y.f_House_is_full Y.d_House_is_full ["self"] (spFull Y.toCs) := by
  refine Y.m_House_is_full.fn.ok sc_House_is_full (fun vs H Q E h => ?_) (fun cdv A outer s H vs Q E hr h => ?_)
  · obtain ⟨A, M, L, n, ts, rfl, _⟩ := h
    rfl
  · obtain ⟨A, M, L, n, ts, rfl, hA, k⟩ := h
    obtain ⟨xs, e1, e2⟩ := hA.len
    refine ⟨_, (pss_one (ps_ret (pe_cmpR op_ge (pe_callB call_len_seq (by rfl) Y.b_len PySem.boot_len (pa_cons (pe_fld (pv 0) rfl) pa_nil)) (pe_gint rfl Y.c_MOST_VERSIONS) (nomark _)))), ?_⟩
    refine ⟨_, rfl, ?_⟩
    refine fTrees Y hA ?_
    refine ⟨L, _, rfl, .inl (SqL.of e1), _, _, rfl, rfl, ?_⟩
    have e3 : decide ((60 : Int) ≤ ((xs.length : Nat) : Int)) = decide (60 ≤ ts.length) := decide_eq_decide.mpr (by omega)
    dsimp only
    rw [e3]
    exact k
theorem sc_House_keep : FnScope ["self", "tree", "earlier"] ["self", "tree", "earlier"] (defScope s_House_keep) := ⟨rfl, rfl, rfl, by decide +kernel, rfl, by decide +kernel, by decide +kernel⟩
def spKeep (c : Cs) : Sp := fun vs H Q _ => ∃ (A M L : Addr) (n e b : Nat) (ts : List (Option Ph.T)) (v : V) (o : Option Ph.T), vs = [.ref A, v, .int ((e : Nat) : Int)] ∧ HouseAt c H A M L n ts ∧ RepO c H o v ∧ Ph.Countable e o.toList b ∧ b ≤ 10000000 ∧ ts.length ≤ 60 ∧
  ∀ (H' : Hp) (p : Addr) (N : Nat), Ph.Cnt e o.toList N → HouseAt c H' A M L n (ts ++ [o]) → H' p = some (.lst [.int ((ts.length : Nat) : Int), .int ((N : Nat) : Int)]) → H p = none → KeepH M L H H' → Q (.ref p) H'
theorem ok_House_keep (Y : TX K mg) : FnOk P w K mg base CX0 2 Y.f_House_keep Y.d_House_keep ["self", "tree", "earlier"] (spKeep Y.toCs) := by
  refine Y.m_House_keep.fn.ok sc_House_keep (fun vs H Q E h => ?_) (fun cdv A outer s H vs Q E hr h => ?_)
  · obtain ⟨A, M, L, n, e, b, ts, v, o, rfl, _⟩ := h
    rfl
  · obtain ⟨A, M, L, n, e, b, ts, v, o, rfl, hA, ho, cn, hb, h60, k⟩ := h
    refine ⟨_, (pss_cons (ps_expr (pe_bm PySem.F.plainAttrs_list PySem.F.slot_list_append PySem.F.type_list_append mt_append (pe_fld (pv 0) rfl) (pa_cons (pv 1) pa_nil)))
      (pss_one (ps_ret (pe_lst (pa_cons (pe_op op_sub (pe_callB call_len_seq (by rfl) Y.b_len PySem.boot_len (pa_cons (pe_fld (pv 0) rfl) pa_nil)) pe_int) (pa_cons (pe_call (ok_count_nodes Y) (hr.mono (by decide)) rfl Y.g_count_nodes.at_ Y.g_count_nodes.fn.kp Y.g_count_nodes.bd .nil pass0 (pa_cons (pe_lst (pa_cons (pv 1) pa_nil)) (pa_cons (pv 2) pa_nil))) pa_nil)))))), ?_⟩
    obtain ⟨xs, e1, e2⟩ := hA.len
    have nAL := hA.nAM.2
    have nML := hA.nML
    have nbL := NB.lst e1
    refine ⟨_, rfl, ?_⟩
    refine fTrees Y hA ?_
    refine ⟨.inl ⟨rfl, _, SqL.of e1⟩, ?_⟩
    refine ⟨_, rfl, L, xs, _, rfl, rfl, e1, small1000 (by omega), ?_⟩
    have hA2 : HouseAt Y.toCs (upd H L (.lst (xs ++ [v]))) A M L n (ts ++ [o]) := by
      obtain ⟨⟨dx, e3⟩, m, ys, e4, e5⟩ := hA
      rw [e1] at e4
      cases e4
      exact ⟨⟨dx, by rw [upd_ne nAL]; exact e3⟩, m.at nbL _, _, upd_same, paired_snoc (WaitAt.at nbL _ e5) (ho.at nbL _)⟩
    have ho2 := ho.at nbL (.lst (xs ++ [v]))
    have kh : KeepH M L H (upd H L (.lst (xs ++ [v]))) := fun b' u e' _ hL => by rw [upd_ne hL]; exact e'
    have fr : ∀ p, (upd H L (.lst (xs ++ [v]))) p = none → H p = none := fun p hp => by
      by_cases z : p = L
      · subst z; rw [upd_same] at hp; cases hp
      · rw [upd_ne z] at hp; exact hp
    have e1' : (upd H L (.lst (xs ++ [v]))) L = some (.lst (xs ++ [v])) := upd_same
    generalize hH2 : upd H L (.lst (xs ++ [v])) = H2 at *
    refine ⟨_, rfl, ?_⟩
    refine fTrees Y hA2 ?_
    refine ⟨L, _, rfl, .inl (SqL.of e1'), _, _, rfl, rfl, ?_⟩
    refine ⟨_, rfl, (by show 1 ≤ sizeLine; decide), fun B hB => ?_⟩
    have sB : Same H2 (upd H2 B (.lst [v])) := fun b' u e' => by rw [upd_ne (ne_of_none e' hB)]; exact e'
    have eo : [o].filterMap id = o.toList := by cases o <;> rfl
    refine ⟨_, rfl, ?_⟩
    refine ⟨B, [v], [o], e, b, rfl, upd_same, .cons (ho2.same sB) .nil, by simp, by rw [eo]; exact cn, hb, fun H3 N hN s30 => ?_⟩
    rw [eo] at hN
    have s3 : Same H2 H3 := sB.trans s30
    refine ⟨(by show 2 ≤ sizeLine; decide), fun p hp => ?_⟩
    refine k _ p N hN (hA2.same fun b' u e' => ?_) ?_ (fr p (s3.free hp)) (kh.trans fun b' u e' _ _ => ?_)
    · rw [upd_ne (ne_of_none (s3 _ _ e') hp)]; exact s3 _ _ e'
    · rw [upd_same]
      have e9 : (((xs ++ [v]).length : Nat) : Int) - 1 = ((ts.length : Nat) : Int) := by
        rw [List.length_append, List.length_cons, List.length_nil]; omega
      dsimp only
      rw [e9]
    · rw [upd_ne (ne_of_none (s3 _ _ e') hp)]; exact s3 _ _ e'
theorem sc_is_range : FnScope ["tree", "begin", "end"] ["tree", "begin", "end"] (defScope s_is_range) := ⟨rfl, rfl, rfl, by decide +kernel, rfl, by decide +kernel, by decide +kernel⟩
def spRange (c : Cs) : Sp := fun vs H Q _ => ∃ (v : V) (o : Option Ph.T) (a b : Nat), vs = [v, .int ((a : Nat) : Int), .int ((b : Nat) : Int)] ∧ RepO c H o v ∧ Q (.bl (decide (a ≤ b) && decide (b ≤ Ph.sizeO o))) H
theorem ok_is_range (Y : TX K mg) : FnOk P w K mg base CX0 2 Y.f_is_range Y.d_is_range ["tree", "begin", "end"] (spRange Y.toCs) := by
  refine Y.g_is_range.fn.ok sc_is_range (fun vs H Q E h => ?_) (fun cdv A outer s H vs Q E hr h => ?_)
  · obtain ⟨v, o, a, b, rfl, _⟩ := h
    rfl
  · obtain ⟨v, o, a, b, rfl, ho, k⟩ := h
    refine ⟨_, (pss_one (ps_ret (pe_and (pe_cmpR op_le (pv 1) (pv 2) (nomark _)) (pe_one (pe_cmpR op_le (pv 2) (pe_call (ok_size_of Y) (hr.mono (by decide)) rfl Y.g_size_of.at_ Y.g_size_of.fn.kp Y.g_size_of.bd .nil pass0 (pa_cons (pv 0) pa_nil)) (nomark _)))))), ?_⟩
    refine ⟨_, rfl, _, rfl, _, _, rfl, rfl, _, rfl, ?_⟩
    have e1 : decide (((a : Nat) : Int) ≤ ((b : Nat) : Int)) = decide (a ≤ b) := decide_eq_decide.mpr (by omega)
    have e2 : decide (((b : Nat) : Int) ≤ ((Ph.sizeO o : Nat) : Int)) = decide (b ≤ Ph.sizeO o) := decide_eq_decide.mpr (by omega)
    rw [e1]
    cases q : decide (a ≤ b) with
    | true =>
      rw [q] at k
      rw [if_pos rfl]
      refine ⟨_, rfl, ?_⟩
      refine ⟨_, rfl, ?_⟩
      refine ⟨v, o, rfl, ho, ?_⟩
      refine ⟨_, _, rfl, rfl, ?_⟩
      dsimp only
      rw [e2]
      simpa using k
    | false =>
      rw [q] at k
      rw [if_neg (by simp)]
      simpa using k
end
end Pw
set_option Elab.async false
set_option linter.all false
set_option maxRecDepth 100000
namespace Pw
open PySem PySem.Spec PyProof.Rows L2
/-- what is wanted behind a call on a house: r is what the document says -/
def PostH (c : Cs) (A M L : Addr) (H : Hp) (r : Ue01.St × List Int) (Q : VK) : Prop :=
  ∀ (H' : Hp) (p : Addr) (n' : Nat) (vs' : List (Option Ph.T)), HouseAt c H' A M L n' vs' → Ph.Rel r.1 n' vs' → H' p = some (.lst (r.2.map V.int)) → H p = none → KeepH M L H H' → Q (.ref p) H'
/-- a refusal -/
theorem PostH.no {c : Cs} {A M L : Addr} {H : Hp} {n : Nat} {vs : List (Option Ph.T)} {g : Ue01.St} {r : Ue01.St × List Int} {z : Int} {Q : VK} (k : PostH c A M L H r Q) (hA : HouseAt c H A M L n vs) (R : Ph.Rel g n vs) (e : r = (g, [z])) {p : Addr} (hp : H p = none) :
    Q (.ref p) (upd H p (.lst [.int z])) := by
  subst e
  exact k _ p n vs (hA.same fun b u q => by rw [upd_ne (ne_of_none q hp)]; exact q) R upd_same hp (KeepH.new hp)
def vs_none (ts : List (Option Ph.T)) (v : Nat) : Prop := ts[v]? = none
/-- an address that is free behind the maker's work was free ahead of it -/
theorem free12 {c : Cs} {M : Addr} {H H' : Hp} {n n' : Nat} {p : Addr} (k : Keep M H H') (m : MakerAt c H M n) (m' : MakerAt c H' M n') (h : H' p = none) : H p = none := by
  cases e : H p with
  | none => rfl
  | some o =>
    exfalso
    by_cases z : p = M
    · subst z
      obtain ⟨d, e'⟩ := m'
      rw [e'] at h
      cases h
    · rw [k p o e z] at h
      cases h
section
variable {P : Program} {w : World} {K : PySem.W.Frag} {mg : Str → Option Value} {base : Heap}
theorem max_any {v : List Nat} {m : Int} (h1 : m ∈ Ph.ofN v) (h2 : ∀ z, z ∈ Ph.ofN v → z ≤ m) : decide ((255 : Int) < m) = v.any (fun b => decide (255 < b)) := by
  rw [Bool.eq_iff_iff, List.any_eq_true, decide_eq_true_iff]
  constructor
  · intro h
    obtain ⟨b, hb, e⟩ := List.mem_map.mp h1
    exact ⟨b, hb, decide_eq_true (by omega)⟩
  · rintro ⟨b, hb, e⟩
    have := of_decide_eq_true e
    have := h2 (b : Int) (List.mem_map.mpr ⟨b, hb, rfl⟩)
    omega
theorem sc_insert_answer : FnScope ["house", "version", "place", "content", "tree", "earlier", "middle"] ["house", "version", "place", "content"] (defScope s_insert_answer) := ⟨rfl, rfl, rfl, by decide +kernel, rfl, by decide +kernel, by decide +kernel⟩
def spInsert (c : Cs) : Sp := fun vs H Q _ => ∃ (A M L C : Addr) (n v p : Nat) (ts : List (Option Ph.T)) (x : List Nat) (g : Ue01.St), vs = [.ref A, .int ((v : Nat) : Int), .int ((p : Nat) : Int), .ref C] ∧ HouseAt c H A M L n ts ∧ Ph.Rel g n ts ∧ H C = some (.lst (x.map vI)) ∧ C ≠ L ∧
  PostH c A M L H (Ue01.step g (.insert v p x)) Q
theorem ok_insert_answer (Y : TX K mg) : FnOk P w K mg base CX0 11 Y.f_insert_answer Y.d_insert_answer ["house", "version", "place", "content"] (spInsert Y.toCs) := by
  refine Y.g_insert_answer.fn.ok sc_insert_answer (fun vs H Q E h => ?_) (fun cdv A outer s H vs Q E hr h => ?_)
  · obtain ⟨A, M, L, C, n, v, p, ts, x, g, rfl, _⟩ := h
    rfl
  · obtain ⟨A, M, L, C, n, v, p, ts, x, g, rfl, hA, R, hC, nCL, k⟩ := h
    refine ⟨_, (pss_cons (ps_if (pt_not (pt_val (pe_meth (pv 0) Y.cl_House Y.m_House_has.me (ok_House_has Y) (hr.mono (by decide)) Y.m_House_has.bd .nil pass0 (pa_cons (pv 1) pa_nil)))) (pss_one (ps_ret (pe_lst (pa_cons (pe_gint rfl Y.c_NO_VERSION) pa_nil)))) pss_nil)
      (pss_cons (ps_set (i := 4) sc_insert_answer.nd rfl (Or.inl rfl) (pe_ix ix_list (pe_fld (pv 0) rfl) (pv 1) (fun _ _ => rfl)))
      (pss_cons (ps_if (PW.pt (pw_or (pt_cmpR op_gt (pv 2) (pe_call (ok_size_of Y) (hr.mono (by decide)) rfl Y.g_size_of.at_ Y.g_size_of.fn.kp Y.g_size_of.bd .nil pass0 (pa_cons (pv 4) pa_nil)) (nomark _)) (pw_or (pt_cmpR op_gt (pe_callB call_len_seq (by rfl) Y.b_len PySem.boot_len (pa_cons (pv 3) pa_nil)) (pe_gint rfl Y.c_MOST_AT_ONCE) (nomark _)) (pw_or1 (pt_cmpR op_gt (Lx.pe_maxD rfl (by rfl) Y.b_max (pv 3) pe_int) (pe_gint rfl Y.c_HIGHEST_BYTE) (nomark _)))))) (pss_one (ps_ret (pe_lst (pa_cons (pe_gint rfl Y.c_UNFIT) pa_nil)))) pss_nil)
      (pss_cons (ps_if (pt_val (pe_meth0 (pv 0) Y.cl_House Y.m_House_is_full.me (ok_House_is_full Y) (hr.mono (by decide)) Y.m_House_is_full.bd .nil pass0)) (pss_one (ps_ret (pe_lst (pa_cons (pe_gint rfl Y.c_NO_ROOM) pa_nil)))) pss_nil)
      (pss_cons (ps_if (pt_cmpR op_gt (pe_op op_add (pe_call (ok_size_of Y) (hr.mono (by decide)) rfl Y.g_size_of.at_ Y.g_size_of.fn.kp Y.g_size_of.bd .nil pass0 (pa_cons (pv 4) pa_nil)) (pe_callB call_len_seq (by rfl) Y.b_len PySem.boot_len (pa_cons (pv 3) pa_nil))) (pe_gint rfl Y.c_MOST_BYTES) (nomark _)) (pss_one (ps_ret (pe_lst (pa_cons (pe_gint rfl Y.c_TOO_LONG) pa_nil)))) pss_nil)
      (pss_cons (ps_set (i := 5) sc_insert_answer.nd rfl (Or.inl rfl) (pe_fld (pe_fld (pv 0) rfl) rfl))
      (pss_cons (ps_set (i := 6) sc_insert_answer.nd rfl (Or.inl rfl) (pe_call (ok_made_of_bytes Y) (hr.mono (by decide)) rfl Y.g_made_of_bytes.at_ Y.g_made_of_bytes.fn.kp Y.g_made_of_bytes.bd .nil pass0 (pa_cons (pe_fld (pv 0) rfl) (pa_cons (pv 3) pa_nil))))
      (pss_one (ps_ret (pe_meth (pv 0) Y.cl_House Y.m_House_keep.me (ok_House_keep Y) (hr.mono (by decide)) Y.m_House_keep.bd .nil pass0 (pa_cons (pe_call (ok_put_in Y) (hr.mono (by decide)) rfl Y.g_put_in.at_ Y.g_put_in.fn.kp Y.g_put_in.bd .nil pass0 (pa_cons (pe_fld (pv 0) rfl) (pa_cons (pv 4) (pa_cons (pv 2) (pa_cons (pv 6) pa_nil))))) (pa_cons (pv 5) pa_nil)))))))))))), ?_⟩
    obtain ⟨dA, eA⟩ := hA.ob
    have nCM : C ≠ M := by
      obtain ⟨dM, eM⟩ := hA.mkr
      exact ne_of hC eM (by intro z; cases z)
    refine ⟨_, rfl, A, dA, _, rfl, eA, rfl, _, rfl, ?_⟩
    refine ⟨A, M, L, n, v, ts, rfl, hA, _, rfl, ?_⟩
    refine ite2 (fun c => ?_) (fun c => ?_)
    · have c' : vs_none ts v := by simpa [vs_none] using c
      refine ⟨(by show 1 ≤ sizeLine; decide), fun q hq => ?_⟩
      exact k.no hA R (Ph.step_insert_no R c' p x) hq
    · have c' : v < ts.length := by simpa using c
      obtain ⟨o, ho⟩ : ∃ o, ts[v]? = some o := ⟨_, List.getElem?_eq_getElem c'⟩
      obtain ⟨xs, w1, e1, e2, ro⟩ := hA.get ho
      obtain ⟨oko, szo⟩ := R.okv ho
      obtain ⟨ml1, ml2, ml3⟩ := R.made_le
      refine ⟨_, rfl, ?_⟩
      refine fTrees Y hA ?_
      refine ⟨_, rfl, L, _, _, _, rfl, rfl, SqL.of e1, atI_nat (j := v) e2, ?_⟩
      dsimp only [gName]
      refine seqIf_or (b1 := decide (((Ph.sizeO o : Nat) : Int) < ((p : Nat) : Int))) (b2 := (decide ((200 : Int) < ((x.length : Nat) : Int)) || x.any (fun b => decide (255 < b)))) (fun Q q => ?_) (fun _ Q q => ?_) ?_
      · refine ⟨_, rfl, ?_⟩
        refine ⟨_, rfl, ?_⟩
        exact ⟨w1, o, rfl, ro, _, _, rfl, rfl, _, rfl, q⟩
      · refine or2 (b1 := decide ((200 : Int) < ((x.length : Nat) : Int))) (b2 := x.any (fun b => decide (255 < b))) (fun Q q => ?_) (fun _ Q q => ?_) q
        · refine ⟨_, rfl, C, _, rfl, .inl (SqL.of hC), _, _, rfl, rfl, _, rfl, ?_⟩
          rw [List.length_map]
          exact q
        · refine ⟨_, rfl, ?_⟩
          refine ⟨C, Ph.ofN x, 0, rfl, rfl, by rw [← map_vI]; exact SqL.of hC, fun z => ?_, fun m h1 h2 => ?_⟩
          · have x0 : x = [] := List.map_eq_nil_iff.mp z
            subst x0
            exact ⟨_, _, rfl, rfl, _, rfl, q⟩
          · refine ⟨_, _, rfl, rfl, _, rfl, ?_⟩
            rw [max_any h1 h2]
            exact q
      refine ite2 (fun d => ?_) (fun d => ?_)
      · refine ⟨(by show 1 ≤ sizeLine; decide), fun q hq => ?_⟩
        refine k.no hA R (Ph.step_insert_bad R ho ?_) hq
        rw [Bool.or_eq_true, Bool.or_eq_true] at d
        rcases d with d | d | d
        · left
          have := of_decide_eq_true d
          omega
        · right; left
          have := of_decide_eq_true d
          omega
        · right; right
          obtain ⟨b, hb, e⟩ := List.any_eq_true.mp d
          exact ⟨b, hb, of_decide_eq_true e⟩
      · rw [Bool.or_eq_true, Bool.or_eq_true, not_or, not_or] at d
        obtain ⟨d1, d2, d3⟩ := d
        have d1' : p ≤ Ph.sizeO o := by
          by_cases z : p ≤ Ph.sizeO o
          · exact z
          · exact absurd (decide_eq_true (by omega)) d1
        have d2' : x.length ≤ 200 := by
          by_cases z : x.length ≤ 200
          · exact z
          · exact absurd (decide_eq_true (by omega)) d2
        have d3' : ∀ b, b ∈ x → b ≤ 255 := fun b hb => by
          by_cases z : b ≤ 255
          · exact z
          · exact absurd (List.any_eq_true.mpr ⟨b, hb, decide_eq_true (by omega)⟩) d3
        obtain ⟨f5, f6⟩ := Ph.step_insert_full R ho d1' d2' d3'
        refine ⟨_, rfl, A, dA, _, rfl, eA, rfl, ?_⟩
        refine ⟨A, M, L, n, ts, rfl, hA, _, rfl, ?_⟩
        refine ite2 (fun e => ?_) (fun e => ?_)
        · refine ⟨(by show 1 ≤ sizeLine; decide), fun q hq => ?_⟩
          exact k.no hA R (f5 (of_decide_eq_true e)) hq
        · have e' : ts.length < 60 := by
            by_cases z : ts.length < 60
            · exact z
            · exact absurd (decide_eq_true (by omega)) e
          refine ⟨_, rfl, ?_⟩
          refine ⟨w1, o, rfl, ro, ?_⟩
          refine ⟨_, rfl, C, _, rfl, .inl (SqL.of hC), ?_⟩
          rw [List.length_map]
          refine ⟨_, _, rfl, rfl, _, _, rfl, rfl, _, rfl, ?_⟩
          refine ite2 (fun f => ?_) (fun f => ?_)
          · refine ⟨(by show 1 ≤ sizeLine; decide), fun q hq => ?_⟩
            refine k.no hA R (f6 e' ?_) hq
            have := of_decide_eq_true f
            omega
          · have f' : Ph.sizeO o + x.length ≤ 2 ^ 40 := by
              by_cases z : Ph.sizeO o + x.length ≤ 2 ^ 40
              · exact z
              · exact absurd (decide_eq_true (by omega)) f
            obtain ⟨N, s1, s2, s3, s4⟩ := Ph.step_insert R ho d1' d2' d3' e' f'
            have bk := Ph.built_ok (x.length + 1) n none x (by omega) True.intro (by simp [Ph.sizeO]; omega)
            have sm : Ph.sizeO (Ph.built (x.length + 1) n none x).1 = x.length := by rw [← Ph.sizeO_bytes, bk.bytes]; rfl
            obtain ⟨t1, t2, t3⟩ := s1.made_le
            rw [List.length_append, List.length_cons, List.length_nil] at t1
            refine ⟨_, rfl, ?_⟩
            refine fMaker Y hA ?_
            refine fMade Y hA.mkr ?_
            refine ⟨_, rfl, ?_⟩
            refine fMaker Y hA ?_
            refine ⟨_, rfl, ?_⟩
            refine ⟨M, C, n, x, rfl, hA.mkr, hC, d2', fun H1 v1 m1 r1 k1 => ?_⟩
            have hA1 := hA.kept Y k1 m1
            obtain ⟨dA1, eA1⟩ := hA1.ob
            refine ⟨_, rfl, A, dA1, _, rfl, eA1, rfl, ?_⟩
            refine ⟨_, rfl, ?_⟩
            refine fMaker Y hA1 ?_
            refine ⟨_, rfl, _, rfl, _, rfl, ?_⟩
            refine ⟨M, w1, v1, p, _, o, _, rfl, m1, ro.mono Y k1 hA.mkr, r1, oko, bk.ok, by rw [sm]; exact f', fun H2 v2 m2 r2 k2 => ?_⟩
            have k12 := k1.trans k2
            have hA2 := hA.kept Y k12 m2
            refine ⟨_, rfl, ?_⟩
            refine ⟨A, M, L, _, n, _, ts, v2, _, rfl, hA2, r2, s4, by omega, by omega, fun H3 q N' c3 hA3 hq hq0 kh => ?_⟩
            have eN : N' = N := c3.unique s3
            subst eN
            refine k H3 q _ _ hA3 s1 ?_ (free12 k12 hA.mkr m2 hq0) ((KeepH.of k12).trans kh)
            rw [hq, s2]
            rfl
theorem sc_delete_answer : FnScope ["house", "version", "begin", "end", "tree", "earlier"] ["house", "version", "begin", "end"] (defScope s_delete_answer) := ⟨rfl, rfl, rfl, by decide +kernel, rfl, by decide +kernel, by decide +kernel⟩
def spDelete (c : Cs) : Sp := fun vs H Q _ => ∃ (A M L : Addr) (n v a b : Nat) (ts : List (Option Ph.T)) (g : Ue01.St), vs = [.ref A, .int ((v : Nat) : Int), .int ((a : Nat) : Int), .int ((b : Nat) : Int)] ∧ HouseAt c H A M L n ts ∧ Ph.Rel g n ts ∧
  PostH c A M L H (Ue01.step g (.delete v a b)) Q
theorem ok_delete_answer (Y : TX K mg) : FnOk P w K mg base CX0 11 Y.f_delete_answer Y.d_delete_answer ["house", "version", "begin", "end"] (spDelete Y.toCs) := by
  refine Y.g_delete_answer.fn.ok sc_delete_answer (fun vs H Q E h => ?_) (fun cdv A outer s H vs Q E hr h => ?_)
  · obtain ⟨A, M, L, n, v, a, b, ts, g, rfl, _⟩ := h
    rfl
  · obtain ⟨A, M, L, n, v, a, b, ts, g, rfl, hA, R, k⟩ := h
    refine ⟨_, (pss_cons (ps_if (pt_not (pt_val (pe_meth (pv 0) Y.cl_House Y.m_House_has.me (ok_House_has Y) (hr.mono (by decide)) Y.m_House_has.bd .nil pass0 (pa_cons (pv 1) pa_nil)))) (pss_one (ps_ret (pe_lst (pa_cons (pe_gint rfl Y.c_NO_VERSION) pa_nil)))) pss_nil)
      (pss_cons (ps_set (i := 4) sc_delete_answer.nd rfl (Or.inl rfl) (pe_ix ix_list (pe_fld (pv 0) rfl) (pv 1) (fun _ _ => rfl)))
      (pss_cons (ps_if (pt_not (pt_val (pe_call (ok_is_range Y) (hr.mono (by decide)) rfl Y.g_is_range.at_ Y.g_is_range.fn.kp Y.g_is_range.bd .nil pass0 (pa_cons (pv 4) (pa_cons (pv 2) (pa_cons (pv 3) pa_nil)))))) (pss_one (ps_ret (pe_lst (pa_cons (pe_gint rfl Y.c_UNFIT) pa_nil)))) pss_nil)
      (pss_cons (ps_if (pt_val (pe_meth0 (pv 0) Y.cl_House Y.m_House_is_full.me (ok_House_is_full Y) (hr.mono (by decide)) Y.m_House_is_full.bd .nil pass0)) (pss_one (ps_ret (pe_lst (pa_cons (pe_gint rfl Y.c_NO_ROOM) pa_nil)))) pss_nil)
      (pss_cons (ps_set (i := 5) sc_delete_answer.nd rfl (Or.inl rfl) (pe_fld (pe_fld (pv 0) rfl) rfl))
      (pss_one (ps_ret (pe_meth (pv 0) Y.cl_House Y.m_House_keep.me (ok_House_keep Y) (hr.mono (by decide)) Y.m_House_keep.bd .nil pass0 (pa_cons (pe_call (ok_taken_out Y) (hr.mono (by decide)) rfl Y.g_taken_out.at_ Y.g_taken_out.fn.kp Y.g_taken_out.bd .nil pass0 (pa_cons (pe_fld (pv 0) rfl) (pa_cons (pv 4) (pa_cons (pv 2) (pa_cons (pv 3) pa_nil))))) (pa_cons (pv 5) pa_nil)))))))))), ?_⟩
    obtain ⟨dA, eA⟩ := hA.ob
    refine ⟨_, rfl, A, dA, _, rfl, eA, rfl, _, rfl, ?_⟩
    refine ⟨A, M, L, n, v, ts, rfl, hA, _, rfl, ?_⟩
    refine ite2 (fun c => ?_) (fun c => ?_)
    · have c' : vs_none ts v := by simpa [vs_none] using c
      refine ⟨(by show 1 ≤ sizeLine; decide), fun q hq => ?_⟩
      exact k.no hA R (Ph.step_delete_no R c' a b) hq
    · have c' : v < ts.length := by simpa using c
      obtain ⟨o, ho⟩ : ∃ o, ts[v]? = some o := ⟨_, List.getElem?_eq_getElem c'⟩
      obtain ⟨xs, w1, e1, e2, ro⟩ := hA.get ho
      obtain ⟨oko, szo⟩ := R.okv ho
      refine ⟨_, rfl, ?_⟩
      refine fTrees Y hA ?_
      refine ⟨_, rfl, L, _, _, _, rfl, rfl, SqL.of e1, atI_nat (j := v) e2, ?_⟩
      refine ⟨_, rfl, _, rfl, _, rfl, ?_⟩
      refine ⟨w1, o, a, b, rfl, ro, _, rfl, ?_⟩
      refine ite2 (fun d => ?_) (fun d => ?_)
      · refine ⟨(by show 1 ≤ sizeLine; decide), fun q hq => ?_⟩
        refine k.no hA R (Ph.step_delete_bad R ho ?_) hq
        by_cases z : b < a ∨ Ph.sizeO o < b
        · exact z
        · exfalso
          rw [not_or] at z
          have z1 : decide (a ≤ b) = true := decide_eq_true (by omega)
          have z2 : decide (b ≤ Ph.sizeO o) = true := decide_eq_true (by omega)
          rw [z1, z2] at d
          cases d
      · have d' : a ≤ b ∧ b ≤ Ph.sizeO o := by
          have d2 : (decide (a ≤ b) && decide (b ≤ Ph.sizeO o)) = true := by simpa using d
          rw [Bool.and_eq_true] at d2
          exact ⟨of_decide_eq_true d2.1, of_decide_eq_true d2.2⟩
        refine ⟨_, rfl, A, dA, _, rfl, eA, rfl, ?_⟩
        refine ⟨A, M, L, n, ts, rfl, hA, _, rfl, ?_⟩
        refine ite2 (fun e => ?_) (fun e => ?_)
        · refine ⟨(by show 1 ≤ sizeLine; decide), fun q hq => ?_⟩
          exact k.no hA R (Ph.step_delete_full R ho d'.1 d'.2 (of_decide_eq_true e)) hq
        · have e' : ts.length < 60 := by
            by_cases z : ts.length < 60
            · exact z
            · exact absurd (decide_eq_true (by omega)) e
          obtain ⟨N, s1, s2, s3, s4⟩ := Ph.step_delete R ho d'.1 d'.2 e'
          obtain ⟨t1, t2, t3⟩ := s1.made_le
          rw [List.length_append, List.length_cons, List.length_nil] at t1
          refine ⟨_, rfl, ?_⟩
          refine fMaker Y hA ?_
          refine fMade Y hA.mkr ?_
          refine ⟨_, rfl, A, dA, _, rfl, eA, rfl, ?_⟩
          refine ⟨_, rfl, ?_⟩
          refine fMaker Y hA ?_
          refine ⟨_, rfl, _, rfl, _, rfl, ?_⟩
          refine ⟨M, w1, a, b, n, o, rfl, hA.mkr, ro, oko, szo, d'.1, fun H2 v2 m2 r2 k2 => ?_⟩
          have hA2 := hA.kept Y k2 m2
          refine ⟨_, rfl, ?_⟩
          refine ⟨A, M, L, _, n, _, ts, v2, _, rfl, hA2, r2, s4, by omega, by omega, fun H3 q N' c3 hA3 hq hq0 kh => ?_⟩
          have eN : N' = N := c3.unique s3
          subst eN
          refine k H3 q _ _ hA3 s1 ?_ (free12 k2 hA.mkr m2 hq0) ((KeepH.of k2).trans kh)
          rw [hq, s2]
          rfl
theorem sc_copy_answer : FnScope ["house", "version", "begin", "end", "into", "place", "source", "target", "earlier", "middle"] ["house", "version", "begin", "end", "into", "place"] (defScope s_copy_answer) := ⟨rfl, rfl, rfl, by decide +kernel, rfl, by decide +kernel, by decide +kernel⟩
def spCopy (c : Cs) : Sp := fun vs H Q _ => ∃ (A M L : Addr) (n v a b u p : Nat) (ts : List (Option Ph.T)) (g : Ue01.St), vs = [.ref A, .int ((v : Nat) : Int), .int ((a : Nat) : Int), .int ((b : Nat) : Int), .int ((u : Nat) : Int), .int ((p : Nat) : Int)] ∧ HouseAt c H A M L n ts ∧ Ph.Rel g n ts ∧
  PostH c A M L H (Ue01.step g (.copy v a b u p)) Q
theorem ok_copy_answer (Y : TX K mg) : FnOk P w K mg base CX0 11 Y.f_copy_answer Y.d_copy_answer ["house", "version", "begin", "end", "into", "place"] (spCopy Y.toCs) := by
  refine Y.g_copy_answer.fn.ok sc_copy_answer (fun vs H Q E h => ?_) (fun cdv A outer s H vs Q E hr h => ?_)
  · obtain ⟨A, M, L, n, v, a, b, u, p, ts, g, rfl, _⟩ := h
    rfl
  · obtain ⟨A, M, L, n, v, a, b, u, p, ts, g, rfl, hA, R, k⟩ := h
    refine ⟨_, (pss_cons (ps_if (PW.pt (pw_or (pt_not (pt_val (pe_meth (pv 0) Y.cl_House Y.m_House_has.me (ok_House_has Y) (hr.mono (by decide)) Y.m_House_has.bd .nil pass0 (pa_cons (pv 1) pa_nil)))) (pw_or1 (pt_not (pt_val (pe_meth (pv 0) Y.cl_House Y.m_House_has.me (ok_House_has Y) (hr.mono (by decide)) Y.m_House_has.bd .nil pass0 (pa_cons (pv 4) pa_nil))))))) (pss_one (ps_ret (pe_lst (pa_cons (pe_gint rfl Y.c_NO_VERSION) pa_nil)))) pss_nil)
      (pss_cons (ps_set (i := 6) sc_copy_answer.nd rfl (Or.inl rfl) (pe_ix ix_list (pe_fld (pv 0) rfl) (pv 1) (fun _ _ => rfl)))
      (pss_cons (ps_set (i := 7) sc_copy_answer.nd rfl (Or.inl rfl) (pe_ix ix_list (pe_fld (pv 0) rfl) (pv 4) (fun _ _ => rfl)))
      (pss_cons (ps_if (PW.pt (pw_or (pt_not (pt_val (pe_call (ok_is_range Y) (hr.mono (by decide)) rfl Y.g_is_range.at_ Y.g_is_range.fn.kp Y.g_is_range.bd .nil pass0 (pa_cons (pv 6) (pa_cons (pv 2) (pa_cons (pv 3) pa_nil)))))) (pw_or1 (pt_cmpR op_gt (pv 5) (pe_call (ok_size_of Y) (hr.mono (by decide)) rfl Y.g_size_of.at_ Y.g_size_of.fn.kp Y.g_size_of.bd .nil pass0 (pa_cons (pv 7) pa_nil)) (nomark _))))) (pss_one (ps_ret (pe_lst (pa_cons (pe_gint rfl Y.c_UNFIT) pa_nil)))) pss_nil)
      (pss_cons (ps_if (pt_val (pe_meth0 (pv 0) Y.cl_House Y.m_House_is_full.me (ok_House_is_full Y) (hr.mono (by decide)) Y.m_House_is_full.bd .nil pass0)) (pss_one (ps_ret (pe_lst (pa_cons (pe_gint rfl Y.c_NO_ROOM) pa_nil)))) pss_nil)
      (pss_cons (ps_if (pt_cmpR op_gt (pe_op op_sub (pe_op op_add (pe_call (ok_size_of Y) (hr.mono (by decide)) rfl Y.g_size_of.at_ Y.g_size_of.fn.kp Y.g_size_of.bd .nil pass0 (pa_cons (pv 7) pa_nil)) (pv 3)) (pv 2)) (pe_gint rfl Y.c_MOST_BYTES) (nomark _)) (pss_one (ps_ret (pe_lst (pa_cons (pe_gint rfl Y.c_TOO_LONG) pa_nil)))) pss_nil)
      (pss_cons (ps_set (i := 8) sc_copy_answer.nd rfl (Or.inl rfl) (pe_fld (pe_fld (pv 0) rfl) rfl))
      (pss_cons (ps_set (i := 9) sc_copy_answer.nd rfl (Or.inl rfl) (pe_call (ok_cut Y) (hr.mono (by decide)) rfl Y.g_cut.at_ Y.g_cut.fn.kp Y.g_cut.bd .nil pass0 (pa_cons (pe_fld (pv 0) rfl) (pa_cons (pv 6) (pa_cons (pv 2) (pa_cons (pv 3) pa_nil))))))
      (pss_one (ps_ret (pe_meth (pv 0) Y.cl_House Y.m_House_keep.me (ok_House_keep Y) (hr.mono (by decide)) Y.m_House_keep.bd .nil pass0 (pa_cons (pe_call (ok_put_in Y) (hr.mono (by decide)) rfl Y.g_put_in.at_ Y.g_put_in.fn.kp Y.g_put_in.bd .nil pass0 (pa_cons (pe_fld (pv 0) rfl) (pa_cons (pv 7) (pa_cons (pv 5) (pa_cons (pv 9) pa_nil))))) (pa_cons (pv 8) pa_nil))))))))))))), ?_⟩
    obtain ⟨dA, eA⟩ := hA.ob
    refine seqIf_or (b1 := !decide (v < ts.length)) (b2 := !decide (u < ts.length)) (fun Q q => ?_) (fun _ Q q => ?_) ?_
    · refine ⟨_, rfl, A, dA, _, rfl, eA, rfl, _, rfl, ?_⟩
      exact ⟨A, M, L, n, v, ts, rfl, hA, _, rfl, q⟩
    · refine ⟨_, rfl, A, dA, _, rfl, eA, rfl, _, rfl, ?_⟩
      exact ⟨A, M, L, n, u, ts, rfl, hA, _, rfl, q⟩
    refine ite2 (fun c => ?_) (fun c => ?_)
    · refine ⟨(by show 1 ≤ sizeLine; decide), fun q hq => ?_⟩
      refine k.no hA R (Ph.step_copy_no R ?_ a b p) hq
      rw [Bool.or_eq_true] at c
      rcases c with c | c
      · left; simpa using c
      · right; simpa using c
    · have c' : v < ts.length ∧ u < ts.length := by
        rw [Bool.or_eq_true, not_or] at c
        exact ⟨by simpa using c.1, by simpa using c.2⟩
      obtain ⟨o, ho⟩ : ∃ o, ts[v]? = some o := ⟨_, List.getElem?_eq_getElem c'.1⟩
      obtain ⟨o', ho'⟩ : ∃ o, ts[u]? = some o := ⟨_, List.getElem?_eq_getElem c'.2⟩
      obtain ⟨xs, w1, e1, e2, ro⟩ := hA.get ho
      obtain ⟨xs', w1', e1', e2', ro'⟩ := hA.get ho'
      obtain ⟨oko, szo⟩ := R.okv ho
      obtain ⟨oko', szo'⟩ := R.okv ho'
      refine ⟨_, rfl, ?_⟩
      refine fTrees Y hA ?_
      refine ⟨_, rfl, L, _, _, _, rfl, rfl, SqL.of e1, atI_nat (j := v) e2, ?_⟩
      refine ⟨_, rfl, ?_⟩
      refine fTrees Y hA ?_
      refine ⟨_, rfl, L, _, _, _, rfl, rfl, SqL.of e1', atI_nat (j := u) e2', ?_⟩
      dsimp only [gName]
      refine seqIf_or (b1 := !(decide (a ≤ b) && decide (b ≤ Ph.sizeO o))) (b2 := decide (((Ph.sizeO o' : Nat) : Int) < ((p : Nat) : Int))) (fun Q q => ?_) (fun _ Q q => ?_) ?_
      · refine ⟨_, rfl, _, rfl, _, rfl, ?_⟩
        exact ⟨w1, o, a, b, rfl, ro, _, rfl, q⟩
      · refine ⟨_, rfl, ?_⟩
        refine ⟨_, rfl, ?_⟩
        exact ⟨w1', o', rfl, ro', _, _, rfl, rfl, _, rfl, q⟩
      refine ite2 (fun d => ?_) (fun d => ?_)
      · refine ⟨(by show 1 ≤ sizeLine; decide), fun q hq => ?_⟩
        refine k.no hA R (Ph.step_copy_bad R ho ho' ?_) hq
        by_cases z : b < a ∨ Ph.sizeO o < b ∨ Ph.sizeO o' < p
        · exact z
        · exfalso
          rw [not_or, not_or] at z
          have z1 : decide (a ≤ b) = true := decide_eq_true (by omega)
          have z2 : decide (b ≤ Ph.sizeO o) = true := decide_eq_true (by omega)
          have z3 : decide (((Ph.sizeO o' : Nat) : Int) < ((p : Nat) : Int)) = false := decide_eq_false (by omega)
          rw [z1, z2, z3] at d
          cases d
      · have d' : (a ≤ b ∧ b ≤ Ph.sizeO o) ∧ p ≤ Ph.sizeO o' := by
          rw [Bool.or_eq_true, not_or] at d
          obtain ⟨d1, d2⟩ := d
          have d3 : (decide (a ≤ b) && decide (b ≤ Ph.sizeO o)) = true := by simpa using d1
          rw [Bool.and_eq_true] at d3
          refine ⟨⟨of_decide_eq_true d3.1, of_decide_eq_true d3.2⟩, ?_⟩
          by_cases z : p ≤ Ph.sizeO o'
          · exact z
          · exact absurd (decide_eq_true (by omega)) d2
        obtain ⟨f5, f6⟩ := Ph.step_copy_full R ho ho' d'.1.1 d'.1.2 d'.2
        refine ⟨_, rfl, A, dA, _, rfl, eA, rfl, ?_⟩
        refine ⟨A, M, L, n, ts, rfl, hA, _, rfl, ?_⟩
        refine ite2 (fun e => ?_) (fun e => ?_)
        · refine ⟨(by show 1 ≤ sizeLine; decide), fun q hq => ?_⟩
          exact k.no hA R (f5 (of_decide_eq_true e)) hq
        · have e' : ts.length < 60 := by
            by_cases z : ts.length < 60
            · exact z
            · exact absurd (decide_eq_true (by omega)) e
          refine ⟨_, rfl, ?_⟩
          refine ⟨w1', o', rfl, ro', ?_⟩
          refine ⟨_, rfl, _, _, rfl, rfl, ?_⟩
          refine ⟨_, rfl, _, _, rfl, rfl, _, _, rfl, rfl, _, rfl, ?_⟩
          refine ite2 (fun f => ?_) (fun f => ?_)
          · refine ⟨(by show 1 ≤ sizeLine; decide), fun q hq => ?_⟩
            refine k.no hA R (f6 e' ?_) hq
            have := of_decide_eq_true f
            omega
          · have f' : Ph.sizeO o' + (b - a) ≤ 2 ^ 40 := by
              by_cases z : Ph.sizeO o' + (b - a) ≤ 2 ^ 40
              · exact z
              · exact absurd (decide_eq_true (by omega)) f
            obtain ⟨N, s1, s2, s3, s4⟩ := Ph.step_copy R ho ho' d'.1.1 d'.1.2 d'.2 e' f'
            have ck := Ph.cut_ok (n := n) (a := a) (b := b) oko szo
            have sm : Ph.sizeO (Ph.cut Ph.sewC n o a b).1 = b - a := by
              rw [← Ph.sizeO_bytes, ck.bytes, List.length_drop, List.length_take, Ph.sizeO_bytes]; omega
            obtain ⟨t1, t2, t3⟩ := s1.made_le
            rw [List.length_append, List.length_cons, List.length_nil] at t1
            refine ⟨_, rfl, ?_⟩
            refine fMaker Y hA ?_
            refine fMade Y hA.mkr ?_
            refine ⟨_, rfl, ?_⟩
            refine fMaker Y hA ?_
            refine ⟨_, rfl, _, rfl, _, rfl, ?_⟩
            refine ⟨M, w1, a, b, n, o, rfl, hA.mkr, ro, oko, szo, fun H1 v1 m1 r1 k1 => ?_⟩
            have hA1 := hA.kept Y k1 m1
            obtain ⟨dA1, eA1⟩ := hA1.ob
            refine ⟨_, rfl, A, dA1, _, rfl, eA1, rfl, ?_⟩
            refine ⟨_, rfl, ?_⟩
            refine fMaker Y hA1 ?_
            refine ⟨_, rfl, _, rfl, _, rfl, ?_⟩
            refine ⟨M, w1', v1, p, _, o', _, rfl, m1, ro'.mono Y k1 hA.mkr, r1, oko', ck.ok, by rw [sm]; exact f', fun H2 v2 m2 r2 k2 => ?_⟩
            have k12 := k1.trans k2
            have hA2 := hA.kept Y k12 m2
            refine ⟨_, rfl, ?_⟩
            refine ⟨A, M, L, _, n, _, ts, v2, _, rfl, hA2, r2, s4, by omega, by omega, fun H3 q N' c3 hA3 hq hq0 kh => ?_⟩
            have eN : N' = N := c3.unique s3
            subst eN
            refine k H3 q _ _ hA3 s1 ?_ (free12 k12 hA.mkr m2 hq0) ((KeepH.of k12).trans kh)
            rw [hq, s2]
            rfl
end
end Pw
set_option Elab.async false
set_option linter.all false
set_option maxRecDepth 100000
namespace Pw
open PySem PySem.Spec PyProof.Rows L2
theorem ints_ofN (w : List Nat) : Ue01.ints w = Ph.ofN w := rfl
section
variable {P : Program} {w : World} {K : PySem.W.Frag} {mg : Str → Option Value} {base : Heap}
theorem sc_part_answer : FnScope ["house", "version", "begin", "end", "tree"] ["house", "version", "begin", "end"] (defScope s_part_answer) := ⟨rfl, rfl, rfl, by decide +kernel, rfl, by decide +kernel, by decide +kernel⟩
def spPart (c : Cs) : Sp := fun vs H Q _ => ∃ (A M L : Addr) (n v a b : Nat) (ts : List (Option Ph.T)) (g : Ue01.St), vs = [.ref A, .int ((v : Nat) : Int), .int ((a : Nat) : Int), .int ((b : Nat) : Int)] ∧ HouseAt c H A M L n ts ∧ Ph.Rel g n ts ∧
  PostH c A M L H (Ue01.step g (.part v a b)) Q
theorem ok_part_answer (Y : TX K mg) : FnOk P w K mg base CX0 11 Y.f_part_answer Y.d_part_answer ["house", "version", "begin", "end"] (spPart Y.toCs) := by
  refine Y.g_part_answer.fn.ok sc_part_answer (fun vs H Q E h => ?_) (fun cdv A outer s H vs Q E hr h => ?_)
  · obtain ⟨A, M, L, n, v, a, b, ts, g, rfl, _⟩ := h
    rfl
  · obtain ⟨A, M, L, n, v, a, b, ts, g, rfl, hA, R, k⟩ := h
    refine ⟨_, (pss_cons (ps_if (pt_not (pt_val (pe_meth (pv 0) Y.cl_House Y.m_House_has.me (ok_House_has Y) (hr.mono (by decide)) Y.m_House_has.bd .nil pass0 (pa_cons (pv 1) pa_nil)))) (pss_one (ps_ret (pe_lst (pa_cons (pe_gint rfl Y.c_NO_VERSION) pa_nil)))) pss_nil)
      (pss_cons (ps_set (i := 4) sc_part_answer.nd rfl (Or.inl rfl) (pe_ix ix_list (pe_fld (pv 0) rfl) (pv 1) (fun _ _ => rfl)))
      (pss_cons (ps_if (PW.pt (pw_or (pt_not (pt_val (pe_call (ok_is_range Y) (hr.mono (by decide)) rfl Y.g_is_range.at_ Y.g_is_range.fn.kp Y.g_is_range.bd .nil pass0 (pa_cons (pv 4) (pa_cons (pv 2) (pa_cons (pv 3) pa_nil)))))) (pw_or1 (pt_cmpR op_gt (pe_op op_sub (pv 3) (pv 2)) (pe_gint rfl Y.c_MOST_AT_ONCE) (nomark _))))) (pss_one (ps_ret (pe_lst (pa_cons (pe_gint rfl Y.c_UNFIT) pa_nil)))) pss_nil)
      (pss_one (ps_ret (pe_op op_cat (pe_lst (pa_cons (pe_op op_sub (pv 3) (pv 2)) pa_nil)) (pe_call (ok_bytes_between Y) (hr.mono (by decide)) rfl Y.g_bytes_between.at_ Y.g_bytes_between.fn.kp Y.g_bytes_between.bd .nil pass0 (pa_cons (pv 4) (pa_cons (pv 2) (pa_cons (pv 3) pa_nil)))))))))), ?_⟩
    obtain ⟨dA, eA⟩ := hA.ob
    refine ⟨_, rfl, A, dA, _, rfl, eA, rfl, _, rfl, ?_⟩
    refine ⟨A, M, L, n, v, ts, rfl, hA, _, rfl, ?_⟩
    refine ite2 (fun c => ?_) (fun c => ?_)
    · have c' : vs_none ts v := by simpa [vs_none] using c
      refine ⟨(by show 1 ≤ sizeLine; decide), fun q hq => ?_⟩
      exact k.no hA R ((Ph.step_read_no R c').1 a b) hq
    · have c' : v < ts.length := by simpa using c
      obtain ⟨o, ho⟩ : ∃ o, ts[v]? = some o := ⟨_, List.getElem?_eq_getElem c'⟩
      obtain ⟨xs, w1, e1, e2, ro⟩ := hA.get ho
      obtain ⟨oko, szo⟩ := R.okv ho
      have sp := Ph.step_part R ho a b
      refine ⟨_, rfl, ?_⟩
      refine fTrees Y hA ?_
      refine ⟨_, rfl, L, _, _, _, rfl, rfl, SqL.of e1, atI_nat (j := v) e2, ?_⟩
      dsimp only [gName]
      refine seqIf_or (b1 := !(decide (a ≤ b) && decide (b ≤ Ph.sizeO o))) (b2 := decide ((200 : Int) < ((b : Nat) : Int) - ((a : Nat) : Int))) (fun Q q => ?_) (fun _ Q q => ?_) ?_
      · refine ⟨_, rfl, _, rfl, _, rfl, ?_⟩
        exact ⟨w1, o, a, b, rfl, ro, _, rfl, q⟩
      · exact ⟨_, rfl, _, rfl, _, _, rfl, rfl, _, _, rfl, rfl, _, rfl, q⟩
      refine ite2 (fun d => ?_) (fun d => ?_)
      · refine ⟨(by show 1 ≤ sizeLine; decide), fun q hq => ?_⟩
        refine k.no (z := -1) hA R ?_ hq
        rw [sp, if_pos]
        by_cases z : b < a ∨ Ph.sizeO o < b ∨ 200 < b - a
        · exact z
        · exfalso
          rw [not_or, not_or] at z
          have z1 : decide (a ≤ b) = true := decide_eq_true (by omega)
          have z2 : decide (b ≤ Ph.sizeO o) = true := decide_eq_true (by omega)
          have z3 : decide ((200 : Int) < ((b : Nat) : Int) - ((a : Nat) : Int)) = false := decide_eq_false (by omega)
          rw [z1, z2, z3] at d
          cases d
      · have d' : (a ≤ b ∧ b ≤ Ph.sizeO o) ∧ b - a ≤ 200 := by
          rw [Bool.or_eq_true, not_or] at d
          obtain ⟨d1, d2⟩ := d
          have d3 : (decide (a ≤ b) && decide (b ≤ Ph.sizeO o)) = true := by simpa using d1
          rw [Bool.and_eq_true] at d3
          have d4 := of_decide_eq_true d3.1
          refine ⟨⟨d4, of_decide_eq_true d3.2⟩, ?_⟩
          by_cases z : b - a ≤ 200
          · exact z
          · exact absurd (decide_eq_true (by omega)) d2
        rw [if_neg (by omega)] at sp
        rw [sp] at k
        refine ⟨_, rfl, _, rfl, _, _, rfl, rfl, (by show 1 ≤ sizeLine; decide), fun p hp => ?_⟩
        have e9 : ((b : Nat) : Int) - ((a : Nat) : Int) = ((b - a : Nat) : Int) := by omega
        have s1 : Same H (upd H p (.lst [.int ((b - a : Nat) : Int)])) := fun b' u q => by rw [upd_ne (ne_of_none q hp)]; exact q
        dsimp only
        rw [e9]
        refine ⟨_, rfl, _, rfl, _, rfl, ?_⟩
        refine ⟨w1, o, a, b, rfl, ro.same s1, oko, szo, d'.1.1, d'.1.2, by omega, fun H2 l hl hl0 s2 => ?_⟩
        refine ⟨p, l, _, _, rfl, rfl, s2 _ _ upd_same, hl, ?_, fun q hq => ?_⟩
        · rw [List.length_cons, List.length_nil, List.length_map, List.length_drop, List.length_take]
          exact Nat.le_of_lt (small1000 (by omega))
        · have s3 : Same H (upd H2 q (.lst ([.int ((b - a : Nat) : Int)] ++ (((Ph.bytesO o).take b).drop a).map vI))) := fun b' u q' => by
            rw [upd_ne (ne_of_none (s2 _ _ (s1 _ _ q')) hq)]; exact s2 _ _ (s1 _ _ q')
          refine k _ q n ts (hA.same s3) R ?_ ((s1.trans s2).free hq) (KeepH.of (Keep.of s3))
          rw [upd_same, List.map_cons, ints_ofN, ← map_vI]
          rfl
theorem sc_line_answer : FnScope ["house", "version", "line", "tree", "begin"] ["house", "version", "line"] (defScope s_line_answer) := ⟨rfl, rfl, rfl, by decide +kernel, rfl, by decide +kernel, by decide +kernel⟩
def spLine (c : Cs) : Sp := fun vs H Q _ => ∃ (A M L : Addr) (n v i : Nat) (ts : List (Option Ph.T)) (g : Ue01.St), vs = [.ref A, .int ((v : Nat) : Int), .int ((i : Nat) : Int)] ∧ HouseAt c H A M L n ts ∧ Ph.Rel g n ts ∧
  PostH c A M L H (Ue01.step g (.line v i)) Q
theorem ok_line_answer (Y : TX K mg) : FnOk P w K mg base CX0 11 Y.f_line_answer Y.d_line_answer ["house", "version", "line"] (spLine Y.toCs) := by
  refine Y.g_line_answer.fn.ok sc_line_answer (fun vs H Q E h => ?_) (fun cdv A outer s H vs Q E hr h => ?_)
  · obtain ⟨A, M, L, n, v, i, ts, g, rfl, _⟩ := h
    rfl
  · obtain ⟨A, M, L, n, v, i, ts, g, rfl, hA, R, k⟩ := h
    refine ⟨_, (pss_cons (ps_if (pt_not (pt_val (pe_meth (pv 0) Y.cl_House Y.m_House_has.me (ok_House_has Y) (hr.mono (by decide)) Y.m_House_has.bd .nil pass0 (pa_cons (pv 1) pa_nil)))) (pss_one (ps_ret (pe_lst (pa_cons (pe_gint rfl Y.c_NO_VERSION) pa_nil)))) pss_nil)
      (pss_cons (ps_set (i := 3) sc_line_answer.nd rfl (Or.inl rfl) (pe_ix ix_list (pe_fld (pv 0) rfl) (pv 1) (fun _ _ => rfl)))
      (pss_cons (ps_if (pt_cmpR op_gt (pv 2) (pe_call (ok_feeds_of Y) (hr.mono (by decide)) rfl Y.g_feeds_of.at_ Y.g_feeds_of.fn.kp Y.g_feeds_of.bd .nil pass0 (pa_cons (pv 3) pa_nil)) (nomark _)) (pss_one (ps_ret (pe_lst (pa_cons (pe_gint rfl Y.c_UNFIT) pa_nil)))) pss_nil)
      (pss_cons (ps_set (i := 4) sc_line_answer.nd rfl (Or.inl rfl) (pe_call (ok_line_begin Y) (hr.mono (by decide)) rfl Y.g_line_begin.at_ Y.g_line_begin.fn.kp Y.g_line_begin.bd .nil pass0 (pa_cons (pv 3) (pa_cons (pv 2) pa_nil))))
      (pss_one (ps_ret (pe_lst (pa_cons (pv 4) (pa_cons (pe_op op_sub (pe_call (ok_line_end Y) (hr.mono (by decide)) rfl Y.g_line_end.at_ Y.g_line_end.fn.kp Y.g_line_end.bd .nil pass0 (pa_cons (pv 3) (pa_cons (pv 2) pa_nil))) (pv 4)) pa_nil))))))))), ?_⟩
    obtain ⟨dA, eA⟩ := hA.ob
    refine ⟨_, rfl, A, dA, _, rfl, eA, rfl, _, rfl, ?_⟩
    refine ⟨A, M, L, n, v, ts, rfl, hA, _, rfl, ?_⟩
    refine ite2 (fun c => ?_) (fun c => ?_)
    · have c' : vs_none ts v := by simpa [vs_none] using c
      refine ⟨(by show 1 ≤ sizeLine; decide), fun q hq => ?_⟩
      exact k.no hA R ((Ph.step_read_no R c').2.1 i) hq
    · have c' : v < ts.length := by simpa using c
      obtain ⟨o, ho⟩ : ∃ o, ts[v]? = some o := ⟨_, List.getElem?_eq_getElem c'⟩
      obtain ⟨xs, w1, e1, e2, ro⟩ := hA.get ho
      obtain ⟨oko, szo⟩ := R.okv ho
      have sp := Ph.step_line R ho i
      refine ⟨_, rfl, ?_⟩
      refine fTrees Y hA ?_
      refine ⟨_, rfl, L, _, _, _, rfl, rfl, SqL.of e1, atI_nat (j := v) e2, ?_⟩
      refine ⟨_, rfl, ?_⟩
      refine ⟨_, rfl, ?_⟩
      refine ⟨w1, o, rfl, ro, _, _, rfl, rfl, _, rfl, ?_⟩
      refine ite2 (fun d => ?_) (fun d => ?_)
      · refine ⟨(by show 1 ≤ sizeLine; decide), fun q hq => ?_⟩
        refine k.no (z := -1) hA R ?_ hq
        have := of_decide_eq_true d
        rw [sp, if_pos (by omega)]
      · have d' : i ≤ (Ph.bytesO o).count 10 := by
          by_cases z : i ≤ (Ph.bytesO o).count 10
          · exact z
          · exact absurd (decide_eq_true (by omega)) d
        rw [if_neg (by omega)] at sp
        rw [sp] at k
        refine ⟨_, rfl, _, rfl, ?_⟩
        refine ⟨w1, o, i, rfl, ro, d', ?_⟩
        refine ⟨_, rfl, ?_⟩
        refine ⟨_, rfl, _, rfl, ?_⟩
        refine ⟨w1, o, i, rfl, ro, d', ?_⟩
        refine ⟨_, rfl, _, _, rfl, rfl, (by show 2 ≤ sizeLine; decide), fun q hq => ?_⟩
        refine k _ q n ts (hA.same fun b u q' => by rw [upd_ne (ne_of_none q' hq)]; exact q') R ?_ hq (KeepH.new hq)
        rw [upd_same]
        have e9 : (if i < (Ph.bytesO o).count 10 then ((Ph.startB (Ph.bytesO o) (i + 1) : Nat) : Int) - 1 else ((Ph.sizeO o : Nat) : Int)) - ((Ph.startB (Ph.bytesO o) i : Nat) : Int) =
            ((if i < (Ph.bytesO o).count 10 then Ph.startB (Ph.bytesO o) (i + 1) - 1 - Ph.startB (Ph.bytesO o) i else Ph.sizeO o - Ph.startB (Ph.bytesO o) i : Nat) : Int) := by
          obtain ⟨l1, l2⟩ := Ph.start_le (Ph.bytesO o) i d'
          rw [Ph.sizeO_bytes] at l1
          split
          · rename_i h
            have := l2 h
            omega
          · omega
        dsimp only
        rw [e9]
        rfl
end
end Pw
set_option Elab.async false
set_option linter.all false
set_option maxRecDepth 100000
namespace Pw
open PySem PySem.Spec PyProof.Rows L2
section
variable {P : Program} {w : World} {K : PySem.W.Frag} {mg : Str → Option Value} {base : Heap}
theorem sc_where_answer : FnScope ["house", "version", "place", "tree", "line"] ["house", "version", "place"] (defScope s_where_answer) := ⟨rfl, rfl, rfl, by decide +kernel, rfl, by decide +kernel, by decide +kernel⟩
def spWhere (c : Cs) : Sp := fun vs H Q _ => ∃ (A M L : Addr) (n v p : Nat) (ts : List (Option Ph.T)) (g : Ue01.St), vs = [.ref A, .int ((v : Nat) : Int), .int ((p : Nat) : Int)] ∧ HouseAt c H A M L n ts ∧ Ph.Rel g n ts ∧
  PostH c A M L H (Ue01.step g (.where_ v p)) Q
theorem ok_where_answer (Y : TX K mg) : FnOk P w K mg base CX0 11 Y.f_where_answer Y.d_where_answer ["house", "version", "place"] (spWhere Y.toCs) := by
  refine Y.g_where_answer.fn.ok sc_where_answer (fun vs H Q E h => ?_) (fun cdv A outer s H vs Q E hr h => ?_)
  · obtain ⟨A, M, L, n, v, p, ts, g, rfl, _⟩ := h
    rfl
  · obtain ⟨A, M, L, n, v, p, ts, g, rfl, hA, R, k⟩ := h
    refine ⟨_, (pss_cons (ps_if (pt_not (pt_val (pe_meth (pv 0) Y.cl_House Y.m_House_has.me (ok_House_has Y) (hr.mono (by decide)) Y.m_House_has.bd .nil pass0 (pa_cons (pv 1) pa_nil)))) (pss_one (ps_ret (pe_lst (pa_cons (pe_gint rfl Y.c_NO_VERSION) pa_nil)))) pss_nil)
      (pss_cons (ps_set (i := 3) sc_where_answer.nd rfl (Or.inl rfl) (pe_ix ix_list (pe_fld (pv 0) rfl) (pv 1) (fun _ _ => rfl)))
      (pss_cons (ps_if (pt_cmpR op_gt (pv 2) (pe_call (ok_size_of Y) (hr.mono (by decide)) rfl Y.g_size_of.at_ Y.g_size_of.fn.kp Y.g_size_of.bd .nil pass0 (pa_cons (pv 3) pa_nil)) (nomark _)) (pss_one (ps_ret (pe_lst (pa_cons (pe_gint rfl Y.c_UNFIT) pa_nil)))) pss_nil)
      (pss_cons (ps_set (i := 4) sc_where_answer.nd rfl (Or.inl rfl) (pe_call (ok_feeds_ahead Y) (hr.mono (by decide)) rfl Y.g_feeds_ahead.at_ Y.g_feeds_ahead.fn.kp Y.g_feeds_ahead.bd .nil pass0 (pa_cons (pv 3) (pa_cons (pv 2) pa_nil))))
      (pss_one (ps_ret (pe_lst (pa_cons (pv 4) (pa_cons (pe_op op_sub (pv 2) (pe_call (ok_line_begin Y) (hr.mono (by decide)) rfl Y.g_line_begin.at_ Y.g_line_begin.fn.kp Y.g_line_begin.bd .nil pass0 (pa_cons (pv 3) (pa_cons (pv 4) pa_nil)))) pa_nil))))))))), ?_⟩
    obtain ⟨dA, eA⟩ := hA.ob
    refine ⟨_, rfl, A, dA, _, rfl, eA, rfl, _, rfl, ?_⟩
    refine ⟨A, M, L, n, v, ts, rfl, hA, _, rfl, ?_⟩
    refine ite2 (fun c => ?_) (fun c => ?_)
    · have c' : vs_none ts v := by simpa [vs_none] using c
      refine ⟨(by show 1 ≤ sizeLine; decide), fun q hq => ?_⟩
      exact k.no hA R ((Ph.step_read_no R c').2.2.1 p) hq
    · have c' : v < ts.length := by simpa using c
      obtain ⟨o, ho⟩ : ∃ o, ts[v]? = some o := ⟨_, List.getElem?_eq_getElem c'⟩
      obtain ⟨xs, w1, e1, e2, ro⟩ := hA.get ho
      have sp := Ph.step_where R ho p
      refine ⟨_, rfl, ?_⟩
      refine fTrees Y hA ?_
      refine ⟨_, rfl, L, _, _, _, rfl, rfl, SqL.of e1, atI_nat (j := v) e2, ?_⟩
      refine ⟨_, rfl, ?_⟩
      refine ⟨_, rfl, ?_⟩
      refine ⟨w1, o, rfl, ro, _, _, rfl, rfl, _, rfl, ?_⟩
      refine ite2 (fun d => ?_) (fun d => ?_)
      · refine ⟨(by show 1 ≤ sizeLine; decide), fun q hq => ?_⟩
        refine k.no (z := -1) hA R ?_ hq
        have := of_decide_eq_true d
        rw [sp, if_pos (by omega)]
      · have d' : p ≤ Ph.sizeO o := by
          by_cases z : p ≤ Ph.sizeO o
          · exact z
          · exact absurd (decide_eq_true (by omega)) d
        rw [if_neg (by omega)] at sp
        rw [sp] at k
        obtain ⟨l1, l2⟩ := Ph.start_at (Ph.bytesO o) p
        refine ⟨_, rfl, _, rfl, ?_⟩
        refine ⟨w1, o, p, rfl, ro, fun H1 s1 => ?_⟩
        refine ⟨_, rfl, ?_⟩
        refine ⟨_, rfl, ?_⟩
        refine ⟨_, rfl, _, rfl, ?_⟩
        refine ⟨w1, o, _, rfl, ro.same s1, l2, ?_⟩
        refine ⟨_, _, rfl, rfl, (by show 2 ≤ sizeLine; decide), fun q hq => ?_⟩
        have s2 : ∀ x, Same H (upd H1 q x) := fun x b u q' => by rw [upd_ne (ne_of_none (s1 _ _ q') hq)]; exact s1 _ _ q'
        refine k _ q n ts (hA.same (s2 _)) R ?_ (s1.free hq) (KeepH.of (Keep.of (s2 _)))
        rw [upd_same]
        have e9 : ((p : Nat) : Int) - ((Ph.startB (Ph.bytesO o) (((Ph.bytesO o).take p).count 10) : Nat) : Int) = ((p - Ph.startB (Ph.bytesO o) (((Ph.bytesO o).take p).count 10) : Nat) : Int) := by omega
        dsimp only
        rw [e9]
        rfl
theorem sc_longest_answer : FnScope ["house", "version"] ["house", "version"] (defScope s_longest_answer) := ⟨rfl, rfl, rfl, by decide +kernel, rfl, by decide +kernel, by decide +kernel⟩
def spLongest (c : Cs) : Sp := fun vs H Q _ => ∃ (A M L : Addr) (n v : Nat) (ts : List (Option Ph.T)) (g : Ue01.St), vs = [.ref A, .int ((v : Nat) : Int)] ∧ HouseAt c H A M L n ts ∧ Ph.Rel g n ts ∧
  PostH c A M L H (Ue01.step g (.longest v)) Q
theorem ok_longest_answer (Y : TX K mg) : FnOk P w K mg base CX0 11 Y.f_longest_answer Y.d_longest_answer ["house", "version"] (spLongest Y.toCs) := by
  refine Y.g_longest_answer.fn.ok sc_longest_answer (fun vs H Q E h => ?_) (fun cdv A outer s H vs Q E hr h => ?_)
  · obtain ⟨A, M, L, n, v, ts, g, rfl, _⟩ := h
    rfl
  · obtain ⟨A, M, L, n, v, ts, g, rfl, hA, R, k⟩ := h
    refine ⟨_, (pss_cons (ps_if (pt_not (pt_val (pe_meth (pv 0) Y.cl_House Y.m_House_has.me (ok_House_has Y) (hr.mono (by decide)) Y.m_House_has.bd .nil pass0 (pa_cons (pv 1) pa_nil)))) (pss_one (ps_ret (pe_lst (pa_cons (pe_gint rfl Y.c_NO_VERSION) pa_nil)))) pss_nil)
      (pss_one (ps_ret (pe_callTy call_list_of (by rfl) Y.b_list PyProof.Rows.boot_list (pa_cons (pe_call (ok_longest_of Y) (hr.mono (by decide)) rfl Y.g_longest_of.at_ Y.g_longest_of.fn.kp Y.g_longest_of.bd .nil pass0 (pa_cons (pe_ix ix_list (pe_fld (pv 0) rfl) (pv 1) (fun _ _ => rfl)) pa_nil)) pa_nil))))), ?_⟩
    obtain ⟨dA, eA⟩ := hA.ob
    refine ⟨_, rfl, A, dA, _, rfl, eA, rfl, _, rfl, ?_⟩
    refine ⟨A, M, L, n, v, ts, rfl, hA, _, rfl, ?_⟩
    refine ite2 (fun c => ?_) (fun c => ?_)
    · have c' : vs_none ts v := by simpa [vs_none] using c
      refine ⟨(by show 1 ≤ sizeLine; decide), fun q hq => ?_⟩
      exact k.no hA R (Ph.step_read_no R c').2.2.2.1 hq
    · have c' : v < ts.length := by simpa using c
      obtain ⟨o, ho⟩ : ∃ o, ts[v]? = some o := ⟨_, List.getElem?_eq_getElem c'⟩
      obtain ⟨xs, w1, e1, e2, ro⟩ := hA.get ho
      rw [Ph.step_longest R ho] at k
      refine ⟨_, rfl, ?_⟩
      refine fTrees Y hA ?_
      refine ⟨_, rfl, L, _, _, _, rfl, rfl, SqL.of e1, atI_nat (j := v) e2, ?_⟩
      refine ⟨w1, o, rfl, ro, fun H1 z s1 hz => ?_⟩
      refine ⟨z, _, rfl, .inr (SqT.of hz), fun q hq => ?_⟩
      have s2 : ∀ x, Same H (upd H1 q x) := fun x b u q' => by rw [upd_ne (ne_of_none (s1 _ _ q') hq)]; exact s1 _ _ q'
      refine k _ q n ts (hA.same (s2 _)) R ?_ (s1.free hq) (KeepH.of (Keep.of (s2 _)))
      rw [upd_same]
      rfl
theorem sc_shape_answer : FnScope ["house", "version", "tree"] ["house", "version"] (defScope s_shape_answer) := ⟨rfl, rfl, rfl, by decide +kernel, rfl, by decide +kernel, by decide +kernel⟩
def spShape (c : Cs) : Sp := fun vs H Q _ => ∃ (A M L : Addr) (n v : Nat) (ts : List (Option Ph.T)) (g : Ue01.St), vs = [.ref A, .int ((v : Nat) : Int)] ∧ HouseAt c H A M L n ts ∧ Ph.Rel g n ts ∧
  PostH c A M L H (Ue01.step g (.shape v)) Q
theorem ok_shape_answer (Y : TX K mg) : FnOk P w K mg base CX0 11 Y.f_shape_answer Y.d_shape_answer ["house", "version"] (spShape Y.toCs) := by
  refine Y.g_shape_answer.fn.ok sc_shape_answer (fun vs H Q E h => ?_) (fun cdv A outer s H vs Q E hr h => ?_)
  · obtain ⟨A, M, L, n, v, ts, g, rfl, _⟩ := h
    rfl
  · obtain ⟨A, M, L, n, v, ts, g, rfl, hA, R, k⟩ := h
    refine ⟨_, (pss_cons (ps_if (pt_not (pt_val (pe_meth (pv 0) Y.cl_House Y.m_House_has.me (ok_House_has Y) (hr.mono (by decide)) Y.m_House_has.bd .nil pass0 (pa_cons (pv 1) pa_nil)))) (pss_one (ps_ret (pe_lst (pa_cons (pe_gint rfl Y.c_NO_VERSION) pa_nil)))) pss_nil)
      (pss_cons (ps_set (i := 2) sc_shape_answer.nd rfl (Or.inl rfl) (pe_ix ix_list (pe_fld (pv 0) rfl) (pv 1) (fun _ _ => rfl)))
      (pss_one (ps_ret (pe_lst (pa_cons (pe_call (ok_size_of Y) (hr.mono (by decide)) rfl Y.g_size_of.at_ Y.g_size_of.fn.kp Y.g_size_of.bd .nil pass0 (pa_cons (pv 2) pa_nil)) (pa_cons (pe_call (ok_feeds_of Y) (hr.mono (by decide)) rfl Y.g_feeds_of.at_ Y.g_feeds_of.fn.kp Y.g_feeds_of.bd .nil pass0 (pa_cons (pv 2) pa_nil)) (pa_cons (pe_call (ok_height_of Y) (hr.mono (by decide)) rfl Y.g_height_of.at_ Y.g_height_of.fn.kp Y.g_height_of.bd .nil pass0 (pa_cons (pv 2) pa_nil)) (pa_cons (pe_call (ok_leaves_of Y) (hr.mono (by decide)) rfl Y.g_leaves_of.at_ Y.g_leaves_of.fn.kp Y.g_leaves_of.bd .nil pass0 (pa_cons (pv 2) pa_nil)) (pa_cons (pe_call (ok_count_nodes Y) (hr.mono (by decide)) rfl Y.g_count_nodes.at_ Y.g_count_nodes.fn.kp Y.g_count_nodes.bd1 (dvs := [.int 0]) (.cons ⟨_, rfl⟩ .nil) pass0 (pa_cons (pe_lst (pa_cons (pv 2) pa_nil)) pa_nil)) pa_nil)))))))))), ?_⟩
    obtain ⟨dA, eA⟩ := hA.ob
    refine ⟨_, rfl, A, dA, _, rfl, eA, rfl, _, rfl, ?_⟩
    refine ⟨A, M, L, n, v, ts, rfl, hA, _, rfl, ?_⟩
    refine ite2 (fun c => ?_) (fun c => ?_)
    · have c' : vs_none ts v := by simpa [vs_none] using c
      refine ⟨(by show 1 ≤ sizeLine; decide), fun q hq => ?_⟩
      exact k.no hA R (Ph.step_read_no R c').2.2.2.2 hq
    · have c' : v < ts.length := by simpa using c
      obtain ⟨o, ho⟩ : ∃ o, ts[v]? = some o := ⟨_, List.getElem?_eq_getElem c'⟩
      obtain ⟨xs, w1, e1, e2, ro⟩ := hA.get ho
      obtain ⟨N, sp, cN⟩ := Ph.step_shape R ho
      rw [sp] at k
      obtain ⟨mk, ml, _⟩ := R.made_le
      have cb : Ph.Countable 0 o.toList n := R.countAll.of_sub fun t ht => by
        have eo := Ph.toList_some ht
        exact List.mem_filterMap.mpr ⟨o, List.mem_of_getElem? ho, eo⟩
      have eo : [o].filterMap id = o.toList := by cases o <;> rfl
      refine ⟨_, rfl, ?_⟩
      refine fTrees Y hA ?_
      refine ⟨_, rfl, L, _, _, _, rfl, rfl, SqL.of e1, atI_nat (j := v) e2, ?_⟩
      refine ⟨_, rfl, ?_⟩
      refine ⟨w1, o, rfl, ro, ?_⟩
      refine ⟨_, rfl, ?_⟩
      refine ⟨w1, o, rfl, ro, ?_⟩
      refine ⟨_, rfl, ?_⟩
      refine ⟨w1, o, rfl, ro, ?_⟩
      refine ⟨_, rfl, ?_⟩
      refine ⟨w1, o, rfl, ro, ?_⟩
      refine ⟨_, rfl, (by show 1 ≤ sizeLine; decide), fun B hB => ?_⟩
      have sB : Same H (upd H B (.lst [w1])) := fun b' u e' => by rw [upd_ne (ne_of_none e' hB)]; exact e'
      refine ⟨B, [w1], [o], 0, n, rfl, upd_same, .cons (ro.same sB) .nil, by simp, by rw [eo]; exact cb, by omega, fun H3 N' hN s30 => ?_⟩
      rw [eo] at hN
      have eN := hN.unique cN
      subst eN
      have s1 : Same H H3 := sB.trans s30
      refine ⟨(by show 5 ≤ sizeLine; decide), fun q hq => ?_⟩
      have s2 : ∀ x, Same H (upd H3 q x) := fun x b u q' => by rw [upd_ne (ne_of_none (s1 _ _ q') hq)]; exact s1 _ _ q'
      refine k _ q n ts (hA.same (s2 _)) R ?_ (s1.free hq) (KeepH.of (Keep.of (s2 _)))
      rw [upd_same]
      rfl
theorem sc_alike_answer : FnScope ["house", "version", "place", "other", "spot", "tree", "against", "most", "some"] ["house", "version", "place", "other", "spot"] (defScope s_alike_answer) := ⟨rfl, rfl, rfl, by decide +kernel, rfl, by decide +kernel, by decide +kernel⟩
def spAlike (c : Cs) : Sp := fun vs H Q _ => ∃ (A M L : Addr) (n v p u q : Nat) (ts : List (Option Ph.T)) (g : Ue01.St), vs = [.ref A, .int ((v : Nat) : Int), .int ((p : Nat) : Int), .int ((u : Nat) : Int), .int ((q : Nat) : Int)] ∧ HouseAt c H A M L n ts ∧ Ph.Rel g n ts ∧
  PostH c A M L H (Ue01.step g (.alike v p u q)) Q
theorem ok_alike_answer (Y : TX K mg) : FnOk P w K mg base CX0 11 Y.f_alike_answer Y.d_alike_answer ["house", "version", "place", "other", "spot"] (spAlike Y.toCs) := by
  refine Y.g_alike_answer.fn.ok sc_alike_answer (fun vs H Q E h => ?_) (fun cdv A outer s H vs Q E hr h => ?_)
  · obtain ⟨A, M, L, n, v, p, u, q, ts, g, rfl, _⟩ := h
    rfl
  · obtain ⟨A, M, L, n, v, p, u, q, ts, g, rfl, hA, R, k⟩ := h
    refine ⟨_, (pss_cons (ps_if (PW.pt (pw_or (pt_not (pt_val (pe_meth (pv 0) Y.cl_House Y.m_House_has.me (ok_House_has Y) (hr.mono (by decide)) Y.m_House_has.bd .nil pass0 (pa_cons (pv 1) pa_nil)))) (pw_or1 (pt_not (pt_val (pe_meth (pv 0) Y.cl_House Y.m_House_has.me (ok_House_has Y) (hr.mono (by decide)) Y.m_House_has.bd .nil pass0 (pa_cons (pv 3) pa_nil))))))) (pss_one (ps_ret (pe_lst (pa_cons (pe_gint rfl Y.c_NO_VERSION) pa_nil)))) pss_nil)
      (pss_cons (ps_set (i := 5) sc_alike_answer.nd rfl (Or.inl rfl) (pe_ix ix_list (pe_fld (pv 0) rfl) (pv 1) (fun _ _ => rfl)))
      (pss_cons (ps_set (i := 6) sc_alike_answer.nd rfl (Or.inl rfl) (pe_ix ix_list (pe_fld (pv 0) rfl) (pv 3) (fun _ _ => rfl)))
      (pss_cons (ps_if (PW.pt (pw_or (pt_cmpR op_gt (pv 2) (pe_call (ok_size_of Y) (hr.mono (by decide)) rfl Y.g_size_of.at_ Y.g_size_of.fn.kp Y.g_size_of.bd .nil pass0 (pa_cons (pv 5) pa_nil)) (nomark _)) (pw_or1 (pt_cmpR op_gt (pv 4) (pe_call (ok_size_of Y) (hr.mono (by decide)) rfl Y.g_size_of.at_ Y.g_size_of.fn.kp Y.g_size_of.bd .nil pass0 (pa_cons (pv 6) pa_nil)) (nomark _))))) (pss_one (ps_ret (pe_lst (pa_cons (pe_gint rfl Y.c_UNFIT) pa_nil)))) pss_nil)
      (pss_cons (ps_set (i := 7) sc_alike_answer.nd rfl (Or.inl rfl) (pe_callB (Lx.call_min3 rfl) (by rfl) Y.b_min boot_min (pa_cons (pe_gint rfl Y.c_MOST_AT_ONCE) (pa_cons (pe_op op_sub (pe_call (ok_size_of Y) (hr.mono (by decide)) rfl Y.g_size_of.at_ Y.g_size_of.fn.kp Y.g_size_of.bd .nil pass0 (pa_cons (pv 5) pa_nil)) (pv 2)) (pa_cons (pe_op op_sub (pe_call (ok_size_of Y) (hr.mono (by decide)) rfl Y.g_size_of.at_ Y.g_size_of.fn.kp Y.g_size_of.bd .nil pass0 (pa_cons (pv 6) pa_nil)) (pv 4)) pa_nil)))))
      (pss_cons (ps_set (i := 8) sc_alike_answer.nd rfl (Or.inl rfl) (pe_call (ok_bytes_between Y) (hr.mono (by decide)) rfl Y.g_bytes_between.at_ Y.g_bytes_between.fn.kp Y.g_bytes_between.bd .nil pass0 (pa_cons (pv 5) (pa_cons (pv 2) (pa_cons (pe_op op_add (pv 2) (pv 7)) pa_nil)))))
      (pss_one (ps_ret (pe_lst (pa_cons (pe_call (ok_count_alike Y) (hr.mono (by decide)) rfl Y.g_count_alike.at_ Y.g_count_alike.fn.kp Y.g_count_alike.bd .nil pass0 (pa_cons (pv 8) (pa_cons (pe_call (ok_bytes_between Y) (hr.mono (by decide)) rfl Y.g_bytes_between.at_ Y.g_bytes_between.fn.kp Y.g_bytes_between.bd .nil pass0 (pa_cons (pv 6) (pa_cons (pv 4) (pa_cons (pe_op op_add (pv 4) (pv 7)) pa_nil)))) pa_nil))) pa_nil)))))))))), ?_⟩
    obtain ⟨dA, eA⟩ := hA.ob
    refine seqIf_or (b1 := !decide (v < ts.length)) (b2 := !decide (u < ts.length)) (fun Q q => ?_) (fun _ Q q => ?_) ?_
    · refine ⟨_, rfl, A, dA, _, rfl, eA, rfl, _, rfl, ?_⟩
      exact ⟨A, M, L, n, v, ts, rfl, hA, _, rfl, q⟩
    · refine ⟨_, rfl, A, dA, _, rfl, eA, rfl, _, rfl, ?_⟩
      exact ⟨A, M, L, n, u, ts, rfl, hA, _, rfl, q⟩
    refine ite2 (fun c => ?_) (fun c => ?_)
    · refine ⟨(by show 1 ≤ sizeLine; decide), fun z hz => ?_⟩
      refine k.no hA R (Ph.step_alike_no R ?_ p q) hz
      rw [Bool.or_eq_true] at c
      rcases c with c | c
      · left; simpa using c
      · right; simpa using c
    · have c' : v < ts.length ∧ u < ts.length := by
        rw [Bool.or_eq_true, not_or] at c
        exact ⟨by simpa using c.1, by simpa using c.2⟩
      obtain ⟨o, ho⟩ : ∃ o, ts[v]? = some o := ⟨_, List.getElem?_eq_getElem c'.1⟩
      obtain ⟨o', ho'⟩ : ∃ o, ts[u]? = some o := ⟨_, List.getElem?_eq_getElem c'.2⟩
      obtain ⟨xs, w1, e1, e2, ro⟩ := hA.get ho
      obtain ⟨xs', w1', e1', e2', ro'⟩ := hA.get ho'
      obtain ⟨oko, szo⟩ := R.okv ho
      obtain ⟨oko', szo'⟩ := R.okv ho'
      have sp := Ph.step_alike R ho ho' p q
      refine ⟨_, rfl, ?_⟩
      refine fTrees Y hA ?_
      refine ⟨_, rfl, L, _, _, _, rfl, rfl, SqL.of e1, atI_nat (j := v) e2, ?_⟩
      refine ⟨_, rfl, ?_⟩
      refine fTrees Y hA ?_
      refine ⟨_, rfl, L, _, _, _, rfl, rfl, SqL.of e1', atI_nat (j := u) e2', ?_⟩
      dsimp only [gName]
      refine seqIf_or (b1 := decide (((Ph.sizeO o : Nat) : Int) < ((p : Nat) : Int))) (b2 := decide (((Ph.sizeO o' : Nat) : Int) < ((q : Nat) : Int))) (fun Q q => ?_) (fun _ Q q => ?_) ?_
      · refine ⟨_, rfl, ?_⟩
        refine ⟨_, rfl, ?_⟩
        exact ⟨w1, o, rfl, ro, _, _, rfl, rfl, _, rfl, q⟩
      · refine ⟨_, rfl, ?_⟩
        refine ⟨_, rfl, ?_⟩
        exact ⟨w1', o', rfl, ro', _, _, rfl, rfl, _, rfl, q⟩
      refine ite2 (fun d => ?_) (fun d => ?_)
      · refine ⟨(by show 1 ≤ sizeLine; decide), fun z hz => ?_⟩
        refine k.no (z := -1) hA R ?_ hz
        rw [Bool.or_eq_true] at d
        rw [sp, if_pos]
        rcases d with d | d
        · left; have := of_decide_eq_true d; omega
        · right; have := of_decide_eq_true d; omega
      · have d' : p ≤ Ph.sizeO o ∧ q ≤ Ph.sizeO o' := by
          rw [Bool.or_eq_true, not_or] at d
          have d1 := of_decide_eq_false (Bool.eq_false_iff.mpr d.1)
          have d2 := of_decide_eq_false (Bool.eq_false_iff.mpr d.2)
          omega
        rw [if_neg (by omega)] at sp
        have hc := Ph.alike_cut (a := Ph.bytesO o) (b := Ph.bytesO o') (p := p) (q := q) (by rw [Ph.sizeO_bytes]; exact d'.1) (by rw [Ph.sizeO_bytes]; exact d'.2)
        rw [Ph.sizeO_bytes, Ph.sizeO_bytes] at hc
        rw [hc] at sp
        rw [sp] at k
        have e9 : min (200 : Int) (min (((Ph.sizeO o : Nat) : Int) - ((p : Nat) : Int)) (((Ph.sizeO o' : Nat) : Int) - ((q : Nat) : Int))) = ((min 200 (min (Ph.sizeO o - p) (Ph.sizeO o' - q)) : Nat) : Int) := by omega
        have m1 : min 200 (min (Ph.sizeO o - p) (Ph.sizeO o' - q)) ≤ 200 := by omega
        have m2 : p + min 200 (min (Ph.sizeO o - p) (Ph.sizeO o' - q)) ≤ Ph.sizeO o := by omega
        have m3 : q + min 200 (min (Ph.sizeO o - p) (Ph.sizeO o' - q)) ≤ Ph.sizeO o' := by omega
        refine ⟨_, rfl, ?_⟩
        refine ⟨w1, o, rfl, ro, ?_⟩
        refine ⟨_, rfl, _, _, rfl, rfl, ?_⟩
        refine ⟨_, rfl, ?_⟩
        refine ⟨w1', o', rfl, ro', ?_⟩
        refine ⟨_, rfl, _, _, rfl, rfl, ?_⟩
        refine ⟨_, _, _, rfl, ?_⟩
        dsimp only
        rw [e9]
        generalize min 200 (min (Ph.sizeO o - p) (Ph.sizeO o' - q)) = m at *
        refine ⟨_, rfl, _, rfl, ?_⟩
        refine ⟨_, rfl, _, rfl, _, _, rfl, rfl, ?_⟩
        have e10 : ((p : Nat) : Int) + ((m : Nat) : Int) = ((p + m : Nat) : Int) := by omega
        have e11 : ((q : Nat) : Int) + ((m : Nat) : Int) = ((q + m : Nat) : Int) := by omega
        dsimp only
        rw [e10]
        refine ⟨w1, o, p, p + m, rfl, ro, oko, szo, by omega, m2, by omega, fun H1 l1 hl1 hl10 s1 => ?_⟩
        refine ⟨_, rfl, ?_⟩
        refine ⟨_, rfl, _, rfl, ?_⟩
        refine ⟨_, rfl, _, rfl, _, _, rfl, rfl, ?_⟩
        dsimp only
        rw [e11]
        refine ⟨w1', o', q, q + m, rfl, ro'.same s1, oko', szo', by omega, m3, by omega, fun H2 l2 hl2 hl20 s2 => ?_⟩
        refine ⟨l1, l2, _, _, rfl, s2 _ _ hl1, hl2, ?_, ?_⟩
        · rw [List.length_drop, List.length_drop, List.length_take, List.length_take, Ph.sizeO_bytes, Ph.sizeO_bytes]
          omega
        refine ⟨(by show 1 ≤ sizeLine; decide), fun z hz => ?_⟩
        have s3 : Same H H2 := s1.trans s2
        have s4 : ∀ x, Same H (upd H2 z x) := fun x b u q' => by rw [upd_ne (ne_of_none (s3 _ _ q') hz)]; exact s3 _ _ q'
        refine k _ z n ts (hA.same (s4 _)) R ?_ (s3.free hz) (KeepH.of (Keep.of (s4 _)))
        rw [upd_same]
        rfl
theorem sc_all_answer : FnScope ["house"] ["house"] (defScope s_all_answer) := ⟨rfl, rfl, rfl, by decide +kernel, rfl, by decide +kernel, by decide +kernel⟩
def spAll (c : Cs) : Sp := fun vs H Q _ => ∃ (A M L : Addr) (n : Nat) (ts : List (Option Ph.T)) (g : Ue01.St), vs = [.ref A] ∧ HouseAt c H A M L n ts ∧ Ph.Rel g n ts ∧
  PostH c A M L H (Ue01.step g .all) Q
theorem ok_all_answer (Y : TX K mg) : FnOk P w K mg base CX0 11 Y.f_all_answer Y.d_all_answer ["house"] (spAll Y.toCs) := by
  refine Y.g_all_answer.fn.ok sc_all_answer (fun vs H Q E h => ?_) (fun cdv A outer s H vs Q E hr h => ?_)
  · obtain ⟨A, M, L, n, ts, g, rfl, _⟩ := h
    rfl
  · obtain ⟨A, M, L, n, ts, g, rfl, hA, R, k⟩ := h
    refine ⟨_, (pss_one (ps_ret (pe_lst (pa_cons (pe_callB call_len_seq (by rfl) Y.b_len PySem.boot_len (pa_cons (pe_fld (pv 0) rfl) pa_nil)) (pa_cons (pe_call (ok_count_nodes Y) (hr.mono (by decide)) rfl Y.g_count_nodes.at_ Y.g_count_nodes.fn.kp Y.g_count_nodes.bd1 (dvs := [.int 0]) (.cons ⟨_, rfl⟩ .nil) pass0 (pa_cons (pe_fld (pv 0) rfl) pa_nil)) pa_nil))))), ?_⟩
    obtain ⟨N, sp, cN⟩ := Ph.step_all R
    rw [sp] at k
    obtain ⟨mk, ml, _⟩ := R.made_le
    have cb := R.countAll
    have hA0 := hA
    obtain ⟨_, _, xs, e3, e4⟩ := hA0
    have xl := paired_len e4
    refine ⟨_, rfl, ?_⟩
    refine fTrees Y hA ?_
    refine ⟨L, _, rfl, .inl (SqL.of e3), ?_⟩
    refine ⟨_, rfl, ?_⟩
    refine fTrees Y hA ?_
    refine ⟨L, xs, ts, 0, n, rfl, e3, e4, by omega, cb, by omega, fun H3 N' hN s1 => ?_⟩
    have eN := hN.unique cN
    subst eN
    refine ⟨(by show 2 ≤ sizeLine; decide), fun q hq => ?_⟩
    have s2 : ∀ x, Same H (upd H3 q x) := fun x b u q' => by rw [upd_ne (ne_of_none (s1 _ _ q') hq)]; exact s1 _ _ q'
    refine k _ q n ts (hA.same (s2 _)) R ?_ (s1.free hq) (KeepH.of (Keep.of (s2 _)))
    rw [upd_same, xl]
    rfl
end
end Pw
set_option Elab.async false
set_option linter.all false
set_option maxRecDepth 100000
namespace Pw
open PySem PySem.Spec PyProof.Rows L2
theorem cut_seg (pre seg t : List Int) : cutV ((pre ++ (seg ++ t)).map V.int) (some ((pre.length : Nat) : Int)) (some (((pre.length + seg.length : Nat)) : Int)) = seg.map V.int := by
  unfold cutV
  rw [HT.sIx_nat, HT.sIx_nat, List.length_map, List.length_append, List.length_append, Nat.min_eq_left (by omega), Nat.min_eq_left (by omega), ← List.map_drop, ← List.map_take]
  congr 1
  rw [List.drop_left', show pre.length + seg.length - pre.length = seg.length by omega, List.take_left']
  · rfl
  · rfl
theorem HouseAt.at {c : Cs} {H : Hp} {A M L T : Addr} {n : Nat} {vs : List (Option Ph.T)} (h : HouseAt c H A M L n vs) (nL : T ≠ L) (nM : M ≠ T) (nb : NB H T) (o : HO) : HouseAt c (upd H T o) A M L n vs := by
  obtain ⟨⟨dx, e1⟩, m, xs, e3, e4⟩ := h
  exact ⟨⟨dx, by rw [upd_ne (fun z => nb.ins _ _ _ (z ▸ e1))]; exact e1⟩, m.at nb o, xs, by rw [upd_ne (Ne.symm nL)]; exact e3, WaitAt.at nb o e4⟩
section
variable {P : Program} {w : World} {K : PySem.W.Frag} {mg : Str → Option Value} {base : Heap}
def spCallLength (K : PySem.W.Frag) : Sp := fun vs H Q _ => ∃ (C : Addr) (pre seg t : List Int) (x : Ue01.Call), vs = [.ref C, .int ((pre.length : Nat) : Int)] ∧ SqL K H C ((pre ++ (seg ++ t)).map V.int) ∧ Ph.Seg seg x ∧ Q (.int ((seg.length : Nat) : Int)) H
def spCallAnswer (c : Cs) : Sp := fun vs H Q _ => ∃ (A M L S : Addr) (n : Nat) (ts : List (Option Ph.T)) (g : Ue01.St) (seg : List Int) (x : Ue01.Call), vs = [.ref A, .ref S] ∧ HouseAt c H A M L n ts ∧ Ph.Rel g n ts ∧ H S = some (.lst (seg.map V.int)) ∧ Ph.Seg seg x ∧
  PostH c A M L H (Ue01.step g x) Q
theorem seg_form {seg : List Int} {x : Ue01.Call} (h : Ph.Seg seg x) : (∃ (v p : Nat) (w : List Nat), seg = 0 :: (v : Int) :: (p : Int) :: (w.length : Int) :: Ph.ofN w) ∨
    ∃ (c : Nat) (r : List Int), seg = (c : Int) :: r ∧ c ≠ 0 ∧ ([.int 4, .int 4, .int 6, .int 4, .int 3, .int 3, .int 2, .int 2, .int 5, .int 1] : List V)[c]? = some (.int ((seg.length : Nat) : Int)) := by
  cases h with
  | insert v p w hw => exact .inl ⟨v, p, w, rfl⟩
  | delete v a b => exact .inr ⟨1, _, rfl, by decide, rfl⟩
  | copy v a b u p => exact .inr ⟨2, _, rfl, by decide, rfl⟩
  | part v a b => exact .inr ⟨3, _, rfl, by decide, rfl⟩
  | line v k => exact .inr ⟨4, _, rfl, by decide, rfl⟩
  | where_ v p => exact .inr ⟨5, _, rfl, by decide, rfl⟩
  | longest v => exact .inr ⟨6, _, rfl, by decide, rfl⟩
  | shape v => exact .inr ⟨7, _, rfl, by decide, rfl⟩
  | alike v p u q => exact .inr ⟨8, _, rfl, by decide, rfl⟩
  | all => exact .inr ⟨9, _, rfl, by decide, rfl⟩
theorem at_pre (pre seg t : List Int) (i : Nat) (h : i < seg.length) : ((pre ++ (seg ++ t)).map V.int)[pre.length + i]? = some (V.int seg[i]) := by
  rw [List.getElem?_map, List.getElem?_append_right (by omega), Nat.add_sub_cancel_left, List.getElem?_append_left h, List.getElem?_eq_getElem h]
  rfl
theorem sc_call_length : FnScope ["calls", "start", "length"] ["calls", "start"] (defScope s_call_length) := ⟨rfl, rfl, rfl, by decide +kernel, rfl, by decide +kernel, by decide +kernel⟩
theorem ok_call_length (Y : TX K mg) : FnOk P w K mg base CX0 1 Y.f_call_length Y.d_call_length ["calls", "start"] (spCallLength K) := by
  refine Y.g_call_length.fn.ok sc_call_length (fun vs H Q E h => ?_) (fun cdv A outer s H vs Q E hr h => ?_)
  · obtain ⟨C, pre, seg, t, x, rfl, _⟩ := h
    rfl
  · obtain ⟨C, pre, seg, t, x, rfl, hC, hseg, k⟩ := h
    refine ⟨_, (pss_cons (ps_set (i := 2) sc_call_length.nd rfl (Or.inl rfl) (pe_ix ix_tup (pe_glob (v := .ref Y.a_CALL_LENGTHS) rfl Y.c_CALL_LENGTHS rfl) (pe_ix ix_list (pv 0) (pv 1) (fun _ _ => rfl)) (fun _ _ => rfl)))
      (pss_cons (ps_if (pt_cmpR op_eq (pe_ix ix_list (pv 0) (pv 1) (fun _ _ => rfl)) (pe_gint rfl Y.c_INSERT) (nomark _)) (pss_one (ps_ret (pe_op op_add (pv 2) (pe_ix ix_list (pv 0) (pe_op op_add (pv 1) (pe_gint rfl Y.c_BYTE_COUNT)) (fun _ _ => rfl))))) pss_nil)
      (pss_one (ps_ret (pv 2))))), ?_⟩
    rcases seg_form hseg with ⟨v, p, x, rfl⟩ | ⟨c, r, rfl, c0, cl⟩
    · have e0 := at_pre pre _ t 0 (show 0 < (0 :: (v : Int) :: (p : Int) :: (x.length : Int) :: Ph.ofN x).length by simp)
      have e3 := at_pre pre _ t 3 (show 3 < (0 :: (v : Int) :: (p : Int) :: (x.length : Int) :: Ph.ofN x).length by simp)
      refine ⟨_, rfl, _, rfl, C, _, _, _, rfl, rfl, hC, atI_nat (j := pre.length) e0, ?_⟩
      refine ⟨_, _, _, .int 4, rfl, rfl, Y.s_CALL_LENGTHS H, rfl, ?_⟩
      refine ⟨_, rfl, _, rfl, C, _, _, _, rfl, rfl, hC, atI_nat (j := pre.length) e0, ?_⟩
      refine ⟨rfl, _, rfl, ?_⟩
      refine ite2 (fun _ => ?_) (fun c => absurd rfl c)
      refine ⟨_, rfl, _, rfl, _, rfl, _, _, rfl, rfl, ?_⟩
      refine ⟨C, _, _, _, rfl, rfl, hC, atI_nat (j := pre.length + 3) e3, ?_⟩
      refine ⟨_, _, rfl, rfl, ?_⟩
      have e9 : (4 : Int) + ((x.length : Nat) : Int) = (((0 :: (v : Int) :: (p : Int) :: (x.length : Int) :: Ph.ofN x).length : Nat) : Int) := by
        simp only [List.length_cons, Ph.ofN, List.length_map]
        omega
      dsimp only
      rw [← e9] at k
      exact k
    · have e0 := at_pre pre _ t 0 (show 0 < ((c : Int) :: r).length by simp)
      refine ⟨_, rfl, _, rfl, C, _, _, _, rfl, rfl, hC, atI_nat (j := pre.length) e0, ?_⟩
      refine ⟨_, _, _, _, rfl, rfl, Y.s_CALL_LENGTHS H, atI_nat (j := c) cl, ?_⟩
      refine ⟨_, rfl, _, rfl, C, _, _, _, rfl, rfl, hC, atI_nat (j := pre.length) e0, ?_⟩
      refine ⟨rfl, _, rfl, ?_⟩
      refine ite2 (fun d => ?_) (fun _ => ?_)
      · have := of_decide_eq_true d
        injection this with z
        have z' : (c : Int) = 0 := z
        omega
      · exact ⟨_, rfl, k⟩
theorem PostH.from {c : Cs} {A M L : Addr} {H H1 : Hp} {r : Ue01.St × List Int} {Q : VK} (k : PostH c A M L H r Q) (s : Same H H1) : PostH c A M L H1 r Q :=
  fun H' p n' vs' hA R hp hp0 kh => k H' p n' vs' hA R hp (s.free hp0) fun b o e h1 h2 => kh b o (s b o e) h1 h2
theorem cut4 (a b c d : V) (l : List V) : cutV (a :: b :: c :: d :: l) (some ((4 : Nat) : Int)) none = l := by
  unfold cutV
  rw [HT.sIx_nat, HT.sIx_none]
  simp
theorem sc_call_answer : FnScope ["house", "call", "number"] ["house", "call"] (defScope s_call_answer) := ⟨rfl, rfl, rfl, by decide +kernel, rfl, by decide +kernel, by decide +kernel⟩
theorem ok_call_answer (Y : TX K mg) : FnOk P w K mg base CX0 12 Y.f_call_answer Y.d_call_answer ["house", "call"] (spCallAnswer Y.toCs) := by
  refine Y.g_call_answer.fn.ok sc_call_answer (fun vs H Q E h => ?_) (fun cdv A outer s H vs Q E hr h => ?_)
  · obtain ⟨A, M, L, S, n, ts, g, seg, x, rfl, _⟩ := h
    rfl
  · obtain ⟨A, M, L, S, n, ts, g, seg, x, rfl, hA, R, hS, hseg, k⟩ := h
    refine ⟨_, (pss_cons (ps_set (i := 2) sc_call_answer.nd rfl (Or.inl rfl) (pe_ix ix_list (pv 1) pe_int (fun _ _ => rfl)))
      (pss_cons (ps_if (pt_cmpR op_eq (pv 2) (pe_gint rfl Y.c_INSERT) (nomark _)) (pss_one (ps_ret (pe_call (ok_insert_answer Y) (hr.mono (by decide)) rfl Y.g_insert_answer.at_ Y.g_insert_answer.fn.kp Y.g_insert_answer.bd .nil pass0 (pa_cons (pv 0) (pa_cons (pe_ix ix_list (pv 1) pe_int (fun _ _ => rfl)) (pa_cons (pe_ix ix_list (pv 1) pe_int (fun _ _ => rfl)) (pa_cons (pe_slice sl_list (pv 1) (po_some (pe_op op_add (pe_gint rfl Y.c_BYTE_COUNT) pe_int)) po_none) pa_nil))))))) pss_nil)
      (pss_cons (ps_if (pt_cmpR op_eq (pv 2) (pe_gint rfl Y.c_DELETE) (nomark _)) (pss_one (ps_ret (pe_call (ok_delete_answer Y) (hr.mono (by decide)) rfl Y.g_delete_answer.at_ Y.g_delete_answer.fn.kp Y.g_delete_answer.bd .nil pass0 (pa_cons (pv 0) (pa_cons (pe_ix ix_list (pv 1) pe_int (fun _ _ => rfl)) (pa_cons (pe_ix ix_list (pv 1) pe_int (fun _ _ => rfl)) (pa_cons (pe_ix ix_list (pv 1) pe_int (fun _ _ => rfl)) pa_nil))))))) pss_nil)
      (pss_cons (ps_if (pt_cmpR op_eq (pv 2) (pe_gint rfl Y.c_COPY) (nomark _)) (pss_one (ps_ret (pe_call (ok_copy_answer Y) (hr.mono (by decide)) rfl Y.g_copy_answer.at_ Y.g_copy_answer.fn.kp Y.g_copy_answer.bd .nil pass0 (pa_cons (pv 0) (pa_cons (pe_ix ix_list (pv 1) pe_int (fun _ _ => rfl)) (pa_cons (pe_ix ix_list (pv 1) pe_int (fun _ _ => rfl)) (pa_cons (pe_ix ix_list (pv 1) pe_int (fun _ _ => rfl)) (pa_cons (pe_ix ix_list (pv 1) pe_int (fun _ _ => rfl)) (pa_cons (pe_ix ix_list (pv 1) pe_int (fun _ _ => rfl)) pa_nil))))))))) pss_nil)
      (pss_cons (ps_if (pt_cmpR op_eq (pv 2) (pe_gint rfl Y.c_PART) (nomark _)) (pss_one (ps_ret (pe_call (ok_part_answer Y) (hr.mono (by decide)) rfl Y.g_part_answer.at_ Y.g_part_answer.fn.kp Y.g_part_answer.bd .nil pass0 (pa_cons (pv 0) (pa_cons (pe_ix ix_list (pv 1) pe_int (fun _ _ => rfl)) (pa_cons (pe_ix ix_list (pv 1) pe_int (fun _ _ => rfl)) (pa_cons (pe_ix ix_list (pv 1) pe_int (fun _ _ => rfl)) pa_nil))))))) pss_nil)
      (pss_cons (ps_if (pt_cmpR op_eq (pv 2) (pe_gint rfl Y.c_LINE) (nomark _)) (pss_one (ps_ret (pe_call (ok_line_answer Y) (hr.mono (by decide)) rfl Y.g_line_answer.at_ Y.g_line_answer.fn.kp Y.g_line_answer.bd .nil pass0 (pa_cons (pv 0) (pa_cons (pe_ix ix_list (pv 1) pe_int (fun _ _ => rfl)) (pa_cons (pe_ix ix_list (pv 1) pe_int (fun _ _ => rfl)) pa_nil)))))) pss_nil)
      (pss_cons (ps_if (pt_cmpR op_eq (pv 2) (pe_gint rfl Y.c_WHERE) (nomark _)) (pss_one (ps_ret (pe_call (ok_where_answer Y) (hr.mono (by decide)) rfl Y.g_where_answer.at_ Y.g_where_answer.fn.kp Y.g_where_answer.bd .nil pass0 (pa_cons (pv 0) (pa_cons (pe_ix ix_list (pv 1) pe_int (fun _ _ => rfl)) (pa_cons (pe_ix ix_list (pv 1) pe_int (fun _ _ => rfl)) pa_nil)))))) pss_nil)
      (pss_cons (ps_if (pt_cmpR op_eq (pv 2) (pe_gint rfl Y.c_LONGEST) (nomark _)) (pss_one (ps_ret (pe_call (ok_longest_answer Y) (hr.mono (by decide)) rfl Y.g_longest_answer.at_ Y.g_longest_answer.fn.kp Y.g_longest_answer.bd .nil pass0 (pa_cons (pv 0) (pa_cons (pe_ix ix_list (pv 1) pe_int (fun _ _ => rfl)) pa_nil))))) pss_nil)
      (pss_cons (ps_if (pt_cmpR op_eq (pv 2) (pe_gint rfl Y.c_SHAPE) (nomark _)) (pss_one (ps_ret (pe_call (ok_shape_answer Y) (hr.mono (by decide)) rfl Y.g_shape_answer.at_ Y.g_shape_answer.fn.kp Y.g_shape_answer.bd .nil pass0 (pa_cons (pv 0) (pa_cons (pe_ix ix_list (pv 1) pe_int (fun _ _ => rfl)) pa_nil))))) pss_nil)
      (pss_cons (ps_if (pt_cmpR op_eq (pv 2) (pe_gint rfl Y.c_ALIKE) (nomark _)) (pss_one (ps_ret (pe_call (ok_alike_answer Y) (hr.mono (by decide)) rfl Y.g_alike_answer.at_ Y.g_alike_answer.fn.kp Y.g_alike_answer.bd .nil pass0 (pa_cons (pv 0) (pa_cons (pe_ix ix_list (pv 1) pe_int (fun _ _ => rfl)) (pa_cons (pe_ix ix_list (pv 1) pe_int (fun _ _ => rfl)) (pa_cons (pe_ix ix_list (pv 1) pe_int (fun _ _ => rfl)) (pa_cons (pe_ix ix_list (pv 1) pe_int (fun _ _ => rfl)) pa_nil)))))))) pss_nil)
      (pss_one (ps_ret (pe_call (ok_all_answer Y) (hr.mono (by decide)) rfl Y.g_all_answer.at_ Y.g_all_answer.fn.kp Y.g_all_answer.bd .nil pass0 (pa_cons (pv 0) pa_nil)))))))))))))), ?_⟩
    cases hseg with
    | insert v p x hx =>
      refine ⟨_, rfl, S, _, _, _, rfl, rfl, SqL.of hS, atI_nat (j := 0) rfl, ?_⟩
      refine ⟨_, rfl, rfl, _, rfl, ?_⟩
      refine ite2 (fun _ => ?_) (fun c => absurd (by decide) c)
      refine ⟨_, rfl, ?_⟩
      refine ⟨_, rfl, S, _, _, _, rfl, rfl, SqL.of hS, atI_nat (j := 1) rfl, ?_⟩
      refine ⟨_, rfl, S, _, _, _, rfl, rfl, SqL.of hS, atI_nat (j := 2) rfl, ?_⟩
      refine ⟨_, rfl, _, _, rfl, rfl, _, rfl, ?_⟩
      refine ⟨S, _, rfl, SqL.of hS, fun C hC => ?_⟩
      have s1 : ∀ z, Same H (upd H C z) := fun z b o e => by rw [upd_ne (ne_of_none e hC)]; exact e
      obtain ⟨xs, eL, _⟩ := hA.len
      have hc : (upd H C (.lst (cutV (((0 : Int) :: (v : Int) :: (p : Int) :: (x.length : Int) :: Ph.ofN x).map V.int) (some ((4 : Nat) : Int)) none))) C = some (.lst (x.map vI)) := by
        rw [upd_same, List.map_cons, List.map_cons, List.map_cons, List.map_cons, cut4, map_vI]
      exact ⟨A, M, L, C, n, v, p, ts, x, g, rfl, hA.same (s1 _), R, hc, (fun z => by rw [z, eL] at hC; cases hC), k.from (s1 _)⟩
    | delete v a b =>
      refine ⟨_, rfl, S, _, _, _, rfl, rfl, SqL.of hS, atI_nat (j := 0) rfl, ?_⟩
      refine ⟨_, rfl, rfl, _, rfl, ?_⟩
      refine ite2 (fun c => absurd c (by decide)) (fun _ => ?_)
      refine ⟨_, rfl, rfl, _, rfl, ?_⟩
      refine ite2 (fun _ => ?_) (fun c => absurd (by decide) c)
      refine ⟨_, rfl, ?_⟩
      refine ⟨_, rfl, S, _, _, _, rfl, rfl, SqL.of hS, atI_nat (j := 1) rfl, ?_⟩
      refine ⟨_, rfl, S, _, _, _, rfl, rfl, SqL.of hS, atI_nat (j := 2) rfl, ?_⟩
      refine ⟨_, rfl, S, _, _, _, rfl, rfl, SqL.of hS, atI_nat (j := 3) rfl, ?_⟩
      exact ⟨A, M, L, n, v, a, b, ts, g, rfl, hA, R, k⟩
    | copy v a b u p =>
      refine ⟨_, rfl, S, _, _, _, rfl, rfl, SqL.of hS, atI_nat (j := 0) rfl, ?_⟩
      refine ⟨_, rfl, rfl, _, rfl, ?_⟩
      refine ite2 (fun c => absurd c (by decide)) (fun _ => ?_)
      refine ⟨_, rfl, rfl, _, rfl, ?_⟩
      refine ite2 (fun c => absurd c (by decide)) (fun _ => ?_)
      refine ⟨_, rfl, rfl, _, rfl, ?_⟩
      refine ite2 (fun _ => ?_) (fun c => absurd (by decide) c)
      refine ⟨_, rfl, ?_⟩
      refine ⟨_, rfl, S, _, _, _, rfl, rfl, SqL.of hS, atI_nat (j := 1) rfl, ?_⟩
      refine ⟨_, rfl, S, _, _, _, rfl, rfl, SqL.of hS, atI_nat (j := 2) rfl, ?_⟩
      refine ⟨_, rfl, S, _, _, _, rfl, rfl, SqL.of hS, atI_nat (j := 3) rfl, ?_⟩
      refine ⟨_, rfl, S, _, _, _, rfl, rfl, SqL.of hS, atI_nat (j := 4) rfl, ?_⟩
      refine ⟨_, rfl, S, _, _, _, rfl, rfl, SqL.of hS, atI_nat (j := 5) rfl, ?_⟩
      exact ⟨A, M, L, n, v, a, b, u, p, ts, g, rfl, hA, R, k⟩
    | part v a b =>
      refine ⟨_, rfl, S, _, _, _, rfl, rfl, SqL.of hS, atI_nat (j := 0) rfl, ?_⟩
      refine ⟨_, rfl, rfl, _, rfl, ?_⟩
      refine ite2 (fun c => absurd c (by decide)) (fun _ => ?_)
      refine ⟨_, rfl, rfl, _, rfl, ?_⟩
      refine ite2 (fun c => absurd c (by decide)) (fun _ => ?_)
      refine ⟨_, rfl, rfl, _, rfl, ?_⟩
      refine ite2 (fun c => absurd c (by decide)) (fun _ => ?_)
      refine ⟨_, rfl, rfl, _, rfl, ?_⟩
      refine ite2 (fun _ => ?_) (fun c => absurd (by decide) c)
      refine ⟨_, rfl, ?_⟩
      refine ⟨_, rfl, S, _, _, _, rfl, rfl, SqL.of hS, atI_nat (j := 1) rfl, ?_⟩
      refine ⟨_, rfl, S, _, _, _, rfl, rfl, SqL.of hS, atI_nat (j := 2) rfl, ?_⟩
      refine ⟨_, rfl, S, _, _, _, rfl, rfl, SqL.of hS, atI_nat (j := 3) rfl, ?_⟩
      exact ⟨A, M, L, n, v, a, b, ts, g, rfl, hA, R, k⟩
    | line v i =>
      refine ⟨_, rfl, S, _, _, _, rfl, rfl, SqL.of hS, atI_nat (j := 0) rfl, ?_⟩
      refine ⟨_, rfl, rfl, _, rfl, ?_⟩
      refine ite2 (fun c => absurd c (by decide)) (fun _ => ?_)
      refine ⟨_, rfl, rfl, _, rfl, ?_⟩
      refine ite2 (fun c => absurd c (by decide)) (fun _ => ?_)
      refine ⟨_, rfl, rfl, _, rfl, ?_⟩
      refine ite2 (fun c => absurd c (by decide)) (fun _ => ?_)
      refine ⟨_, rfl, rfl, _, rfl, ?_⟩
      refine ite2 (fun c => absurd c (by decide)) (fun _ => ?_)
      refine ⟨_, rfl, rfl, _, rfl, ?_⟩
      refine ite2 (fun _ => ?_) (fun c => absurd (by decide) c)
      refine ⟨_, rfl, ?_⟩
      refine ⟨_, rfl, S, _, _, _, rfl, rfl, SqL.of hS, atI_nat (j := 1) rfl, ?_⟩
      refine ⟨_, rfl, S, _, _, _, rfl, rfl, SqL.of hS, atI_nat (j := 2) rfl, ?_⟩
      exact ⟨A, M, L, n, v, i, ts, g, rfl, hA, R, k⟩
    | where_ v p =>
      refine ⟨_, rfl, S, _, _, _, rfl, rfl, SqL.of hS, atI_nat (j := 0) rfl, ?_⟩
      refine ⟨_, rfl, rfl, _, rfl, ?_⟩
      refine ite2 (fun c => absurd c (by decide)) (fun _ => ?_)
      refine ⟨_, rfl, rfl, _, rfl, ?_⟩
      refine ite2 (fun c => absurd c (by decide)) (fun _ => ?_)
      refine ⟨_, rfl, rfl, _, rfl, ?_⟩
      refine ite2 (fun c => absurd c (by decide)) (fun _ => ?_)
      refine ⟨_, rfl, rfl, _, rfl, ?_⟩
      refine ite2 (fun c => absurd c (by decide)) (fun _ => ?_)
      refine ⟨_, rfl, rfl, _, rfl, ?_⟩
      refine ite2 (fun c => absurd c (by decide)) (fun _ => ?_)
      refine ⟨_, rfl, rfl, _, rfl, ?_⟩
      refine ite2 (fun _ => ?_) (fun c => absurd (by decide) c)
      refine ⟨_, rfl, ?_⟩
      refine ⟨_, rfl, S, _, _, _, rfl, rfl, SqL.of hS, atI_nat (j := 1) rfl, ?_⟩
      refine ⟨_, rfl, S, _, _, _, rfl, rfl, SqL.of hS, atI_nat (j := 2) rfl, ?_⟩
      exact ⟨A, M, L, n, v, p, ts, g, rfl, hA, R, k⟩
    | longest v =>
      refine ⟨_, rfl, S, _, _, _, rfl, rfl, SqL.of hS, atI_nat (j := 0) rfl, ?_⟩
      refine ⟨_, rfl, rfl, _, rfl, ?_⟩
      refine ite2 (fun c => absurd c (by decide)) (fun _ => ?_)
      refine ⟨_, rfl, rfl, _, rfl, ?_⟩
      refine ite2 (fun c => absurd c (by decide)) (fun _ => ?_)
      refine ⟨_, rfl, rfl, _, rfl, ?_⟩
      refine ite2 (fun c => absurd c (by decide)) (fun _ => ?_)
      refine ⟨_, rfl, rfl, _, rfl, ?_⟩
      refine ite2 (fun c => absurd c (by decide)) (fun _ => ?_)
      refine ⟨_, rfl, rfl, _, rfl, ?_⟩
      refine ite2 (fun c => absurd c (by decide)) (fun _ => ?_)
      refine ⟨_, rfl, rfl, _, rfl, ?_⟩
      refine ite2 (fun c => absurd c (by decide)) (fun _ => ?_)
      refine ⟨_, rfl, rfl, _, rfl, ?_⟩
      refine ite2 (fun _ => ?_) (fun c => absurd (by decide) c)
      refine ⟨_, rfl, ?_⟩
      refine ⟨_, rfl, S, _, _, _, rfl, rfl, SqL.of hS, atI_nat (j := 1) rfl, ?_⟩
      exact ⟨A, M, L, n, v, ts, g, rfl, hA, R, k⟩
    | shape v =>
      refine ⟨_, rfl, S, _, _, _, rfl, rfl, SqL.of hS, atI_nat (j := 0) rfl, ?_⟩
      refine ⟨_, rfl, rfl, _, rfl, ?_⟩
      refine ite2 (fun c => absurd c (by decide)) (fun _ => ?_)
      refine ⟨_, rfl, rfl, _, rfl, ?_⟩
      refine ite2 (fun c => absurd c (by decide)) (fun _ => ?_)
      refine ⟨_, rfl, rfl, _, rfl, ?_⟩
      refine ite2 (fun c => absurd c (by decide)) (fun _ => ?_)
      refine ⟨_, rfl, rfl, _, rfl, ?_⟩
      refine ite2 (fun c => absurd c (by decide)) (fun _ => ?_)
      refine ⟨_, rfl, rfl, _, rfl, ?_⟩
      refine ite2 (fun c => absurd c (by decide)) (fun _ => ?_)
      refine ⟨_, rfl, rfl, _, rfl, ?_⟩
      refine ite2 (fun c => absurd c (by decide)) (fun _ => ?_)
      refine ⟨_, rfl, rfl, _, rfl, ?_⟩
      refine ite2 (fun c => absurd c (by decide)) (fun _ => ?_)
      refine ⟨_, rfl, rfl, _, rfl, ?_⟩
      refine ite2 (fun _ => ?_) (fun c => absurd (by decide) c)
      refine ⟨_, rfl, ?_⟩
      refine ⟨_, rfl, S, _, _, _, rfl, rfl, SqL.of hS, atI_nat (j := 1) rfl, ?_⟩
      exact ⟨A, M, L, n, v, ts, g, rfl, hA, R, k⟩
    | alike v p u q =>
      refine ⟨_, rfl, S, _, _, _, rfl, rfl, SqL.of hS, atI_nat (j := 0) rfl, ?_⟩
      refine ⟨_, rfl, rfl, _, rfl, ?_⟩
      refine ite2 (fun c => absurd c (by decide)) (fun _ => ?_)
      refine ⟨_, rfl, rfl, _, rfl, ?_⟩
      refine ite2 (fun c => absurd c (by decide)) (fun _ => ?_)
      refine ⟨_, rfl, rfl, _, rfl, ?_⟩
      refine ite2 (fun c => absurd c (by decide)) (fun _ => ?_)
      refine ⟨_, rfl, rfl, _, rfl, ?_⟩
      refine ite2 (fun c => absurd c (by decide)) (fun _ => ?_)
      refine ⟨_, rfl, rfl, _, rfl, ?_⟩
      refine ite2 (fun c => absurd c (by decide)) (fun _ => ?_)
      refine ⟨_, rfl, rfl, _, rfl, ?_⟩
      refine ite2 (fun c => absurd c (by decide)) (fun _ => ?_)
      refine ⟨_, rfl, rfl, _, rfl, ?_⟩
      refine ite2 (fun c => absurd c (by decide)) (fun _ => ?_)
      refine ⟨_, rfl, rfl, _, rfl, ?_⟩
      refine ite2 (fun c => absurd c (by decide)) (fun _ => ?_)
      refine ⟨_, rfl, rfl, _, rfl, ?_⟩
      refine ite2 (fun _ => ?_) (fun c => absurd (by decide) c)
      refine ⟨_, rfl, ?_⟩
      refine ⟨_, rfl, S, _, _, _, rfl, rfl, SqL.of hS, atI_nat (j := 1) rfl, ?_⟩
      refine ⟨_, rfl, S, _, _, _, rfl, rfl, SqL.of hS, atI_nat (j := 2) rfl, ?_⟩
      refine ⟨_, rfl, S, _, _, _, rfl, rfl, SqL.of hS, atI_nat (j := 3) rfl, ?_⟩
      refine ⟨_, rfl, S, _, _, _, rfl, rfl, SqL.of hS, atI_nat (j := 4) rfl, ?_⟩
      exact ⟨A, M, L, n, v, p, u, q, ts, g, rfl, hA, R, k⟩
    | all =>
      refine ⟨_, rfl, S, _, _, _, rfl, rfl, SqL.of hS, atI_nat (j := 0) rfl, ?_⟩
      refine ⟨_, rfl, rfl, _, rfl, ?_⟩
      refine ite2 (fun c => absurd c (by decide)) (fun _ => ?_)
      refine ⟨_, rfl, rfl, _, rfl, ?_⟩
      refine ite2 (fun c => absurd c (by decide)) (fun _ => ?_)
      refine ⟨_, rfl, rfl, _, rfl, ?_⟩
      refine ite2 (fun c => absurd c (by decide)) (fun _ => ?_)
      refine ⟨_, rfl, rfl, _, rfl, ?_⟩
      refine ite2 (fun c => absurd c (by decide)) (fun _ => ?_)
      refine ⟨_, rfl, rfl, _, rfl, ?_⟩
      refine ite2 (fun c => absurd c (by decide)) (fun _ => ?_)
      refine ⟨_, rfl, rfl, _, rfl, ?_⟩
      refine ite2 (fun c => absurd c (by decide)) (fun _ => ?_)
      refine ⟨_, rfl, rfl, _, rfl, ?_⟩
      refine ite2 (fun c => absurd c (by decide)) (fun _ => ?_)
      refine ⟨_, rfl, rfl, _, rfl, ?_⟩
      refine ite2 (fun c => absurd c (by decide)) (fun _ => ?_)
      refine ⟨_, rfl, rfl, _, rfl, ?_⟩
      refine ite2 (fun c => absurd c (by decide)) (fun _ => ?_)
      refine ⟨_, rfl, ?_⟩
      exact ⟨A, M, L, n, ts, g, rfl, hA, R, k⟩
theorem sc_answers : FnScope ["calls", "house", "told", "start", "length", "answer"] ["calls"] (defScope s_answers) := ⟨rfl, rfl, rfl, by decide +kernel, rfl, by decide +kernel, by decide +kernel⟩
def spAns (K : PySem.W.Frag) : Sp := fun vs H Q _ => ∃ (a : Addr) (ns : List Int), vs = [.ref a] ∧ SqL K H a (ns.map V.int) ∧ PyUe01.answers_asked ns = true ∧ ∀ (H' : Hp) (p : Addr), H' p = some (.lst ((PyUe01.answers ns).map V.int)) → Q (.ref p) H'
theorem ok_answers (Y : TX K mg) : FnOk P w K mg base CX0 14 Y.f_answers Y.d_answers ["calls"] (spAns K) := by
  refine Y.g_answers.fn.ok sc_answers (fun vs H Q E h => ?_) (fun cdv A outer s H vs Q E hr h => ?_)
  · obtain ⟨a, ns, rfl, _⟩ := h
    rfl
  · obtain ⟨C, ns, rfl, hC, hask, k⟩ := h
    obtain ⟨raw, c1, c2, c3, c4⟩ := Ph.asked_open hask
    have hline : sizeLine = 16777216 := sizeLine_eq
    refine ⟨_, (pss_cons (ps_set (i := 1) sc_answers.nd rfl (Or.inl rfl) (pe_make0 Y.mk_House (ok_House_init Y) (hr.mono (by decide)) rfl Y.c_House Y.i_House.bd .nil pass0))
      (pss_cons (ps_set (i := 2) sc_answers.nd rfl (Or.inl rfl) (pe_lst pa_nil))
      (pss_cons (ps_set (i := 3) sc_answers.nd rfl (Or.inl rfl) pe_int)
      (pss_cons (ps_while PassesOwn.never (pt_cmpR op_lt (pv 3) (pe_callB call_len_seq (by rfl) Y.b_len PySem.boot_len (pa_cons (pv 0) pa_nil)) (nomark _)) (pss_cons (ps_set (i := 4) sc_answers.nd rfl (Or.inl rfl) (pe_call (ok_call_length Y) (hr.mono (by decide)) rfl Y.g_call_length.at_ Y.g_call_length.fn.kp Y.g_call_length.bd .nil pass0 (pa_cons (pv 0) (pa_cons (pv 3) pa_nil))))
        (pss_cons (ps_set (i := 5) sc_answers.nd rfl (Or.inl rfl) (pe_call (ok_call_answer Y) (hr.mono (by decide)) rfl Y.g_call_answer.at_ Y.g_call_answer.fn.kp Y.g_call_answer.bd .nil pass0 (pa_cons (pv 1) (pa_cons (pe_slice sl_list (pv 0) (po_some (pv 3)) (po_some (pe_op op_add (pv 3) (pv 4)))) pa_nil))))
        (pss_cons (ps_expr (pe_bm PySem.F.plainAttrs_list PySem.F.slot_list_append PySem.F.type_list_append mt_append (pv 2) (pa_cons (pe_callB call_len_seq (by rfl) Y.b_len PySem.boot_len (pa_cons (pv 5) pa_nil)) pa_nil)))
        (pss_cons (ps_expr (pe_bm PySem.F.plainAttrs_list PySem.F.slot_list_extend PySem.F.type_list_extend mt_extend (pv 2) (pa_cons (pv 5) pa_nil)))
        (pss_one (ps_aug (i := 3) sc_answers.nd rfl (Or.inl rfl) (pv 4) ip_add)))))))
      (pss_one (ps_ret (pv 2))))))), ?_⟩
    intro A dA hA0 hdA hne
    refine ⟨A, dA, rfl, upd_same, fun H1 M L hA1 hM0 hL0 k1 => ⟨rfl, ?_⟩⟩
    have s1 : Same H H1 := fun b o e => k1 b o (by rw [upd_ne (ne_of_none e hA0), upd_ne (ne_of_none e hdA)]; exact e) (ne_of_none e hA0)
    have fr1 : ∀ b, (upd (upd H dA (.own A)) A (.ins Y.CH dA [])) b = none → H b = none := fun b e => by
      cases q : H b with
      | none => rfl
      | some o =>
        rw [upd_ne (ne_of_none q hA0), upd_ne (ne_of_none q hdA), q] at e
        cases e
    have hM : H M = none := fr1 M hM0
    have hL : H L = none := fr1 L hL0
    refine ⟨Nat.zero_le _, fun T hT => ?_⟩
    have sT : Same H1 (upd H1 T (.lst [])) := fun b o e => by rw [upd_ne (ne_of_none e hT)]; exact e
    obtain ⟨xs0, eL0, _⟩ := hA1.len
    obtain ⟨dM0, eM0⟩ := hA1.mkr
    have nTL : T ≠ L := fun z => by rw [z, eL0] at hT; cases hT
    have nTM : T ≠ M := fun z => by rw [z, eM0] at hT; cases hT
    refine ⟨fun m σ H' => ∃ (pre rest : List Int) (raw : List (List (List Int))) (f n : Nat) (g : Ue01.St) (ts : List (Option Ph.T)) (out : List Int) (o4 o5 : Option V), σ = [some (.ref C), some (.ref A), some (.ref T), some (.int ((pre.length : Nat) : Int)), o4, o5] ∧ ns = pre ++ rest ∧
        PyFlat.calls PyUe01.shape f rest = some raw ∧ (∀ c, c ∈ raw → Ph.Good1 c) ∧ PyUe01.answers ns = out ++ Ph.due g raw ∧ HouseAt Y.toCs H' A M L n ts ∧ Ph.Rel g n ts ∧ H' T = some (.lst (out.map V.int)) ∧ Same H H' ∧ m = rest.length,
      ⟨_, [], ns, raw, ns.length, 0, Ue01.init, [none], [], none, none, rfl, rfl, c1, c2, c3, hA1.same sT, Ph.Rel.start, upd_same, s1.trans sT, rfl⟩, ?_⟩
    rintro m σ H2 ⟨pre, rest, raw2, f, n, g, ts, out, o4, o5, rfl, e1, e2, e3, e4, hA2, R, hT2, sm, rfl⟩
    have hC2 := sm.seq hC
    refine ⟨_, rfl, _, rfl, C, _, rfl, .inl hC2, _, _, rfl, rfl, _, rfl, ?_⟩
    rw [List.length_map]
    refine ite2 (fun c => ?_) (fun c => ?_)
    · have c' : rest ≠ [] := fun z => by
        have := of_decide_eq_true c
        rw [e1, z, List.append_nil] at this
        omega
      obtain ⟨f', c0, raw', seg, t, x, rfl, rfl, hseg, e6, e7⟩ := Ph.calls_next e2 e3 c'
      have sp := hseg.pos
      rw [Ph.due_cons, e7] at e4
      refine ⟨fun σ' H' => ∃ (pre rest : List Int) (raw : List (List (List Int))) (f n : Nat) (g : Ue01.St) (ts : List (Option Ph.T)) (out : List Int) (o4 o5 : Option V), σ' = [some (.ref C), some (.ref A), some (.ref T), some (.int ((pre.length : Nat) : Int)), o4, o5] ∧ ns = pre ++ rest ∧
        PyFlat.calls PyUe01.shape f rest = some raw ∧ (∀ c, c ∈ raw → Ph.Good1 c) ∧ PyUe01.answers ns = out ++ Ph.due g raw ∧ HouseAt Y.toCs H' A M L n ts ∧ Ph.Rel g n ts ∧ H' T = some (.lst (out.map V.int)) ∧ Same H H' ∧ rest.length < (seg ++ t).length, ?_, ?_⟩
      · rintro σ' H' ⟨pre2, rest2, raw3, f2, n2, g2, ts2, out2, o42, o52, rfl, q1, q2, q3, q4, q5, q6, q7, q8, q9⟩
        exact ⟨_, q9, pre2, rest2, raw3, f2, n2, g2, ts2, out2, o42, o52, rfl, q1, q2, q3, q4, q5, q6, q7, q8, rfl⟩
      rw [e1] at hC2
      refine ⟨_, rfl, _, rfl, ?_⟩
      refine ⟨C, pre, seg, t, x, rfl, hC2, hseg, ?_⟩
      refine ⟨_, rfl, ?_⟩
      refine ⟨_, rfl, _, rfl, _, rfl, ?_⟩
      refine ⟨_, rfl, _, rfl, _, _, rfl, rfl, _, rfl, ?_⟩
      refine ⟨C, _, rfl, hC2, fun S hS => ?_⟩
      have e8 : ((pre.length : Nat) : Int) + ((seg.length : Nat) : Int) = ((pre.length + seg.length : Nat) : Int) := by omega
      dsimp only
      rw [e8, cut_seg]
      have sS : Same H2 (upd H2 S (.lst (seg.map V.int))) := fun b o e => by rw [upd_ne (ne_of_none e hS)]; exact e
      refine ⟨A, M, L, S, n, ts, g, seg, x, rfl, hA2.same sS, R, upd_same, hseg, fun H3 p n3 ts3 hA3 R3 hp hp0 k3 => ?_⟩
      have hT3 : H3 T = some (.lst (out.map V.int)) := k3 _ _ (sS _ _ hT2) nTM nTL
      have nTp : T ≠ p := ne_of_none (sS _ _ hT2) hp0
      have sm3 : Same H H3 := fun b o e => k3 b o (sS _ _ (sm _ _ e)) (ne_of_none e hM) (ne_of_none e hL)
      have hTL3 : T ≠ L := nTL
      have lens : out.length + 1 + (Ue01.step g x).2.length ≤ 10000000 := by
        have := congrArg List.length e4
        rw [List.length_append, List.length_cons, List.length_append] at this
        omega
      refine ⟨_, rfl, .inl ⟨rfl, _, SqL.of hT3⟩, ?_⟩
      refine ⟨_, rfl, p, _, rfl, .inl (SqL.of hp), ?_⟩
      rw [List.length_map]
      refine ⟨T, _, _, rfl, rfl, hT3, by rw [List.length_map]; omega, ?_⟩
      have nbT := NB.lst hT3
      have hT4 : (upd H3 T (.lst (out.map V.int ++ [.int (((Ue01.step g x).2.length : Nat) : Int)]))) T = some (.lst (out.map V.int ++ [.int (((Ue01.step g x).2.length : Nat) : Int)])) := upd_same
      have hp4 : (upd H3 T (.lst (out.map V.int ++ [.int (((Ue01.step g x).2.length : Nat) : Int)]))) p = some (.lst ((Ue01.step g x).2.map V.int)) := by rw [upd_ne (Ne.symm nTp)]; exact hp
      refine ⟨_, rfl, .inl ⟨rfl, _, SqL.of hT4⟩, ?_⟩
      refine ⟨_, rfl, T, p, _, _, rfl, rfl, hT4, hp4, by simp only [List.length_append, List.length_map, List.length_cons, List.length_nil]; omega, ?_⟩
      refine ⟨_, rfl, _, rfl, _, _, rfl, rfl, ?_⟩
      rw [upd_upd]
      have fT : H T = none := s1.free hT
      refine ⟨pre ++ seg, t, raw', f', n3, _, ts3, out ++ (((Ue01.step g x).2.length : Nat) : Int) :: (Ue01.step g x).2, some (.int ((seg.length : Nat) : Int)), some (.ref p), ?_, ?_, e6, fun c hc => e3 c (List.mem_cons_of_mem _ hc), ?_, hA3.at hTL3 (Ne.symm nTM) nbT _, R3, ?_, ?_, ?_⟩
      · rw [List.length_append, ← e8]
        rfl
      · rw [e1, List.append_assoc]
      · rw [e4, List.append_assoc]
        rfl
      · rw [upd_same, List.map_append, List.map_cons, List.append_assoc]
        rfl
      · intro b o e
        rw [upd_ne (ne_of_none e fT)]; exact sm3 b o e
      · rw [List.length_append]; omega
    · have c' : rest = [] := by
        cases rest with
        | nil => rfl
        | cons z r =>
          exact absurd (decide_eq_true (by rw [e1, List.length_append, List.length_cons]; omega)) c
      subst c'
      have r0 := Ph.calls_done e2
      subst r0
      rw [Ph.due_nil, List.append_nil] at e4
      refine ⟨_, rfl, ?_⟩
      rw [e4] at k
      exact k H2 T hT2
end
end Pw
set_option Elab.async false
set_option linter.all false
set_option maxRecDepth 100000
namespace Pw
open PySem PySem.Spec PyProof.Rows L2
theorem fin {P : Program} {w : World} {K : PySem.W.Frag} {mg : Str → Option Value} {fa : Addr} {h : Heap} (KX : K.In h) (G : h.Ns mainGlobals mg) (hmg : mg "answers" = some (.ref fa)) (hY : ∃ Y : TX K mg, True) :
    ∃ fd : FuncData, (∀ (s : Shared) (us : List Value), us.length = (["calls"] : List Str).length → BindsTo s fd ⟨us, []⟩ ((["calls"] : List Str).zip us)) ∧ ∀ base : Heap, K.In base → base.Ns mainGlobals mg → FnOk P w K mg base CX0 14 fa fd ["calls"] (spAns K) := by
  obtain ⟨Y, _⟩ := hY
  have e := hmg.symm.trans Y.g_answers.at_
  cases e
  refine ⟨Y.d_answers, fun s us hl => ?_, fun base _ _ => ok_answers Y⟩
  obtain ⟨oc, od, kV, doc, pm, an, cdv, ct, osl, e, lk, hcd⟩ := Y.g_answers.fn.ex
  rw [e]
  match us, hl with
  | [_], _ => exact .of_eq rfl
theorem fin2 {K : PySem.W.Frag} {H : Hp} {p : Addr} {ns : List Int} (hask : PyUe01.answers_asked ns = true) (hs : SqL K H p (ns.map V.int)) :
    spAns K [.ref p] H (fun v H' => Dw K H' v (.list ((PyUe01.answers ns).map PySem.W.WData.int))) (fun _ _ _ => False) :=
  ⟨p, ns, rfl, hs, hask, fun H' p hp => .lst (SqL.of hp) (dw_ints _)⟩
end Pw
set_option Elab.async false
set_option linter.all false
set_option maxRecDepth 100000
namespace Pw
open PySem PySem.W PyProof.Rows L2
theorem fun_ex {K : PySem.W.Frag} {f : Addr} {x qual : Str} {st : Stmt} {dv : Value} (l : fshape K f = some (fdue x qual st dv)) (c : codeAt K f qual = true) :
    ∃ (oc : Value) (od : Option Addr) (kV doc pm : Value) (an : Option Addr) (cdv ct : Value) (osl : Array (Option Value)), K.lookup f = some ⟨oc, od, .func (PySem.W.fnOf x qual (defArgs st) (defBody st) (defScope st) dv kV doc pm an cdv ct), osl⟩ ∧ PySem.W.codeIn K cdv qual = true := by
  unfold fshape at l
  unfold codeAt at c
  cases e : K.lookup f with
  | none =>
    rw [e] at l
    cases l
  | some o =>
    obtain ⟨oc, od, da, osl⟩ := o
    rw [e] at l c
    cases da with
    | func fd =>
      obtain ⟨f1, f2, f3, f4, f5, f6, f7, f8, f9, f10, f11, f12, f13, f14, f15⟩ := fd
      have z := Option.some.inj l
      unfold fdue at z
      simp only [Prod.mk.injEq] at z
      obtain ⟨rfl, rfl, rfl, rfl, rfl, rfl, rfl, rfl, rfl⟩ := z
      exact ⟨oc, od, f9, f10, f11, f12, f13, f14, osl, rfl, c⟩
    | _ => cases l
theorem funN_ex {K : PySem.W.Frag} {f : Addr} {x qual : Str} {st : Stmt} (l : fshape K f = some (fdue x qual st .none)) (c : codeAt K f qual = true) (k : PySem.W.keepIn K (.ref f) = true) : ∃ fd, Fun K x qual st f fd := by
  obtain ⟨oc, od, kV, doc, pm, an, cdv, ct, osl, e, h⟩ := fun_ex l c
  exact ⟨_, fun_mk e h k⟩
theorem seq_ex {K : PySem.W.Frag} {a : Addr} {c : Value} {its : List Value} (h : seqAt K a = some (c, its)) : ∃ (od : Option Addr) (n : Nat) (sl : Array (Option Value)), K.lookup a = some ⟨c, od, .seq its.toArray n, sl⟩ := by
  unfold seqAt at h
  cases e : K.lookup a with
  | none =>
    rw [e] at h
    cases h
  | some o =>
    obtain ⟨oc, od, da, osl⟩ := o
    rw [e] at h
    cases da with
    | seq xs n =>
      have z := Option.some.inj h
      simp only [Prod.mk.injEq] at z
      obtain ⟨rfl, rfl⟩ := z
      exact ⟨od, n, osl, rfl⟩
    | _ => cases h
theorem seqT_ex {K : PySem.W.Frag} {H : Hp} {a : Addr} {its : List Value} {xs : List V} (h : seqAt K a = some (.type "tuple", its)) (z : its.length ≤ sizeLine) (v : Vals xs its) : SqT K H a xs := by
  obtain ⟨od, n, sl, e⟩ := seq_ex h
  exact .inr ⟨_, _, _, e, rfl, rfl, z, v⟩
theorem funD_ex {K : PySem.W.Frag} {f da : Addr} {x qual : Str} {st : Stmt} {d : Value} (l : fshape K f = some (fdue x qual st (.ref da))) (c : codeAt K f qual = true) (k : PySem.W.keepIn K (.ref f) = true) (h : (seqAt K da).map (·.2) = some [d]) : ∃ fd, Lx.FunD K x qual st da [d] f fd := by
  obtain ⟨oc, od, kV, doc, pm, an, cdv, ct, osl, e, hc⟩ := fun_ex l c
  obtain ⟨⟨cl, its⟩, e1, e2⟩ := Option.map_eq_some_iff.mp h
  have e3 : its = [d] := e2
  subst e3
  obtain ⟨od2, n2, sl2, e4⟩ := seq_ex e1
  exact ⟨_, ⟨oc, od, kV, doc, pm, an, cdv, ct, osl, rfl, e, hc⟩, k, cl, od2, n2, sl2, e4⟩
theorem cn_binds {K : PySem.W.Frag} {da f : Addr} {d : Value} {fd : FuncData} (F : Lx.FunD K "count_nodes" "count_nodes" s_count_nodes da [d] f fd) : Binds K fd ["trees", "earlier"] [] ∧ Binds K fd ["trees", "earlier"] [d] := by
  refine F.two ?_
  intro kV doc pm an cdv ct u v M A E Q s hs
  constructor
  · intro hq
    show wpAny M A (seqItems? (.ref da) >>= _) Q E s
    refine wpAny_bind (hs _ ?_)
    exact wpAny_pure hq
  · intro hq
    show wpAny M A (seqItems? (.ref da) >>= _) Q E s
    refine wpAny_bind (hs _ ?_)
    exact wpAny_pure hq
set_option maxHeartbeats 0 in
theorem tx_of {K : PySem.W.Frag} {h : Heap} {mg : Str → Option Value} (X : K.In h) (G : h.Ns mainGlobals mg) (H : Hf K) : ∃ Y : TX K mg, True := ⟨{
  CL := 31
  cl_Leaf := ⟨H.pgCL, H.hdCL, H.poCL, H.saCL⟩
  c_Leaf := PySem.W.mg_of X G H.gCL
  aL := H.nCL
  fi_Leaf := 28
  di_Leaf := (funN_ex H.lLeaf_init H.cLeaf_init H.kLeaf_init).choose
  i_Leaf := ⟨(funN_ex H.lLeaf_init H.cLeaf_init H.kLeaf_init).choose_spec, (funN_ex H.lLeaf_init H.cLeaf_init H.kLeaf_init).choose_spec.binds (ps := ["self", "number", "content"]) fun _ _ _ _ _ _ us hl => match us, hl with | [_, _, _], _ => rfl⟩
  mk_Leaf := ⟨H.mkCL, H.aLeaf_init, H.iLeaf_init, H.kcCL⟩
  CF := 52
  cl_Fork := ⟨H.pgCF, H.hdCF, H.poCF, H.saCF⟩
  c_Fork := PySem.W.mg_of X G H.gCF
  aF := H.nCF
  fi_Fork := 49
  di_Fork := (funN_ex H.lFork_init H.cFork_init H.kFork_init).choose
  i_Fork := ⟨(funN_ex H.lFork_init H.cFork_init H.kFork_init).choose_spec, (funN_ex H.lFork_init H.cFork_init H.kFork_init).choose_spec.binds (ps := ["self", "number", "first", "second"]) fun _ _ _ _ _ _ us hl => match us, hl with | [_, _, _, _], _ => rfl⟩
  mk_Fork := ⟨H.mkCF, H.aFork_init, H.iFork_init, H.kcCF⟩
  CM := 87
  cl_Maker := ⟨H.pgCM, H.hdCM, H.poCM, H.saCM⟩
  c_Maker := PySem.W.mg_of X G H.gCM
  aM := H.nCM
  fi_Maker := 70
  di_Maker := (funN_ex H.lMaker_init H.cMaker_init H.kMaker_init).choose
  i_Maker := ⟨(funN_ex H.lMaker_init H.cMaker_init H.kMaker_init).choose_spec, (funN_ex H.lMaker_init H.cMaker_init H.kMaker_init).choose_spec.binds (ps := ["self"]) fun _ _ _ _ _ _ us hl => match us, hl with | [_], _ => rfl⟩
  mk_Maker := ⟨H.mkCM, H.aMaker_init, H.iMaker_init, H.kcCM⟩
  f_Maker_leaf := 77
  d_Maker_leaf := (funN_ex H.lMaker_leaf H.cMaker_leaf H.kMaker_leaf).choose
  m_Maker_leaf := ⟨(funN_ex H.lMaker_leaf H.cMaker_leaf H.kMaker_leaf).choose_spec, ⟨H.aMaker_leaf, H.iMaker_leaf, H.kMaker_leaf⟩, (funN_ex H.lMaker_leaf H.cMaker_leaf H.kMaker_leaf).choose_spec.binds (ps := ["self", "content"]) fun _ _ _ _ _ _ us hl => match us, hl with | [_, _], _ => rfl⟩
  f_Maker_over := 84
  d_Maker_over := (funN_ex H.lMaker_over H.cMaker_over H.kMaker_over).choose
  m_Maker_over := ⟨(funN_ex H.lMaker_over H.cMaker_over H.kMaker_over).choose_spec, ⟨H.aMaker_over, H.iMaker_over, H.kMaker_over⟩, (funN_ex H.lMaker_over H.cMaker_over H.kMaker_over).choose_spec.binds (ps := ["self", "first", "second"]) fun _ _ _ _ _ _ us hl => match us, hl with | [_, _, _], _ => rfl⟩
  CH := 319
  cl_House := ⟨H.pgCH, H.hdCH, H.poCH, H.saCH⟩
  c_House := PySem.W.mg_of X G H.gCH
  aH := H.nCH
  fi_House := 295
  di_House := (funN_ex H.lHouse_init H.cHouse_init H.kHouse_init).choose
  i_House := ⟨(funN_ex H.lHouse_init H.cHouse_init H.kHouse_init).choose_spec, (funN_ex H.lHouse_init H.cHouse_init H.kHouse_init).choose_spec.binds (ps := ["self"]) fun _ _ _ _ _ _ us hl => match us, hl with | [_], _ => rfl⟩
  mk_House := ⟨H.mkCH, H.aHouse_init, H.iHouse_init, H.kcCH⟩
  f_House_has := 302
  d_House_has := (funN_ex H.lHouse_has H.cHouse_has H.kHouse_has).choose
  m_House_has := ⟨(funN_ex H.lHouse_has H.cHouse_has H.kHouse_has).choose_spec, ⟨H.aHouse_has, H.iHouse_has, H.kHouse_has⟩, (funN_ex H.lHouse_has H.cHouse_has H.kHouse_has).choose_spec.binds (ps := ["self", "version"]) fun _ _ _ _ _ _ us hl => match us, hl with | [_, _], _ => rfl⟩
  f_House_is_full := 309
  d_House_is_full := (funN_ex H.lHouse_is_full H.cHouse_is_full H.kHouse_is_full).choose
  m_House_is_full := ⟨(funN_ex H.lHouse_is_full H.cHouse_is_full H.kHouse_is_full).choose_spec, ⟨H.aHouse_is_full, H.iHouse_is_full, H.kHouse_is_full⟩, (funN_ex H.lHouse_is_full H.cHouse_is_full H.kHouse_is_full).choose_spec.binds (ps := ["self"]) fun _ _ _ _ _ _ us hl => match us, hl with | [_], _ => rfl⟩
  f_House_keep := 316
  d_House_keep := (funN_ex H.lHouse_keep H.cHouse_keep H.kHouse_keep).choose
  m_House_keep := ⟨(funN_ex H.lHouse_keep H.cHouse_keep H.kHouse_keep).choose_spec, ⟨H.aHouse_keep, H.iHouse_keep, H.kHouse_keep⟩, (funN_ex H.lHouse_keep H.cHouse_keep H.kHouse_keep).choose_spec.binds (ps := ["self", "tree", "earlier"]) fun _ _ _ _ _ _ us hl => match us, hl with | [_, _, _], _ => rfl⟩
  c_LINE_FEED := ⟨189, PySem.W.mg_of X G H.vLINE_FEED⟩
  f_line_sizes := 98
  d_line_sizes := (funN_ex H.lline_sizes H.cline_sizes H.kline_sizes).choose
  g_line_sizes := ⟨(funN_ex H.lline_sizes H.cline_sizes H.kline_sizes).choose_spec, PySem.W.mg_of X G H.aline_sizes, (funN_ex H.lline_sizes H.cline_sizes H.kline_sizes).choose_spec.binds (ps := ["content"]) fun _ _ _ _ _ _ us hl => match us, hl with | [_], _ => rfl⟩
  f_longest_over := 105
  d_longest_over := (funN_ex H.llongest_over H.clongest_over H.klongest_over).choose
  g_longest_over := ⟨(funN_ex H.llongest_over H.clongest_over H.klongest_over).choose_spec, PySem.W.mg_of X G H.alongest_over, (funN_ex H.llongest_over H.clongest_over H.klongest_over).choose_spec.binds (ps := ["first", "second"]) fun _ _ _ _ _ _ us hl => match us, hl with | [_, _], _ => rfl⟩
  f_count_nodes := 113
  d_count_nodes := (funD_ex H.lcount_nodes H.ccount_nodes H.kcount_nodes H.dcn).choose
  a_count_nodes := 106
  t_count_nodes := 334
  g_count_nodes := ⟨(funD_ex H.lcount_nodes H.ccount_nodes H.kcount_nodes H.dcn).choose_spec, PySem.W.mg_of X G H.acount_nodes, (cn_binds (funD_ex H.lcount_nodes H.ccount_nodes H.kcount_nodes H.dcn).choose_spec).1, (cn_binds (funD_ex H.lcount_nodes H.ccount_nodes H.kcount_nodes H.dcn).choose_spec).2⟩
  f_size_of := 120
  d_size_of := (funN_ex H.lsize_of H.csize_of H.ksize_of).choose
  g_size_of := ⟨(funN_ex H.lsize_of H.csize_of H.ksize_of).choose_spec, PySem.W.mg_of X G H.asize_of, (funN_ex H.lsize_of H.csize_of H.ksize_of).choose_spec.binds (ps := ["tree"]) fun _ _ _ _ _ _ us hl => match us, hl with | [_], _ => rfl⟩
  f_feeds_of := 127
  d_feeds_of := (funN_ex H.lfeeds_of H.cfeeds_of H.kfeeds_of).choose
  g_feeds_of := ⟨(funN_ex H.lfeeds_of H.cfeeds_of H.kfeeds_of).choose_spec, PySem.W.mg_of X G H.afeeds_of, (funN_ex H.lfeeds_of H.cfeeds_of H.kfeeds_of).choose_spec.binds (ps := ["tree"]) fun _ _ _ _ _ _ us hl => match us, hl with | [_], _ => rfl⟩
  f_height_of := 134
  d_height_of := (funN_ex H.lheight_of H.cheight_of H.kheight_of).choose
  g_height_of := ⟨(funN_ex H.lheight_of H.cheight_of H.kheight_of).choose_spec, PySem.W.mg_of X G H.aheight_of, (funN_ex H.lheight_of H.cheight_of H.kheight_of).choose_spec.binds (ps := ["tree"]) fun _ _ _ _ _ _ us hl => match us, hl with | [_], _ => rfl⟩
  f_leaves_of := 141
  d_leaves_of := (funN_ex H.lleaves_of H.cleaves_of H.kleaves_of).choose
  g_leaves_of := ⟨(funN_ex H.lleaves_of H.cleaves_of H.kleaves_of).choose_spec, PySem.W.mg_of X G H.aleaves_of, (funN_ex H.lleaves_of H.cleaves_of H.kleaves_of).choose_spec.binds (ps := ["tree"]) fun _ _ _ _ _ _ us hl => match us, hl with | [_], _ => rfl⟩
  f_longest_of := 148
  d_longest_of := (funN_ex H.llongest_of H.clongest_of H.klongest_of).choose
  g_longest_of := ⟨(funN_ex H.llongest_of H.clongest_of H.klongest_of).choose_spec, PySem.W.mg_of X G H.alongest_of, (funN_ex H.llongest_of H.clongest_of H.klongest_of).choose_spec.binds (ps := ["tree"]) fun _ _ _ _ _ _ us hl => match us, hl with | [_], _ => rfl⟩
  f_bytes_between := 155
  d_bytes_between := (funN_ex H.lbytes_between H.cbytes_between H.kbytes_between).choose
  g_bytes_between := ⟨(funN_ex H.lbytes_between H.cbytes_between H.kbytes_between).choose_spec, PySem.W.mg_of X G H.abytes_between, (funN_ex H.lbytes_between H.cbytes_between H.kbytes_between).choose_spec.binds (ps := ["tree", "begin", "end"]) fun _ _ _ _ _ _ us hl => match us, hl with | [_, _, _], _ => rfl⟩
  f_place_behind_feed := 162
  d_place_behind_feed := (funN_ex H.lplace_behind_feed H.cplace_behind_feed H.kplace_behind_feed).choose
  g_place_behind_feed := ⟨(funN_ex H.lplace_behind_feed H.cplace_behind_feed H.kplace_behind_feed).choose_spec, PySem.W.mg_of X G H.aplace_behind_feed, (funN_ex H.lplace_behind_feed H.cplace_behind_feed H.kplace_behind_feed).choose_spec.binds (ps := ["tree", "count"]) fun _ _ _ _ _ _ us hl => match us, hl with | [_, _], _ => rfl⟩
  f_line_begin := 169
  d_line_begin := (funN_ex H.lline_begin H.cline_begin H.kline_begin).choose
  g_line_begin := ⟨(funN_ex H.lline_begin H.cline_begin H.kline_begin).choose_spec, PySem.W.mg_of X G H.aline_begin, (funN_ex H.lline_begin H.cline_begin H.kline_begin).choose_spec.binds (ps := ["tree", "line"]) fun _ _ _ _ _ _ us hl => match us, hl with | [_, _], _ => rfl⟩
  f_line_end := 176
  d_line_end := (funN_ex H.lline_end H.cline_end H.kline_end).choose
  g_line_end := ⟨(funN_ex H.lline_end H.cline_end H.kline_end).choose_spec, PySem.W.mg_of X G H.aline_end, (funN_ex H.lline_end H.cline_end H.kline_end).choose_spec.binds (ps := ["tree", "line"]) fun _ _ _ _ _ _ us hl => match us, hl with | [_, _], _ => rfl⟩
  f_feeds_ahead := 183
  d_feeds_ahead := (funN_ex H.lfeeds_ahead H.cfeeds_ahead H.kfeeds_ahead).choose
  g_feeds_ahead := ⟨(funN_ex H.lfeeds_ahead H.cfeeds_ahead H.kfeeds_ahead).choose_spec, PySem.W.mg_of X G H.afeeds_ahead, (funN_ex H.lfeeds_ahead H.cfeeds_ahead H.kfeeds_ahead).choose_spec.binds (ps := ["tree", "place"]) fun _ _ _ _ _ _ us hl => match us, hl with | [_, _], _ => rfl⟩
  f_count_alike := 190
  d_count_alike := (funN_ex H.lcount_alike H.ccount_alike H.kcount_alike).choose
  g_count_alike := ⟨(funN_ex H.lcount_alike H.ccount_alike H.kcount_alike).choose_spec, PySem.W.mg_of X G H.acount_alike, (funN_ex H.lcount_alike H.ccount_alike H.kcount_alike).choose_spec.binds (ps := ["some", "others"]) fun _ _ _ _ _ _ us hl => match us, hl with | [_, _], _ => rfl⟩
  c_MOST_IN_LEAF := ⟨444, PySem.W.mg_of X G H.vMOST_IN_LEAF⟩
  f_with_behind := 197
  d_with_behind := (funN_ex H.lwith_behind H.cwith_behind H.kwith_behind).choose
  g_with_behind := ⟨(funN_ex H.lwith_behind H.cwith_behind H.kwith_behind).choose_spec, PySem.W.mg_of X G H.awith_behind, (funN_ex H.lwith_behind H.cwith_behind H.kwith_behind).choose_spec.binds (ps := ["maker", "x", "t"]) fun _ _ _ _ _ _ us hl => match us, hl with | [_, _, _], _ => rfl⟩
  f_with_ahead := 204
  d_with_ahead := (funN_ex H.lwith_ahead H.cwith_ahead H.kwith_ahead).choose
  g_with_ahead := ⟨(funN_ex H.lwith_ahead H.cwith_ahead H.kwith_ahead).choose_spec, PySem.W.mg_of X G H.awith_ahead, (funN_ex H.lwith_ahead H.cwith_ahead H.kwith_ahead).choose_spec.binds (ps := ["maker", "x", "t"]) fun _ _ _ _ _ _ us hl => match us, hl with | [_, _, _], _ => rfl⟩
  f_joined := 211
  d_joined := (funN_ex H.ljoined H.cjoined H.kjoined).choose
  g_joined := ⟨(funN_ex H.ljoined H.cjoined H.kjoined).choose_spec, PySem.W.mg_of X G H.ajoined, (funN_ex H.ljoined H.cjoined H.kjoined).choose_spec.binds (ps := ["maker", "a", "b"]) fun _ _ _ _ _ _ us hl => match us, hl with | [_, _, _], _ => rfl⟩
  f_first_leaf := 218
  d_first_leaf := (funN_ex H.lfirst_leaf H.cfirst_leaf H.kfirst_leaf).choose
  g_first_leaf := ⟨(funN_ex H.lfirst_leaf H.cfirst_leaf H.kfirst_leaf).choose_spec, PySem.W.mg_of X G H.afirst_leaf, (funN_ex H.lfirst_leaf H.cfirst_leaf H.kfirst_leaf).choose_spec.binds (ps := ["tree"]) fun _ _ _ _ _ _ us hl => match us, hl with | [_], _ => rfl⟩
  f_last_leaf := 225
  d_last_leaf := (funN_ex H.llast_leaf H.clast_leaf H.klast_leaf).choose
  g_last_leaf := ⟨(funN_ex H.llast_leaf H.clast_leaf H.klast_leaf).choose_spec, PySem.W.mg_of X G H.alast_leaf, (funN_ex H.llast_leaf H.clast_leaf H.klast_leaf).choose_spec.binds (ps := ["tree"]) fun _ _ _ _ _ _ us hl => match us, hl with | [_], _ => rfl⟩
  f_without_first_leaf := 232
  d_without_first_leaf := (funN_ex H.lwithout_first_leaf H.cwithout_first_leaf H.kwithout_first_leaf).choose
  g_without_first_leaf := ⟨(funN_ex H.lwithout_first_leaf H.cwithout_first_leaf H.kwithout_first_leaf).choose_spec, PySem.W.mg_of X G H.awithout_first_leaf, (funN_ex H.lwithout_first_leaf H.cwithout_first_leaf H.kwithout_first_leaf).choose_spec.binds (ps := ["maker", "tree"]) fun _ _ _ _ _ _ us hl => match us, hl with | [_, _], _ => rfl⟩
  f_without_last_leaf := 239
  d_without_last_leaf := (funN_ex H.lwithout_last_leaf H.cwithout_last_leaf H.kwithout_last_leaf).choose
  g_without_last_leaf := ⟨(funN_ex H.lwithout_last_leaf H.cwithout_last_leaf H.kwithout_last_leaf).choose_spec, PySem.W.mg_of X G H.awithout_last_leaf, (funN_ex H.lwithout_last_leaf H.cwithout_last_leaf H.kwithout_last_leaf).choose_spec.binds (ps := ["maker", "tree"]) fun _ _ _ _ _ _ us hl => match us, hl with | [_, _], _ => rfl⟩
  f_sewn := 246
  d_sewn := (funN_ex H.lsewn H.csewn H.ksewn).choose
  g_sewn := ⟨(funN_ex H.lsewn H.csewn H.ksewn).choose_spec, PySem.W.mg_of X G H.asewn, (funN_ex H.lsewn H.csewn H.ksewn).choose_spec.binds (ps := ["maker", "a", "b"]) fun _ _ _ _ _ _ us hl => match us, hl with | [_, _, _], _ => rfl⟩
  f_parted := 253
  d_parted := (funN_ex H.lparted H.cparted H.kparted).choose
  g_parted := ⟨(funN_ex H.lparted H.cparted H.kparted).choose_spec, PySem.W.mg_of X G H.aparted, (funN_ex H.lparted H.cparted H.kparted).choose_spec.binds (ps := ["maker", "tree", "place"]) fun _ _ _ _ _ _ us hl => match us, hl with | [_, _, _], _ => rfl⟩
  f_made_of_bytes := 260
  d_made_of_bytes := (funN_ex H.lmade_of_bytes H.cmade_of_bytes H.kmade_of_bytes).choose
  g_made_of_bytes := ⟨(funN_ex H.lmade_of_bytes H.cmade_of_bytes H.kmade_of_bytes).choose_spec, PySem.W.mg_of X G H.amade_of_bytes, (funN_ex H.lmade_of_bytes H.cmade_of_bytes H.kmade_of_bytes).choose_spec.binds (ps := ["maker", "content"]) fun _ _ _ _ _ _ us hl => match us, hl with | [_, _], _ => rfl⟩
  f_put_in := 267
  d_put_in := (funN_ex H.lput_in H.cput_in H.kput_in).choose
  g_put_in := ⟨(funN_ex H.lput_in H.cput_in H.kput_in).choose_spec, PySem.W.mg_of X G H.aput_in, (funN_ex H.lput_in H.cput_in H.kput_in).choose_spec.binds (ps := ["maker", "tree", "place", "middle"]) fun _ _ _ _ _ _ us hl => match us, hl with | [_, _, _, _], _ => rfl⟩
  f_taken_out := 274
  d_taken_out := (funN_ex H.ltaken_out H.ctaken_out H.ktaken_out).choose
  g_taken_out := ⟨(funN_ex H.ltaken_out H.ctaken_out H.ktaken_out).choose_spec, PySem.W.mg_of X G H.ataken_out, (funN_ex H.ltaken_out H.ctaken_out H.ktaken_out).choose_spec.binds (ps := ["maker", "tree", "begin", "end"]) fun _ _ _ _ _ _ us hl => match us, hl with | [_, _, _, _], _ => rfl⟩
  f_cut := 281
  d_cut := (funN_ex H.lcut H.ccut H.kcut).choose
  g_cut := ⟨(funN_ex H.lcut H.ccut H.kcut).choose_spec, PySem.W.mg_of X G H.acut, (funN_ex H.lcut H.ccut H.kcut).choose_spec.binds (ps := ["maker", "tree", "begin", "end"]) fun _ _ _ _ _ _ us hl => match us, hl with | [_, _, _, _], _ => rfl⟩
  c_UNFIT := ⟨594, PySem.W.mg_of X G H.vUNFIT⟩
  c_NO_VERSION := ⟨597, PySem.W.mg_of X G H.vNO_VERSION⟩
  c_NO_ROOM := ⟨600, PySem.W.mg_of X G H.vNO_ROOM⟩
  c_TOO_LONG := ⟨603, PySem.W.mg_of X G H.vTOO_LONG⟩
  c_MOST_VERSIONS := ⟨605, PySem.W.mg_of X G H.vMOST_VERSIONS⟩
  c_MOST_BYTES := ⟨607, PySem.W.mg_of X G H.vMOST_BYTES⟩
  c_MOST_AT_ONCE := ⟨609, PySem.W.mg_of X G H.vMOST_AT_ONCE⟩
  c_HIGHEST_BYTE := ⟨611, PySem.W.mg_of X G H.vHIGHEST_BYTE⟩
  f_is_range := 330
  d_is_range := (funN_ex H.lis_range H.cis_range H.kis_range).choose
  g_is_range := ⟨(funN_ex H.lis_range H.cis_range H.kis_range).choose_spec, PySem.W.mg_of X G H.ais_range, (funN_ex H.lis_range H.cis_range H.kis_range).choose_spec.binds (ps := ["tree", "begin", "end"]) fun _ _ _ _ _ _ us hl => match us, hl with | [_, _, _], _ => rfl⟩
  f_insert_answer := 337
  d_insert_answer := (funN_ex H.linsert_answer H.cinsert_answer H.kinsert_answer).choose
  g_insert_answer := ⟨(funN_ex H.linsert_answer H.cinsert_answer H.kinsert_answer).choose_spec, PySem.W.mg_of X G H.ainsert_answer, (funN_ex H.linsert_answer H.cinsert_answer H.kinsert_answer).choose_spec.binds (ps := ["house", "version", "place", "content"]) fun _ _ _ _ _ _ us hl => match us, hl with | [_, _, _, _], _ => rfl⟩
  f_delete_answer := 344
  d_delete_answer := (funN_ex H.ldelete_answer H.cdelete_answer H.kdelete_answer).choose
  g_delete_answer := ⟨(funN_ex H.ldelete_answer H.cdelete_answer H.kdelete_answer).choose_spec, PySem.W.mg_of X G H.adelete_answer, (funN_ex H.ldelete_answer H.cdelete_answer H.kdelete_answer).choose_spec.binds (ps := ["house", "version", "begin", "end"]) fun _ _ _ _ _ _ us hl => match us, hl with | [_, _, _, _], _ => rfl⟩
  f_copy_answer := 351
  d_copy_answer := (funN_ex H.lcopy_answer H.ccopy_answer H.kcopy_answer).choose
  g_copy_answer := ⟨(funN_ex H.lcopy_answer H.ccopy_answer H.kcopy_answer).choose_spec, PySem.W.mg_of X G H.acopy_answer, (funN_ex H.lcopy_answer H.ccopy_answer H.kcopy_answer).choose_spec.binds (ps := ["house", "version", "begin", "end", "into", "place"]) fun _ _ _ _ _ _ us hl => match us, hl with | [_, _, _, _, _, _], _ => rfl⟩
  f_part_answer := 358
  d_part_answer := (funN_ex H.lpart_answer H.cpart_answer H.kpart_answer).choose
  g_part_answer := ⟨(funN_ex H.lpart_answer H.cpart_answer H.kpart_answer).choose_spec, PySem.W.mg_of X G H.apart_answer, (funN_ex H.lpart_answer H.cpart_answer H.kpart_answer).choose_spec.binds (ps := ["house", "version", "begin", "end"]) fun _ _ _ _ _ _ us hl => match us, hl with | [_, _, _, _], _ => rfl⟩
  f_line_answer := 365
  d_line_answer := (funN_ex H.lline_answer H.cline_answer H.kline_answer).choose
  g_line_answer := ⟨(funN_ex H.lline_answer H.cline_answer H.kline_answer).choose_spec, PySem.W.mg_of X G H.aline_answer, (funN_ex H.lline_answer H.cline_answer H.kline_answer).choose_spec.binds (ps := ["house", "version", "line"]) fun _ _ _ _ _ _ us hl => match us, hl with | [_, _, _], _ => rfl⟩
  f_where_answer := 372
  d_where_answer := (funN_ex H.lwhere_answer H.cwhere_answer H.kwhere_answer).choose
  g_where_answer := ⟨(funN_ex H.lwhere_answer H.cwhere_answer H.kwhere_answer).choose_spec, PySem.W.mg_of X G H.awhere_answer, (funN_ex H.lwhere_answer H.cwhere_answer H.kwhere_answer).choose_spec.binds (ps := ["house", "version", "place"]) fun _ _ _ _ _ _ us hl => match us, hl with | [_, _, _], _ => rfl⟩
  f_longest_answer := 379
  d_longest_answer := (funN_ex H.llongest_answer H.clongest_answer H.klongest_answer).choose
  g_longest_answer := ⟨(funN_ex H.llongest_answer H.clongest_answer H.klongest_answer).choose_spec, PySem.W.mg_of X G H.alongest_answer, (funN_ex H.llongest_answer H.clongest_answer H.klongest_answer).choose_spec.binds (ps := ["house", "version"]) fun _ _ _ _ _ _ us hl => match us, hl with | [_, _], _ => rfl⟩
  f_shape_answer := 386
  d_shape_answer := (funN_ex H.lshape_answer H.cshape_answer H.kshape_answer).choose
  g_shape_answer := ⟨(funN_ex H.lshape_answer H.cshape_answer H.kshape_answer).choose_spec, PySem.W.mg_of X G H.ashape_answer, (funN_ex H.lshape_answer H.cshape_answer H.kshape_answer).choose_spec.binds (ps := ["house", "version"]) fun _ _ _ _ _ _ us hl => match us, hl with | [_, _], _ => rfl⟩
  f_alike_answer := 393
  d_alike_answer := (funN_ex H.lalike_answer H.calike_answer H.kalike_answer).choose
  g_alike_answer := ⟨(funN_ex H.lalike_answer H.calike_answer H.kalike_answer).choose_spec, PySem.W.mg_of X G H.aalike_answer, (funN_ex H.lalike_answer H.calike_answer H.kalike_answer).choose_spec.binds (ps := ["house", "version", "place", "other", "spot"]) fun _ _ _ _ _ _ us hl => match us, hl with | [_, _, _, _, _], _ => rfl⟩
  f_all_answer := 400
  d_all_answer := (funN_ex H.lall_answer H.call_answer H.kall_answer).choose
  g_all_answer := ⟨(funN_ex H.lall_answer H.call_answer H.kall_answer).choose_spec, PySem.W.mg_of X G H.aall_answer, (funN_ex H.lall_answer H.call_answer H.kall_answer).choose_spec.binds (ps := ["house"]) fun _ _ _ _ _ _ us hl => match us, hl with | [_], _ => rfl⟩
  c_INSERT := ⟨790, PySem.W.mg_of X G H.vINSERT⟩
  c_DELETE := ⟨792, PySem.W.mg_of X G H.vDELETE⟩
  c_COPY := ⟨794, PySem.W.mg_of X G H.vCOPY⟩
  c_PART := ⟨796, PySem.W.mg_of X G H.vPART⟩
  c_LINE := ⟨798, PySem.W.mg_of X G H.vLINE⟩
  c_WHERE := ⟨800, PySem.W.mg_of X G H.vWHERE⟩
  c_LONGEST := ⟨802, PySem.W.mg_of X G H.vLONGEST⟩
  c_SHAPE := ⟨804, PySem.W.mg_of X G H.vSHAPE⟩
  c_ALIKE := ⟨806, PySem.W.mg_of X G H.vALIKE⟩
  a_CALL_LENGTHS := 401
  c_CALL_LENGTHS := PySem.W.mg_of X G H.vCALL_LENGTHS
  s_CALL_LENGTHS := fun Hp => seqT_ex H.wCALL_LENGTHS (by show 10 ≤ sizeLine; decide) (.cons ⟨_, rfl⟩ (.cons ⟨_, rfl⟩ (.cons ⟨_, rfl⟩ (.cons ⟨_, rfl⟩ (.cons ⟨_, rfl⟩ (.cons ⟨_, rfl⟩ (.cons ⟨_, rfl⟩ (.cons ⟨_, rfl⟩ (.cons ⟨_, rfl⟩ (.cons ⟨_, rfl⟩ .nil))))))))))
  c_BYTE_COUNT := ⟨819, PySem.W.mg_of X G H.vBYTE_COUNT⟩
  f_call_length := 408
  d_call_length := (funN_ex H.lcall_length H.ccall_length H.kcall_length).choose
  g_call_length := ⟨(funN_ex H.lcall_length H.ccall_length H.kcall_length).choose_spec, PySem.W.mg_of X G H.acall_length, (funN_ex H.lcall_length H.ccall_length H.kcall_length).choose_spec.binds (ps := ["calls", "start"]) fun _ _ _ _ _ _ us hl => match us, hl with | [_, _], _ => rfl⟩
  f_call_answer := 415
  d_call_answer := (funN_ex H.lcall_answer H.ccall_answer H.kcall_answer).choose
  g_call_answer := ⟨(funN_ex H.lcall_answer H.ccall_answer H.kcall_answer).choose_spec, PySem.W.mg_of X G H.acall_answer, (funN_ex H.lcall_answer H.ccall_answer H.kcall_answer).choose_spec.binds (ps := ["house", "call"]) fun _ _ _ _ _ _ us hl => match us, hl with | [_, _], _ => rfl⟩
  f_answers := 422
  d_answers := (funN_ex H.lanswers H.canswers H.kanswers).choose
  g_answers := ⟨(funN_ex H.lanswers H.canswers H.kanswers).choose_spec, PySem.W.mg_of X G H.aanswers, (funN_ex H.lanswers H.canswers H.kanswers).choose_spec.binds (ps := ["calls"]) fun _ _ _ _ _ _ us hl => match us, hl with | [_], _ => rfl⟩
  b_len := PySem.W.mg_none_of X G H.blen
  b_max := PySem.W.mg_none_of X G H.bmax
  b_min := PySem.W.mg_none_of X G H.bmin
  b_abs := PySem.W.mg_none_of X G H.babs
  b_tuple := PySem.W.mg_none_of X G H.btuple
  b_list := PySem.W.mg_none_of X G H.blist
  b_range := PySem.W.mg_none_of X G H.brange
  b_reversed := PySem.W.mg_none_of X G H.breversed
  neLM := by decide
  neFM := by decide }, True.intro⟩
theorem look_read (g : Addr → Option Obj) : ∀ (l : List Addr) (a : Addr) (o : Obj), (l.filterMap fun a => (g a).map fun o => (a, o)).lookup a = some o → g a = some o
  | [], a, o, e => by cases e
  | b :: l, a, o, e => by
    rw [List.filterMap_cons] at e
    cases hb : g b with
    | none =>
      rw [hb] at e
      exact look_read g l a o e
    | some u =>
      rw [hb] at e
      simp only [Option.map_some, List.lookup_cons] at e
      split at e
      · rename_i c
        have z : a = b := by simpa using c
        subst z
        cases e
        exact hb
      · exact look_read g l a o e
noncomputable def hH : Hook where
  α := Option Heap
  obs := fun s => some s.heap
  val := fun w => (hfast w).map (·.heap)
  says := fun w h => (hK w).In h
  of := fun w s e => by
    intro a o h
    unfold hK at h
    cases hr : hfast w with
    | none =>
      rw [hr] at h
      cases h
    | some s' =>
      rw [hr] at h e
      have z : s.heap = s'.heap := Option.some.inj e
      rw [z]
      exact look_read s'.heap.get? hAs a o h
  keeps := fun w h h' s k => fun a o e => k a o (s a o e)
theorem left_gen {A : Type} {r r' : Option Shared} {f f' : Shared → A} {g : A} (e : r = r') (ef : f = f') (h : ∃ s, r' = some s ∧ f' s = g) : r.map (fun s => (f s, some s.heap)) = some (g, r'.map (·.heap)) := by
  subst e
  subst ef
  obtain ⟨s, rfl, z⟩ := h
  show some (f s, some s.heap) = some (g, some s.heap)
  rw [z]
theorem seen9 {A B C D E F G J I : Type} {r : Option Shared} {f : Shared → A × B × C × D × E × F × G × J × I} {a : A} {b : B} {c : C} {d : D} {e : E} {x : F} {g : G} {j : J} {i : I}
    (h1 : r.map (fun s => (f s).1) = some a) (h2 : r.map (fun s => ((f s).2.1, (f s).2.2.2.1)) = some (b, d)) (h3 : r.map (fun s => (f s).2.2.1) = some c)
    (h4 : r.map (fun s => ((f s).2.2.2.2.1, (f s).2.2.2.2.2.1, (f s).2.2.2.2.2.2.1)) = some (e, x, g)) (h5 : r.map (fun s => ((f s).2.2.2.2.2.2.2.1, (f s).2.2.2.2.2.2.2.2)) = some (j, i)) : ∃ s, r = some s ∧ f s = (a, b, c, d, e, x, g, j, i) := by
  cases r with
  | none => cases h1
  | some s =>
    refine ⟨s, rfl, ?_⟩
    have z1 := Option.some.inj h1
    have z2 := Prod.mk.inj (Option.some.inj h2)
    have z3 := Option.some.inj h3
    have z4 := Prod.mk.inj (Option.some.inj h4)
    have z5 := Prod.mk.inj z4.2
    have z6 := Prod.mk.inj (Option.some.inj h5)
    exact Prod.ext z1 (Prod.ext z2.1 (Prod.ext z3 (Prod.ext z2.2 (Prod.ext z4.1 (Prod.ext z5.1 (Prod.ext z5.2 (Prod.ext z6.1 z6.2)))))))
theorem hrun_eq (w : World) : openEnds treeTable hp w 5444 = hfast w := by
  have e := hfast_eq w
  unfold hrun at e
  exact e
theorem hseen_eq : openSeen hq ["count_nodes"] (importedModules hp.main.body) hX true = PySem.W.Fast.tw4187177175401517315 hq ["count_nodes"] (importedModules hp.main.body) hX true := by
  rw [← PySem.W.Fast.te4187177175401517315]
theorem hLeft : LeftO hp hq ["count_nodes"] hX hH.obs hH.val 5444 := fun w => left_gen (hrun_eq w) hseen_eq (seen9 (hSeen1 w) (hSeen2 w) (hSeen3 w) (hSeen4 w) (hSeen5 w))
theorem hX_of {s : Shared} (e : hX s = true) : xlAt hq [] s = true ∧ recOk [] s = true := by
  unfold hX at e
  exact Bool.and_eq_true_iff.mp e
def hd : DefRec := { name := "answers", params := defArgs s_answers, body := defBody s_answers, scope := defScope s_answers, pos := ⟨399, 0, 409, 15⟩ }
theorem hDef : defOf hq "answers" = some (hd, []) := by kernel_rfl
theorem hDef2 : hp.theDef "answers" = some (hd.params, hd.body, hd.scope) := by kernel_rfl
end Pw
open PySem PySem.W PyProof.Rows
set_option maxRecDepth 100000 in
set_option maxHeartbeats 0 in
theorem PySem.Challenge.cw_piecehouse_s01_answers_holds : PySem.Challenge.rw_piecehouse_s01_answers.Holds := by
  refine holds_os (q := Pw.hq) (loose := ["count_nodes"]) (Xt := Pw.hX) (XP := XL Pw.hq []) (Yf := Pw.hH.obs) (Ya := Pw.hH.val) (YP := Pw.hH.says) (d := Pw.hd) (kwd := []) (N := 5444) Pw.hLeft Pw.hH.of Pw.hH.keeps (fun s e => xl_of s (Pw.hX_of e).1) XL.keeps Pw.hDef Pw.hDef2 rfl (fun s e => recFacts_of (Pw.hX_of e).2) os_shapes (by decide +kernel) (by decide +kernel) ⟨rfl, rfl, rfl, rfl, rfl, by decide +kernel⟩ ⟨[.list [.int 9]], by decide +kernel, by decide +kernel⟩ ?_
  refine L2.walk_specK (r := PySem.Challenge.rw_piecehouse_s01_answers) (k := 14) (CX := L2.CX0) (ps := ["calls"]) (sp := Pw.spAns) (K := Pw.hK) (by decide +kernel) rfl rfl ⟨rfl, by decide, by decide⟩ (fun w h Y => Y) ?F ?S (fun _ _ _ _ z => z)
  case F =>
    intro w mg fa h Y KX G hmg
    exact Pw.fin KX G hmg (Pw.tx_of KX G (Pw.hF w))
  case S =>
    intro K H xs a hO hwi hask hx
    cases hx with
    | cons h1 h2 =>
      cases h2
      cases h1 with
      | lst hs ha =>
        have e := L2.ints_dw a.1 _ ha
        subst e
        exact Pw.fin2 hask hs
