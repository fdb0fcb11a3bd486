import PyProof.Rows.All
import Wide.All
import OpenK.AllK
import Wide.FinOn
import Lean
import PyProof.EqAt
import PyProof.EqKinds
import PyProof.TupleCall
import PySem.Challenge.RW_freshbook_k06_attempts
set_option Elab.async false
set_option linter.all false
set_option maxRecDepth 100000
/-! THE HAND LAYER, for ints, bools, texts, own classes, LISTS and tuples (index, slices, in, append, pop ..), calls, loops. Paste it whole ahead of your own text; what your proof does not reach may be deleted. -/
namespace L2
open PySem PySem.Spec PyProof.Rows

/-- a key: an int or a str -/
abbrev Key := Sum Int Str
def keyIs : Key → Value → Bool
  | .inl k, v => Value.isInt k v
  | .inr x, v => Value.isStrOf x v
def keyH (w : World) : Key → Int
  | .inl k => hashInt k
  | .inr x => hashStr w x
theorem keyIs_shape : ∀ {k : Key} {v : Value}, keyIs k v = true → (∃ i t, k = Sum.inl i ∧ v = Value.int i t) ∨ (∃ x t, k = Sum.inr x ∧ v = Value.str x t)
  | .inl i, v, h => by
    obtain ⟨t, e⟩ := Value.isInt_shape (k := i) (v := v) h
    exact .inl ⟨i, t, rfl, e⟩
  | .inr x, v, h => by
    obtain ⟨t, e⟩ := Value.isStrOf_shape (x := x) (v := v) h
    exact .inr ⟨x, t, rfl, e⟩
theorem keyIs_int (i : Int) (t : Tok) : keyIs (.inl i) (.int i t) = true := by simp [keyIs, Value.isInt]
theorem keyIs_str (x : Str) (t : Tok) : keyIs (.inr x) (.str x t) = true := by simp [keyIs, Value.isStrOf]
theorem key_ll (a b : Int) : decide ((Sum.inl a : Key) = Sum.inl b) = (a == b) := by
  by_cases e : a = b
  · subst e; simp
  · have h : ¬ (Sum.inl a : Key) = Sum.inl b := fun q => e (Sum.inl.inj q)
    rw [decide_eq_false h]
    exact (beq_eq_false_iff_ne.mpr e).symm
theorem key_rr (a b : Str) : decide ((Sum.inr a : Key) = Sum.inr b) = decide (a = b) := by
  by_cases e : a = b
  · subst e; simp
  · have h : ¬ (Sum.inr a : Key) = Sum.inr b := fun q => e (Sum.inr.inj q)
    rw [decide_eq_false h, decide_eq_false e]
theorem key_lr (a : Int) (b : Str) : decide ((Sum.inl a : Key) = Sum.inr b) = false := decide_eq_false (fun q => nomatch q)
theorem key_rl (a : Str) (b : Int) : decide ((Sum.inr a : Key) = Sum.inl b) = false := decide_eq_false (fun q => nomatch q)

def mixKind (prog : Program) (w : World) : PySem.KeyKind prog w Key where
  is := keyIs
  hash := keyH w
  inj := fun v a b ha hb => by
    rcases keyIs_shape ha with ⟨i, t, rfl, rfl⟩ | ⟨x, t, rfl, rfl⟩
    · rcases keyIs_shape hb with ⟨j, u, rfl, e⟩ | ⟨y, u, rfl, e⟩
      · injection e with e1 _; rw [e1]
      · exact nomatch e
    · rcases keyIs_shape hb with ⟨j, u, rfl, e⟩ | ⟨y, u, rfl, e⟩
      · exact nomatch e
      · injection e with e1 _; rw [e1]
  byValue := fun k v h => by
    rcases keyIs_shape h with ⟨i, t, rfl, rfl⟩ | ⟨x, t, rfl, rfl⟩ <;> rfl
  pyHash := fun hv h => by
    rcases keyIs_shape hv with ⟨i, t, rfl, rfl⟩ | ⟨x, t, rfl, rfl⟩
    · exact wpAny_pyHash_int h
    · exact wpAny_pyHash_str h
  eqBool := fun hu hv h => by
    rcases keyIs_shape hu with ⟨i, t, rfl, rfl⟩ | ⟨x, t, rfl, rfl⟩
    · rcases keyIs_shape hv with ⟨j, u, rfl, rfl⟩ | ⟨y, u, rfl, rfl⟩
      · rw [key_ll] at h; exact wpAny_eqBool_int h
      · rw [key_lr] at h; exact SeqAt.EqAt.int_str i t y u _ _ _ _ h
    · rcases keyIs_shape hv with ⟨j, u, rfl, rfl⟩ | ⟨y, u, rfl, rfl⟩
      · rw [key_rl] at h; exact SeqAt.EqAt.str_int x t j u _ _ _ _ h
      · rw [key_rr] at h; exact wpAny_eqBool_str h
  «strs» := fun k x t v h => by
    rcases keyIs_shape h with ⟨i, u, rfl, e⟩ | ⟨y, u, rfl, e⟩
    · exact nomatch e
    · injection e with e1 _
      subst e1
      cases v <;> rfl

theorem mixKind_int (prog : Program) (w : World) (i : Int) (t : Tok) : (mixKind prog w).is (.inl i) (.int i t) = true := keyIs_int i t
theorem mixKind_str (prog : Program) (w : World) (x : Str) (t : Tok) : (mixKind prog w).is (.inr x) (.str x t) = true := keyIs_str x t
end L2

namespace L2
open PySem PySem.Spec PyProof.Rows

/-- a value, without the heap -/
inductive V where
  | non | bl (b : Bool) | int (i : Int) | str (x : Str) | byt (b : Array UInt8) | flt (b : UInt64) | ref (a : Addr) | ty (n : String)
  deriving DecidableEq

def RelV : V → Value → Prop
  | .non, u => u = Value.none
  | .bl b, u => u = Value.bool b
  | .int i, u => ∃ t, u = Value.int i t
  | .str x, u => ∃ t, u = Value.str x t
  | .byt b, u => ∃ t, u = Value.bytes b t
  | .flt b, u => ∃ t, u = Value.float b t
  | .ref a, u => u = Value.ref a
  | .ty n, u => u = Value.type n

abbrev Vals : List V → List Value → Prop := Paired RelV
theorem Vals.length {xs : List V} {us : List Value} (r : Vals xs us) : xs.length = us.length := Paired.length r
theorem Vals.get : ∀ {xs : List V} {us : List Value} {i : Nat} {x : V}, Vals xs us → xs[i]? = some x → ∃ u, us[i]? = some u ∧ RelV x u
  | _, _, _, _, .nil, e => by simp at e
  | _, _, 0, _, .cons r _, e => by simp at e; subst e; exact ⟨_, rfl, r⟩
  | _, _, i + 1, x, .cons _ t, e => by
    obtain ⟨u, h1, h2⟩ := Vals.get (i := i) (x := x) t (by simpa using e)
    exact ⟨u, by simpa using h1, h2⟩
theorem Vals.set {x : V} {u : Value} (r : RelV x u) : ∀ {xs : List V} {us : List Value} (i : Nat), Vals xs us → Vals (xs.set i x) (us.set i u)
  | _, _, _, .nil => .nil
  | _, _, 0, .cons _ t => .cons r t
  | _, _, i + 1, .cons q t => .cons q (Vals.set r i t)
theorem Vals.append : ∀ {xs ys : List V} {us ws : List Value}, Vals xs us → Vals ys ws → Vals (xs ++ ys) (us ++ ws)
  | _, _, _, _, .nil, s => s
  | _, _, _, _, .cons r t, s => .cons r (Vals.append t s)
theorem Vals.take : ∀ {xs : List V} {us : List Value} (n : Nat), Vals xs us → Vals (xs.take n) (us.take n)
  | _, _, 0, _ => .nil
  | _, _, _ + 1, .nil => .nil
  | _, _, n + 1, .cons r t => .cons r (Vals.take n t)
theorem Vals.drop : ∀ {xs : List V} {us : List Value} (n : Nat), Vals xs us → Vals (xs.drop n) (us.drop n)
  | _, _, 0, r => r
  | _, _, _ + 1, .nil => .nil
  | _, _, n + 1, .cons _ t => Vals.drop n t
theorem Vals.none_of : ∀ {xs : List V} {us : List Value} {i : Nat}, Vals xs us → xs[i]? = none → us[i]? = none := fun {xs us i} r e => by
  have h1 := r.length
  have h2 : xs.length ≤ i := List.getElem?_eq_none_iff.mp e
  exact List.getElem?_eq_none_iff.mpr (by omega)

def RelO : Option V → Option Value → Prop
  | some v, some u => RelV v u
  | none, none => True
  | _, _ => False
def KV {κ : Type} : List (κ × V) → List (κ × Value) → Prop := Paired fun (p : κ × V) (q : κ × Value) => p.1 = q.1 ∧ RelV p.2 q.2

/-- a key of a dict (00_mix): an int or a text -/
def kV : Key → V
  | .inl i => .int i
  | .inr x => .str x

/-- what stands at a tracked address -/
inductive HO where
  /-- a list -/
  | lst (xs : List V)
  /-- a tuple (never changes) -/
  | tup (xs : List V)
  /-- a dict whose keys are ints and texts; one whose keys are tuples of ints and texts (the empty one is both) -/
  | dK (kvs : List (Key × V)) | dT (kvs : List (List Key × V))
  /-- a set of ints: its members, its size -/
  | set (S : Int → Bool) (n : Nat)
  /-- an instance of the class at C, its dict at dx, its attributes -/
  | ins (C dx : Addr) (fs : List (Str × V))
  /-- the dict of the instance at x -/
  | own (x : Addr)
  /-- the dict of an exception -/
  | xd (fs : List (Str × V))
  /-- a bound method, f of x -/
  | met (f x : Addr)
  /-- a range object lo, lo + 1, .. below hi -/
  | rng (lo hi : Int)
  /-- a thing that is known to the object (the script; a dict while a loop walks it): read, never written while it is so -/
  | frz (o : Obj) (u : HO)
  /-- a code object's table -/
  | tbl (ps : Array Value)
  /-- any other thing, by what is true of its one object (a def of one's own: SetO a S n := HO.ext fun h => ..) -/
  | ext (φ : Heap → Prop)

abbrev Hp := Addr → Option HO
def upd (H : Hp) (a : Addr) (o : HO) : Hp := fun b => if b = a then some o else H b
theorem upd_same {H : Hp} {a : Addr} {o : HO} : upd H a o a = some o := by unfold upd; rw [if_pos rfl]
theorem upd_ne {H : Hp} {a b : Addr} {o : HO} (h : b ≠ a) : upd H a o b = H b := by unfold upd; rw [if_neg h]
theorem upd_upd {H : Hp} {a : Addr} {o u : HO} : upd (upd H a o) a u = upd H a u := by
  funext b; unfold upd; split <;> rfl
/-- two objects of different content stand apart -/
theorem ne_of {H : Hp} {a b : Addr} {o u : HO} (h : H a = some o) (h' : H b = some u) (d : o ≠ u) : a ≠ b := by
  intro e; subst e; rw [h] at h'; exact d (Option.some.inj h')
theorem ne_of_none {H : Hp} {a b : Addr} {o : HO} (h : H a = some o) (h' : H b = none) : a ≠ b := by
  intro e; subst e; rw [h] at h'; cases h'

section
variable (P : Program) (w : World)
def ObjOk (H : Hp) (h : Heap) (a : Addr) : HO → Prop
  | .lst xs => xs.length ≤ sizeLine ∧ ∃ (its : List Value) (n : Nat), Vals xs its ∧ h.get? a = some { cls := .type "list", data := .seq its.toArray n }
  | .tup xs => xs.length ≤ sizeLine ∧ ∃ its : List Value, Vals xs its ∧ IsTup h a its.toArray
  | .dK kvs => kvs.length ≤ sizeLine ∧ (a == sysModules) = false ∧ ∃ vs, KV kvs vs ∧ h.DictOf (mixKind P w) a vs
  | .dT kvs => kvs.length ≤ sizeLine ∧ (a == sysModules) = false ∧ ∃ xs : List (List Key × Addr × Value),
      Paired (fun (p : List Key × V) (q : List Key × Addr × Value) => p.1 = q.1 ∧ H q.2.1 = some (.tup (p.1.map kV)) ∧ RelV p.2 q.2.2) kvs xs ∧
      ∃ o es ep, h.get? a = some o ∧ o.ExactDict ∧ o.data = .dict es ep ∧ es.toList = xs.map (entryOfKey (tupleKind (mixKind P w))) ∧ (xs.map (·.1)).Nodup
  | .set S n => h.SetOf (intKind P w) a S n
  | .ins C dx fs => H dx = some (.own a) ∧ fs.length ≤ 1000 ∧ dx ≠ a ∧ h.get? a = some (PySem.W.instObj C dx) ∧
      ∃ mA, h.Ns1 dx mA ∧ (∀ f, RelO (fs.lookup f) (mA f)) ∧ PySem.Within mA (fs.map (·.1))
  | .own _ => ∃ o, h.get? a = some o
  | .xd fs => ∃ mA, h.Ns1 a mA ∧ ∀ f, RelO (fs.lookup f) (mA f)
  | .rng lo hi => ∃ t u v, h.get? a = some { cls := .type "range", data := .fields #[.int lo t, .int hi u, .int 1 v] }
  | .frz o u => h.get? a = some o ∧ ObjOk H h a u
  | .tbl ps => h.get? a = some { cls := .none, data := .fields ps }
  | .met f x => h.get? a = some (PySem.W.methodObj (.ref f) (.ref x))
  | .ext φ => φ h ∧ (∃ o, h.get? a = some o) ∧ ∀ h1 h2 : Heap, φ h1 → (∀ o, h1.get? a = some o → h2.get? a = some o) → φ h2
/-- the abstract heap is held -/
def HOk (H : Hp) (h : Heap) : Prop := ∀ a o, H a = some o → ObjOk P w H h a o
end

section
variable {P : Program} {w : World} {H H' : Hp} {h h' : Heap} {a : Addr} {o : HO}
theorem ObjOk.lt (x : ObjOk P w H h a o) : a < h.objs.size := by
  cases o with
  | lst xs => obtain ⟨_, _, _, _, e⟩ := x; exact Heap.lt_size e
  | tup xs => obtain ⟨_, _, _, p⟩ := x; exact p.lt
  | dK kvs => obtain ⟨_, _, _, _, o, _, _, e, _⟩ := x; exact Heap.lt_size e
  | dT kvs => obtain ⟨_, _, _, _, o, _, _, e, _⟩ := x; exact Heap.lt_size e
  | set S n => obtain ⟨o, _, _, _, e, _⟩ := x; exact Heap.lt_size e
  | ins C dx fs => obtain ⟨_, _, _, e, _⟩ := x; exact Heap.lt_size e
  | own y => obtain ⟨_, e⟩ := x; exact Heap.lt_size e
  | xd fs => obtain ⟨_, ⟨_, _, _, e, _⟩, _⟩ := x; exact Heap.lt_size e
  | rng lo hi => obtain ⟨_, _, _, e⟩ := x; exact Heap.lt_size e
  | frz ob u => obtain ⟨e, _⟩ := x; exact Heap.lt_size e
  | tbl ps => exact Heap.lt_size (show h.get? a = some _ from x)
  | met f y => exact Heap.lt_size (show h.get? a = some _ from x)
  | ext φ => obtain ⟨_, ⟨_, e⟩, _⟩ := x; exact Heap.lt_size e
theorem Paired.mapP {α β : Type} {F G : α → β → Prop} : ∀ {l₁ : List α} {l₂ : List β}, Paired F l₁ l₂ → (∀ a b, F a b → G a b) → Paired G l₁ l₂
  | _, _, .nil, _ => .nil
  | _, _, .cons r t, f => .cons (f _ _ r) (Paired.mapP t f)
/-- what an object's description leans on: its own object, its own dict, the tuples -/
theorem ObjOk.stay (x : ObjOk P w H h a o) (k : ∀ b u, (b = a ∨ H b = some (.own a)) → h.get? b = some u → h'.get? b = some u)
    (ho : ∀ b, H b = some (.own a) → H' b = some (.own a)) (ht : ∀ b xs, H b = some (.tup xs) → H' b = some (.tup xs)) : ObjOk P w H' h' a o := by
  induction o with
  | lst xs => obtain ⟨z, its, n, r, e⟩ := x; exact ⟨z, its, n, r, k _ _ (.inl rfl) e⟩
  | tup xs => obtain ⟨z, its, r, ob, e, c⟩ := x; exact ⟨z, its, r, ob, k _ _ (.inl rfl) e, c⟩
  | dK kvs => obtain ⟨z, y, vs, r, ob, es, ep, e, c⟩ := x; exact ⟨z, y, vs, r, ob, es, ep, k _ _ (.inl rfl) e, c⟩
  | dT kvs =>
    obtain ⟨z, y, xs, r, ob, es, ep, e, c⟩ := x
    exact ⟨z, y, xs, Paired.mapP r fun p q z => ⟨z.1, ht _ _ z.2.1, z.2.2⟩, ob, es, ep, k _ _ (.inl rfl) e, c⟩
  | set S n => obtain ⟨ob, es, ep, t, e, c⟩ := x; exact ⟨ob, es, ep, t, k _ _ (.inl rfl) e, c⟩
  | ins C dx fs =>
    obtain ⟨d, z, ne, e, mA, ⟨od, es, ep, e2, c⟩, r⟩ := x
    exact ⟨ho _ d, z, ne, k _ _ (.inl rfl) e, mA, ⟨od, es, ep, k _ _ (.inr d) e2, c⟩, r⟩
  | own y => obtain ⟨ob, e⟩ := x; exact ⟨ob, k _ _ (.inl rfl) e⟩
  | xd fs => obtain ⟨mA, ⟨od, es, ep, e, c⟩, r⟩ := x; exact ⟨mA, ⟨od, es, ep, k _ _ (.inl rfl) e, c⟩, r⟩
  | rng lo hi => obtain ⟨t, u, v, e⟩ := x; exact ⟨t, u, v, k _ _ (.inl rfl) e⟩
  | frz ob u ih => obtain ⟨e, q⟩ := x; exact ⟨k _ _ (.inl rfl) e, ih q⟩
  | tbl ps =>
    have e : h.get? a = some { cls := .none, data := .fields ps } := x
    show h'.get? a = some { cls := .none, data := .fields ps }
    exact k a _ (.inl rfl) e
  | met f y =>
    have e : h.get? a = some (PySem.W.methodObj (.ref f) (.ref y)) := x
    show h'.get? a = some (PySem.W.methodObj (.ref f) (.ref y))
    exact k a _ (.inl rfl) e
  | ext φ => obtain ⟨p, ⟨o, e⟩, st⟩ := x; exact ⟨st _ _ p fun o q => k _ _ (.inl rfl) q, ⟨o, k _ _ (.inl rfl) e⟩, st⟩
theorem HOk.lt (x : HOk P w H h) (e : H a = some o) : a < h.objs.size := (x a o e).lt
theorem HOk.fresh (x : HOk P w H h) (e : h.objs.size ≤ a) : H a = none := by
  cases q : H a with
  | none => rfl
  | some u => exact absurd (Nat.lt_of_lt_of_le (x.lt q) e) (Nat.lt_irrefl _)
/-- every object of the heap is kept -/
theorem HOk.kept (x : HOk P w H h) (k : ∀ b u, h.get? b = some u → h'.get? b = some u) : HOk P w H h' := fun a o e =>
  (x a o e).stay (fun b u _ q => k b u q) (fun _ q => q) fun _ _ q => q
/-- a new object is laid and tracked -/
theorem HOk.laid (x : HOk P w H h) (k : ∀ b u, h.get? b = some u → h'.get? b = some u) (hp : h.objs.size ≤ a) (new : ObjOk P w (upd H a o) h' a o) : HOk P w (upd H a o) h' := fun b u e => by
  have hn := x.fresh hp
  by_cases hb : b = a
  · subst hb; rw [upd_same] at e; cases e; exact new
  · rw [upd_ne hb] at e
    exact (x b u e).stay (fun c v _ q => k c v q) (fun c q => by rw [upd_ne (ne_of_none q hn)]; exact q) fun c xs q => by rw [upd_ne (ne_of_none q hn)]; exact q
end

/-- what may be read as u: it is u, or a known u -/
def Rd (H : Hp) (a : Addr) (u : HO) : Prop := H a = some u ∨ ∃ o, H a = some (.frz o u)
theorem Rd.of {H : Hp} {a : Addr} {u : HO} (h : H a = some u) : Rd H a u := .inl h
theorem Rd.ok {P : Program} {w : World} {H : Hp} {h : Heap} {a : Addr} {u : HO} (r : Rd H a u) (x : HOk P w H h) : ObjOk P w H h a u := by
  rcases r with r | ⟨o, r⟩
  · exact x a u r
  · obtain ⟨_, q⟩ := x a _ r
    exact q
/-- what may be written -/
def Mut : Option HO → Prop
  | some (.lst _) => True
  | some (.dK _) => True
  | some (.dT _) => True
  | some (.set _ _) => True
  | some (.ins _ _ _) => True
  | some (.ext _) => True
  | _ => False
section
variable {P : Program} {w : World} {H : Hp} {h h' : Heap} {x e : Addr} {o' : HO}
/-- the object at e is changed: x itself, or the dict of the instance x -/
theorem HOk.write (ok : HOk P w H h) (mu : Mut (H x)) (he : e = x ∨ H e = some (.own x)) (k : ∀ b u, b ≠ e → h.get? b = some u → h'.get? b = some u) (heo : ∃ u, h'.get? e = some u)
    (new : ObjOk P w (upd H x o') h' x o') : HOk P w (upd H x o') h' := fun b u q => by
  have nown : ∀ c y, H c = some (.own y) → c ≠ x := fun c y r z => by subst z; rw [r] at mu; exact mu
  have ntup : ∀ c xs, H c = some (.tup xs) → c ≠ x := fun c xs r z => by subst z; rw [r] at mu; exact mu
  by_cases hb : b = x
  · subst hb; rw [upd_same] at q; cases q; exact new
  · rw [upd_ne hb] at q
    by_cases hbe : b = e
    · have q' : H b = some (.own x) := by
        rcases he with z | z
        · exact absurd (hbe.trans z) hb
        · rw [hbe]; exact z
      rw [q] at q'; cases q'
      obtain ⟨v, hv⟩ := heo
      exact ⟨v, by rw [hbe]; exact hv⟩
    · refine (ok b u q).stay (fun c v hc r => k c v ?_ r) (fun c r => by rw [upd_ne (nown c b r)]; exact r) fun c xs r => by rw [upd_ne (ntup c xs r)]; exact r
      rcases hc with rfl | hc
      · exact hbe
      · rintro rfl
        rcases he with z | z
        · exact nown c b hc z
        · rw [hc] at z; cases z; exact hb rfl
end

/-! ### kept unless tracked; of the frames at fs (the callers') the slots may change (an exception that passes writes there); of the records at ex (iterators) nothing is said -/
structure Un (fs ex : List Addr) (H H' : Hp) (h h' : Heap) : Prop where
  keep : ∀ b o, h.get? b = some o → H b = none → b ∉ fs → b ∉ ex → h'.get? b = some o
  slot : ∀ b o, h.get? b = some o → H b = none → b ∈ fs → b ∉ ex → ∃ sl, h'.get? b = some { o with slots := sl }
  free : ∀ b o, h.get? b = some o → H b = none → b ∉ ex → H' b = none
  there : ∀ b o, h.get? b = some o → b ∉ ex → ∃ o', h'.get? b = some o'
  tups : ∀ b xs, H b = some (.tup xs) → H' b = some (.tup xs)
  frzs : ∀ b o u, H b = some (.frz o u) → H' b = some (.frz o u)
  tbls : ∀ b ps, H b = some (.tbl ps) → ∃ more, H' b = some (.tbl (ps ++ more))
section
variable {fs fs' ex ex' : List Addr} {H H1 H2 : Hp} {h h1 h2 h' : Heap} {a x e : Addr} {o : HO}
theorem Un.any (u : Un fs ex H H1 h h1) {b : Addr} {ob : Obj} (q : h.get? b = some ob) (n : H b = none) (hx : b ∉ ex) : ∃ sl, h1.get? b = some { ob with slots := sl } := by
  by_cases hb : b ∈ fs
  · exact u.slot b ob q n hb hx
  · exact ⟨ob.slots, u.keep b ob q n hb hx⟩
theorem Un.trans (a : Un fs ex H H1 h h1) (b : Un fs ex H1 H2 h1 h2) : Un fs ex H H2 h h2 where
  keep := fun c ob q n hc hx => b.keep c ob (a.keep c ob q n hc hx) (a.free c ob q n hx) hc hx
  slot := fun c ob q n hc hx => by
    obtain ⟨sl, e1⟩ := a.slot c ob q n hc hx
    obtain ⟨sl', e2⟩ := b.slot c _ e1 (a.free c ob q n hx) hc hx
    exact ⟨sl', e2⟩
  free := fun c ob q n hx => by
    obtain ⟨o', e1⟩ := a.there c ob q hx
    exact b.free c o' e1 (a.free c ob q n hx) hx
  there := fun c ob q hx => by
    obtain ⟨o', e1⟩ := a.there c ob q hx
    exact b.there c o' e1 hx
  tups := fun c xs q => b.tups c xs (a.tups c xs q)
  frzs := fun c ob xs q => b.frzs c ob xs (a.frzs c ob xs q)
  tbls := fun c ps q => by
    obtain ⟨m1, e1⟩ := a.tbls c ps q
    obtain ⟨m2, e2⟩ := b.tbls c _ e1
    exact ⟨m1 ++ m2, by rw [e2, Array.append_assoc]⟩
theorem Un.kept (k : ∀ b u, h.get? b = some u → h'.get? b = some u) : Un fs ex H H h h' :=
  ⟨fun b ob q _ _ _ => k b ob q, fun b ob q _ _ _ => ⟨ob.slots, k b ob q⟩, fun _ _ _ n _ => n, fun b ob q _ => ⟨ob, k b ob q⟩, fun _ _ q => q, fun _ _ _ q => q, fun _ ps q => ⟨#[], by rw [q]; simp⟩⟩
theorem Un.refl : Un fs ex H H h h := Un.kept fun _ _ q => q
theorem Un.laid (k : ∀ b u, h.get? b = some u → h'.get? b = some u) (hp : h.objs.size ≤ a) (hn : H a = none) : Un fs ex H (upd H a o) h h' where
  keep := fun b u q _ _ _ => k b u q
  slot := fun b u q _ _ _ => ⟨u.slots, k b u q⟩
  free := fun b u q n _ => by rw [upd_ne (Nat.ne_of_lt (Nat.lt_of_lt_of_le (Heap.lt_size q) hp))]; exact n
  there := fun b u q _ => ⟨u, k b u q⟩
  tups := fun b xs q => by rw [upd_ne (ne_of_none q hn)]; exact q
  frzs := fun b u xs q => by rw [upd_ne (ne_of_none q hn)]; exact q
  tbls := fun b ps q => ⟨#[], by rw [upd_ne (ne_of_none q hn), q]; simp⟩
theorem Un.write (mu : Mut (H x)) (he : e = x ∨ H e = some (.own x)) (k : ∀ b u, b ≠ e → h.get? b = some u → h'.get? b = some u) (heo : ∃ u, h'.get? e = some u) : Un fs ex H (upd H x o) h h' := by
  have hx : ∀ b, H b = none → b ≠ x := fun b n z => by subst z; rw [n] at mu; exact mu
  have hb : ∀ b, H b = none → b ≠ e := fun b n z => by
    subst z
    rcases he with r | r
    · exact hx b n r
    · rw [n] at r; cases r
  have hm : ∀ b u, H b = some u → ¬ Mut (some u) → b ≠ x := fun b u q nm z => by subst z; rw [q] at mu; exact nm mu
  refine ⟨fun b u q n _ _ => k b u (hb b n) q, fun b u q n _ _ => ⟨u.slots, k b u (hb b n) q⟩, fun b u q n _ => by rw [upd_ne (hx b n)]; exact n, fun b u q _ => ?_,
    fun b xs q => by rw [upd_ne (hm b _ q fun z => z)]; exact q, fun b u xs q => by rw [upd_ne (hm b _ q fun z => z)]; exact q, fun b ps q => ⟨#[], by rw [upd_ne (hm b _ q fun z => z), q]; simp⟩⟩
  by_cases hbe : b = e
  · subst hbe; exact heo
  · exact ⟨u, k b u hbe q⟩
theorem Un.mono (u : Un fs ex H H1 h h1) (hs : ∀ b ∈ fs, b ∈ fs') (hx : ∀ b ∈ ex, b ∈ ex') : Un fs' ex' H H1 h h1 :=
  ⟨fun b ob q n hb he => u.keep b ob q n (fun z => hb (hs b z)) fun z => he (hx b z), fun _ _ q n _ he => u.any q n fun z => he (hx _ z), fun b ob q n he => u.free b ob q n fun z => he (hx b z), fun b ob q he => u.there b ob q fun z => he (hx b z), u.tups, u.frzs, u.tbls⟩
end

/-! ### the heap without what is tracked -/
def trk (h : Heap) (H : Hp) : List Addr := (List.range h.objs.size).filter fun a => (H a).isSome
def hidT (h : Heap) (H : Hp) : Heap := PySem.W.hideAll h (trk h H)
theorem hidT_size (h : Heap) (H : Hp) : (hidT h H).objs.size = h.objs.size := PySem.W.hideAll_size _ _
theorem hidT_get {h : Heap} {H : Hp} {b : Addr} {o : Obj} (e : h.get? b = some o) (n : H b = none) : (hidT h H).get? b = some o :=
  PySem.W.hideAll_get _ e fun hm => by
    have q : (H b).isSome = true := (List.mem_filter.mp hm).2
    rw [n] at q; simp at q
theorem of_hidT {h : Heap} {H : Hp} {b : Addr} {o : Obj} (e : (hidT h H).get? b = some o) : h.get? b = some o ∧ H b = none := by
  have e' : h.get? b = some o := PySem.W.of_hideAll (trk h H) e
  refine ⟨e', ?_⟩
  cases q : H b with
  | none => rfl
  | some x =>
    have hm : b ∈ trk h H := List.mem_filter.mpr ⟨List.mem_range.mpr (Heap.lt_size e'), by simp [q]⟩
    have z : (hidT h H).get? b = none := PySem.W.hideAll_none (trk h H) hm
    rw [z] at e; cases e

/-! ### OpenK's ledger, filled with every new object but one -/
def allNews (g h : Heap) (L : Addr) : List (Addr × Obj) := (List.range h.objs.size).filterMap fun a => if a = L ∨ (g.get? a).isSome = true then none else (h.get? a).map fun o => (a, o)
def rest (g h : Heap) (L d : Addr) : List (Addr × Obj) := (allNews g h L).filter fun p => decide (p.1 ≠ d)
end L2

namespace L2
open PySem PySem.Spec PyProof.Rows

/-- the module's facts, over the base: the heap at the law's entry without what is tracked there -/
structure Mod (K : PySem.W.Frag) (mg : Str → Option Value) (base : Heap) : Prop where
  kin : K.In base
  glob : base.Ns mainGlobals mg
  blt : ∃ mb, base.Ns builtinsNs mb ∧ ∀ x : Str, x ≠ "__name__" → mb x = bootBuiltins x
  nolimit : base.NoLimit

/-- the context: a def's body (or a comprehension's block) running. base: fixed through the whole law; s₀, H₀: the entry; outer: the frames whose slots others may change (a def's callers); stack: all frames that run;
   ex: iterators that were made ahead of the entry and are walked here (a comprehension's); fn: the names whose cells were made at the entry (a def: all; a comprehension's block: its own); calm: not within an except suite; pn: pins that every state bears; xe: what is wanted of an exception that leaves the code -/
structure Cx where
  prog : Program
  w : World
  K : PySem.W.Frag
  mg : Str → Option Value
  base : Heap
  A : Around
  N : List Str
  s₀ : Shared
  H₀ : Hp
  env : Env
  outer : List Env
  stack : List Env
  ex : List Addr
  fn : Str → Bool
  calm : Bool
  pn : List (Addr × Obj)
  xe : Value → Shared → Prop
/-- the callers' frames -/
def frs (l : List Env) : List Addr := l.filterMap (·.frame)
abbrev Cx.fs (X : Cx) : List Addr := frs X.outer

def Vis (sc : Scope) (x : Str) : Prop := sc.names.lookup x = some .local ∨ sc.names.lookup x = some .cell ∨ sc.names.lookup x = some .free
def Loc (sc : Scope) (x : Str) : Prop := sc.names.lookup x = some .local ∨ sc.names.lookup x = some .cell
def Look (env : Env) (h : Heap) (m : Str → Option Value) (x : Str) (u : Value) : Prop :=
  (env.kindOf x = some .local ∧ m x = some u) ∨ ((env.kindOf x = some .cell ∨ env.kindOf x = some .free) ∧ ∃ c, env.cells.lookup x = some c ∧ h.IsCell c (some u))

structure Cx.Ok (X : Cx) : Prop where
  mod : Mod X.K X.mg X.base
  kind : X.env.scope.kind = .function
  glob : X.env.globals = mainGlobals
  blt : X.env.builtins = builtinsNs
  above : X.s₀.heap.objs.size ≤ X.env.locals
  inj : ∀ x y c, X.env.cells.lookup x = some c → X.env.cells.lookup y = some c → x = y
  has : ∀ x, (X.env.kindOf x = some .cell ∨ X.env.kindOf x = some .free) → ∃ c, X.env.cells.lookup x = some c
  cab : ∀ x c, X.fn x = true → X.env.cells.lookup x = some c → X.s₀.heap.objs.size ≤ c
  hd : X.calm = true → X.A.handled = none
  frames : X.A.frames = some X.stack
  stk : X.stack = X.outer ∨ (X.stack = X.env :: X.outer ∧ X.env.frame = some X.env.locals)
  exf : ∀ b ∈ X.ex, b ≠ X.env.locals ∧ ∀ x c, X.env.cells.lookup x = some c → c ≠ b
  bs : ∀ b o, X.base.get? b = some o → X.s₀.heap.get? b = some o ∧ X.H₀ b = none
  bsz : X.base.objs.size ≤ X.s₀.heap.objs.size
  noex : ∀ b o, X.base.get? b = some o → b ∉ X.ex
  exfs : ∀ b ∈ X.ex, b ∉ X.fs
  funs : X.s₀.heap.FunFrames X.base X.outer
  frf : ∀ b ∈ X.fs, X.H₀ b = none

structure Inv (X : Cx) (pins : List (Addr × Obj)) (σ : List (Option V)) (H : Hp) (s : Shared) : Prop where
  ok : X.Ok
  os : s.os = X.s₀.os
  bare : AllBare s.gens
  base : Un X.fs X.ex X.H₀ H X.s₀.heap s.heap
  loc : ∃ m, s.heap.Ns X.env.locals m ∧ ∀ (i : Nat) (x : Str) (v : V), X.N[i]? = some x → σ[i]? = some (some v) → Vis X.env.scope x → ∃ u, RelV v u ∧ Look X.env s.heap m x u
  cell : ∀ x c, X.env.cells.lookup x = some c → ∃ v, s.heap.IsCell c v
  free : H X.env.locals = none
  freeC : ∀ x c, X.env.cells.lookup x = some c → H c = none
  pin : ∀ p ∈ X.pn ++ pins, s.heap.get? p.1 = some p.2 ∧ H p.1 = none ∧ p.1 ≠ X.env.locals ∧ p.1 ∉ X.fs ∧ ∀ v, p.2.data ≠ .cell v
  hok : HOk X.prog X.w H s.heap
  len : σ.length = X.N.length

section
variable {X : Cx} {pins : List (Addr × Obj)} {σ : List (Option V)} {H H' : Hp} {s : Shared} {h' : Heap}

theorem Cx.Ok.nofr (ok : X.Ok) {b : Addr} {o : Obj} (e : X.base.get? b = some o) : b ∉ X.fs := fun hb => by
  have := (ok.funs.mem hb).1
  rw [e] at this; cases this
theorem Inv.bs (I : Inv X pins σ H s) : ∀ b o, X.base.get? b = some o → s.heap.get? b = some o ∧ H b = none := fun b o e =>
  ⟨I.base.keep b o (I.ok.bs b o e).1 (I.ok.bs b o e).2 (I.ok.nofr e) (I.ok.noex b o e), I.base.free b o (I.ok.bs b o e).1 (I.ok.bs b o e).2 (I.ok.noex b o e)⟩
theorem Inv.bk (I : Inv X pins σ H s) : ∀ b o, X.base.get? b = some o → s.heap.get? b = some o := fun b o e => (I.bs b o e).1
theorem Inv.mod (I : Inv X pins σ H s) : Mod X.K X.mg X.base := I.ok.mod
theorem Inv.kIn (I : Inv X pins σ H s) : X.K.In s.heap := I.ok.mod.kin.keeps I.bk
theorem Inv.nolimit (I : Inv X pins σ H s) : s.heap.NoLimit := I.ok.mod.nolimit.keeps I.bk
/-- the frame over the base: for OpenK's rules (K.In X.base is I.mod.kin) -/
theorem Inv.fr (I : Inv X pins σ H s) : ∃ m, Fr X.base X.env.locals s.heap m :=
  let ⟨m, hn, _⟩ := I.loc
  ⟨m, hn, I.bk, Nat.le_trans I.ok.bsz I.ok.above⟩
theorem Inv.lt (I : Inv X pins σ H s) : X.env.locals < s.heap.objs.size := let ⟨_, hn, _⟩ := I.loc; hn.lt
theorem Inv.sz (I : Inv X pins σ H s) : X.s₀.heap.objs.size ≤ s.heap.objs.size := Nat.le_trans I.ok.above (Nat.le_of_lt I.lt)
theorem Inv.nofs (I : Inv X pins σ H s) {a : Addr} (h : s.heap.objs.size ≤ a) : a ∉ X.fs := fun hb => by
  obtain ⟨_, o, ho, _⟩ := I.ok.funs.mem hb
  exact absurd (Nat.lt_of_lt_of_le (Heap.lt_size ho) (Nat.le_trans I.sz h)) (Nat.lt_irrefl _)
theorem Inv.cne (I : Inv X pins σ H s) : ∀ x c, X.env.cells.lookup x = some c → c ≠ X.env.locals := fun x c e z => by
  obtain ⟨v, o, ho, hd⟩ := I.cell x c e
  obtain ⟨m, ⟨o', es, ep, ho', hd', _⟩, _⟩ := I.loc
  rw [z, ho'] at ho; cases ho; rw [hd'] at hd; cases hd
theorem Inv.funs (I : Inv X pins σ H s) : s.heap.FunFrames X.base X.outer := by
  have all : ∀ (l : List Env), (∀ b ∈ frs l, b ∈ X.fs) → X.s₀.heap.FunFrames X.base l → s.heap.FunFrames X.base l := by
    intro l
    induction l with
    | nil => intro _ _; trivial
    | cons env r ih =>
      intro hs hl
      obtain ⟨hk, ⟨L, o, hf, hn, ho, hd⟩, hr⟩ := hl
      have hL : L ∈ X.fs := hs L (by unfold frs; rw [List.filterMap_cons, hf]; exact List.mem_cons_self)
      obtain ⟨sl, e⟩ := I.base.slot L o ho (I.ok.frf L hL) hL fun z => I.ok.exfs L z hL
      exact ⟨hk, ⟨L, _, hf, hn, e, hd⟩, ih (fun b hb => hs b (by unfold frs; rw [List.filterMap_cons, hf]; exact List.mem_cons_of_mem _ hb)) hr⟩
  exact all X.outer (fun _ hb => hb) I.ok.funs

/-- the frames that run, for a call -/
theorem Inv.stack (I : Inv X pins σ H s) : s.heap.FunFrames X.base X.stack := by
  rcases I.ok.stk with e | ⟨e, hf⟩
  · rw [e]; exact I.funs
  · rw [e]
    obtain ⟨m, hn, _⟩ := I.loc
    refine .cons (by rw [I.ok.kind]; decide) hf hn ?_ I.funs
    exact Heap.get?_none_of_le (Nat.le_trans I.ok.bsz I.ok.above)
theorem Inv.stkSub (I : Inv X pins σ H s) : ∀ b ∈ frs X.stack, b ∈ X.env.locals :: X.fs := fun b hb => by
  rcases I.ok.stk with e | ⟨e, hf⟩
  · rw [e] at hb; exact List.mem_cons_of_mem _ hb
  · rw [e] at hb
    unfold frs at hb
    rw [List.filterMap_cons, hf] at hb
    exact hb
theorem Inv.stkFree (I : Inv X pins σ H s) : ∀ b ∈ frs X.stack, H b = none := fun b hb => by
  rcases List.mem_cons.mp (I.stkSub b hb) with e | hb
  · rw [e]; exact I.free
  · obtain ⟨_, o, ho, _⟩ := I.ok.funs.mem hb
    exact I.base.free b o ho (I.ok.frf b hb) fun z => I.ok.exfs b z hb

/-- THE STEP: the untracked objects but the frame and the records at ch are kept (the callers' frames up to slots), the frame's map is kept, the new abstract heap is held -/
theorem Inv.step {g' : Array GenState} {t' : Nat} {d' : Drawn} {ch : List Addr} (I : Inv X pins σ H s)
    (hch : ∀ b ∈ ch, (b ∈ X.ex ∨ X.s₀.heap.objs.size ≤ b) ∧ b ≠ X.env.locals ∧ (∀ x c, X.env.cells.lookup x = some c → c ≠ b) ∧ ∀ p ∈ X.pn ++ pins, p.1 ≠ b)
    (keep : ∀ b o, b ≠ X.env.locals → b ∉ X.fs → b ∉ ch → s.heap.get? b = some o → H b = none → h'.get? b = some o)
    (slot : ∀ b o, b ≠ X.env.locals → b ∈ X.fs → b ∉ ch → s.heap.get? b = some o → H b = none → ∃ sl, h'.get? b = some { o with slots := sl }) (free : ∀ b o, b ∉ ch → s.heap.get? b = some o → H b = none → H' b = none)
    (there : ∀ b o, b ∉ ch → s.heap.get? b = some o → ∃ o', h'.get? b = some o')
    (tups : ∀ b xs, H b = some (.tup xs) → H' b = some (.tup xs)) (frzs : ∀ b o u, H b = some (.frz o u) → H' b = some (.frz o u)) (tbls : ∀ b ps, H b = some (.tbl ps) → ∃ more, H' b = some (.tbl (ps ++ more)))
    (ns : ∀ m, s.heap.Ns X.env.locals m → h'.Ns X.env.locals m) (hok : HOk X.prog X.w H' h') (hg : AllBare g') :
    Inv X pins σ H' { s with heap := h', gens := g', drawn := d', toks := t' } := by
  have neL : ∀ b o, X.s₀.heap.get? b = some o → b ≠ X.env.locals := fun b o e => Nat.ne_of_lt (Nat.lt_of_lt_of_le (Heap.lt_size e) I.ok.above)
  have neC : ∀ b o, X.s₀.heap.get? b = some o → b ∉ X.ex → b ∉ ch := fun b o e hx hb => by
    rcases (hch b hb).1 with z | z
    · exact hx z
    · exact absurd (Nat.lt_of_lt_of_le (Heap.lt_size e) z) (Nat.lt_irrefl _)
  have cellK : ∀ x c, X.env.cells.lookup x = some c → ∀ v, s.heap.IsCell c v → h'.IsCell c v := fun x c e v ⟨o, ho, hd⟩ => by
    have nch : c ∉ ch := fun z => (hch c z).2.2.1 x c e rfl
    by_cases hc : c ∈ X.fs
    · obtain ⟨sl, q⟩ := slot c o (I.cne x c e) hc nch ho (I.freeC x c e)
      exact ⟨_, q, hd⟩
    · exact ⟨o, keep c o (I.cne x c e) hc nch ho (I.freeC x c e), hd⟩
  refine ⟨I.ok, I.os, hg, ⟨fun b o e n hb hx => ?_, fun b o e n hb hx => ?_, fun b o e n hx => ?_, fun b o e hx => ?_, fun b xs e => tups b xs (I.base.tups b xs e), fun b o xs e => frzs b o xs (I.base.frzs b o xs e), fun b ps e => ?_⟩, ?_, fun x c e => ?_, ?_, fun x c e => ?_, fun p hp => ?_, hok, I.len⟩
  · exact keep b o (neL b o e) hb (neC b o e hx) (I.base.keep b o e n hb hx) (I.base.free b o e n hx)
  · obtain ⟨sl, e1⟩ := I.base.slot b o e n hb hx
    obtain ⟨sl', e2⟩ := slot b _ (neL b o e) hb (neC b o e hx) e1 (I.base.free b o e n hx)
    exact ⟨sl', e2⟩
  · obtain ⟨o', e1⟩ := I.base.there b o e hx
    exact free b o' (neC b o e hx) e1 (I.base.free b o e n hx)
  · obtain ⟨o', e1⟩ := I.base.there b o e hx
    exact there b o' (neC b o e hx) e1
  · obtain ⟨m1, e1⟩ := I.base.tbls b ps e
    obtain ⟨m2, e2⟩ := tbls b _ e1
    exact ⟨m1 ++ m2, by rw [e2, Array.append_assoc]⟩
  · obtain ⟨m, hn, hl⟩ := I.loc
    refine ⟨m, ns m hn, fun i x v e1 e2 e3 => ?_⟩
    obtain ⟨u, r, l⟩ := hl i x v e1 e2 e3
    refine ⟨u, r, ?_⟩
    rcases l with l | ⟨k, c, e, z⟩
    · exact .inl l
    · exact .inr ⟨k, c, e, cellK x c e _ z⟩
  · obtain ⟨v, z⟩ := I.cell x c e
    exact ⟨v, cellK x c e v z⟩
  · obtain ⟨m, ⟨o, _, _, ho, _⟩, _⟩ := I.loc
    exact free _ o (fun z => (hch _ z).2.1 rfl) ho I.free
  · obtain ⟨v, o, ho, hd⟩ := I.cell x c e
    exact free c o (fun z => (hch c z).2.2.1 x c e rfl) ho (I.freeC x c e)
  · obtain ⟨e, n, ne, nf, d⟩ := I.pin p hp
    have nch : p.1 ∉ ch := fun z => (hch p.1 z).2.2.2 p hp rfl
    exact ⟨keep p.1 p.2 ne nf nch e n, free p.1 p.2 nch e n, ne, nf, d⟩
/-- .. where the frame's own object is kept too -/
theorem Inv.un {t' : Nat} (I : Inv X pins σ H s) (u : Un X.fs [] H H' s.heap h') (hok : HOk X.prog X.w H' h') : Inv X pins σ H' { s with heap := h', toks := t' } := by
  obtain ⟨m, ⟨o, es, ep, ho, r⟩, _⟩ := id I.loc
  obtain ⟨sl, hL⟩ := u.any ho I.free (by simp)
  exact I.step (g' := s.gens) (d' := s.drawn) (ch := []) (fun _ z => nomatch z) (fun b o _ hb _ e n => u.keep b o e n hb (by simp)) (fun b o _ hb _ e n => u.slot b o e n hb (by simp)) (fun b o _ e n => u.free b o e n (by simp)) (fun b o _ e => u.there b o e (by simp)) u.tups u.frzs u.tbls (fun m' hm => by
    obtain ⟨o', es', ep', ho', r'⟩ := hm
    rw [ho] at ho'; cases ho'
    exact ⟨_, es', ep', hL, r'⟩) hok I.bare
/-- behind a call (or a comprehension's block): the slots of this frame may have changed too, the records at ch may have turned -/
theorem Inv.call {g' : Array GenState} {t' : Nat} {d' : Drawn} {ch : List Addr} (I : Inv X pins σ H s) (u : Un (frs X.stack) ch H H' s.heap h') (hok : HOk X.prog X.w H' h') (hg : AllBare g')
    (hch : ∀ b ∈ ch, (b ∈ X.ex ∨ X.s₀.heap.objs.size ≤ b) ∧ b ≠ X.env.locals ∧ (∀ x c, X.env.cells.lookup x = some c → c ≠ b) ∧ ∀ p ∈ X.pn ++ pins, p.1 ≠ b) :
    Inv X pins σ H' { s with heap := h', gens := g', drawn := d', toks := t' } := by
  obtain ⟨m, ⟨o, es, ep, ho, r⟩, _⟩ := id I.loc
  obtain ⟨sl, hL⟩ := u.any ho I.free fun z => (hch _ z).2.1 rfl
  exact I.step (ch := ch) hch (fun b o hL hb hc e n => u.keep b o e n (fun z => (List.mem_cons.mp (I.stkSub b z)).elim hL hb) hc) (fun b o _ _ hc e n => u.any e n hc) (fun b o hc e n => u.free b o e n hc) (fun b o hc e => u.there b o e hc) u.tups u.frzs u.tbls (fun m' hm => by
    obtain ⟨o', es', ep', ho', r'⟩ := hm
    rw [ho] at ho'; cases ho'
    exact ⟨_, es', ep', hL, r'⟩) hok hg
/-- an untracked record of ours (an iterator) has turned -/
theorem Inv.turned {t' : Nat} {it : Addr} (I : Inv X pins σ H s) (k : ∀ b o, b ≠ it → s.heap.get? b = some o → h'.get? b = some o) (hn : H it = none) (hL : it ≠ X.env.locals)
    (h1 : it ∈ X.ex ∨ X.s₀.heap.objs.size ≤ it) (h2 : ∀ x c, X.env.cells.lookup x = some c → c ≠ it) (h3 : ∀ p ∈ X.pn ++ pins, p.1 ≠ it) : Inv X pins σ H { s with heap := h', toks := t' } := by
  have nit : ∀ b u, H b = some u → b ≠ it := fun b u e z => by rw [z, hn] at e; cases e
  refine I.step (g' := s.gens) (d' := s.drawn) (ch := [it]) (fun b hb => ?_) (fun b o _ _ hc e _ => k b o (fun z => hc (by simp [z])) e) (fun b o _ _ hc e _ => ⟨o.slots, k b o (fun z => hc (by simp [z])) e⟩) (fun _ _ _ _ n => n)
    (fun b o hc e => ⟨o, k b o (fun z => hc (by simp [z])) e⟩) (fun _ _ e => e) (fun _ _ _ e => e) (fun b ps e => ⟨#[], by rw [e]; simp⟩) (fun m hm => ?_) (fun b u e => ?_) I.bare
  · have e : b = it := by simpa using hb
    subst e
    exact ⟨h1, hL, h2, h3⟩
  · obtain ⟨o, es, ep, ho, r⟩ := hm
    exact ⟨o, es, ep, k _ o (Ne.symm hL) ho, r⟩
  · refine (I.hok b u e).stay (fun c v hc q => k c v ?_ q) (fun _ q => q) fun _ _ q => q
    rcases hc with z | z
    · rw [z]; exact nit b u e
    · exact nit c _ z
theorem Inv.tok (I : Inv X pins σ H s) (t : Nat) : Inv X pins σ H { s with toks := t } := I.un (h' := s.heap) (t' := t) Un.refl I.hok
/-- all objects kept -/
theorem Inv.kept {t' : Nat} (I : Inv X pins σ H s) (k : ∀ b u, s.heap.get? b = some u → h'.get? b = some u) : Inv X pins σ H { s with heap := h', toks := t' } := I.un (Un.kept k) (I.hok.kept k)
/-- a new object laid and tracked -/
theorem Inv.laid {a : Addr} {o : HO} {t' : Nat} (I : Inv X pins σ H s) (k : ∀ b u, s.heap.get? b = some u → h'.get? b = some u) (hp : s.heap.objs.size ≤ a) (new : ObjOk X.prog X.w (upd H a o) h' a o) :
    Inv X pins σ (upd H a o) { s with heap := h', toks := t' } := I.un (Un.laid k hp (I.hok.fresh hp)) (I.hok.laid k hp new)
/-- an object written -/
theorem Inv.write {x e : Addr} {o : HO} {t' : Nat} (I : Inv X pins σ H s) (mu : Mut (H x)) (he : e = x ∨ H e = some (.own x)) (k : ∀ b u, b ≠ e → s.heap.get? b = some u → h'.get? b = some u) (heo : ∃ u, h'.get? e = some u)
    (new : ObjOk X.prog X.w (upd H x o) h' x o) : Inv X pins σ (upd H x o) { s with heap := h', toks := t' } := I.un (Un.write mu he k heo) (I.hok.write mu he k heo new)
/-- forgetting slots, pins -/
theorem Inv.weak {σ' : List (Option V)} (I : Inv X pins σ H s) (hl : σ'.length = σ.length) (w : ∀ (i : Nat) v, σ'[i]? = some (some v) → σ[i]? = some (some v)) : Inv X pins σ' H s :=
  ⟨I.ok, I.os, I.bare, I.base, let ⟨m, hn, hl'⟩ := I.loc; ⟨m, hn, fun i x v e1 e2 e3 => hl' i x v e1 (w i v e2) e3⟩, I.cell, I.free, I.freeC, I.pin, I.hok, hl.trans I.len⟩
theorem Inv.pins_of {pins' : List (Addr × Obj)} (I : Inv X pins σ H s) (h : ∀ p ∈ pins', s.heap.get? p.1 = some p.2 ∧ H p.1 = none ∧ p.1 ≠ X.env.locals ∧ p.1 ∉ X.fs ∧ ∀ v, p.2.data ≠ .cell v) : Inv X pins' σ H s :=
  ⟨I.ok, I.os, I.bare, I.base, I.loc, I.cell, I.free, I.freeC, fun p hp => (List.mem_append.mp hp).elim (fun z => I.pin p (List.mem_append_left _ z)) (h p), I.hok, I.len⟩

theorem nodup_ix {N : List Str} (hN : N.Nodup) {i j : Nat} {x : Str} (a : N[i]? = some x) (b : N[j]? = some x) : i = j := by
  obtain ⟨h1, e1⟩ := List.getElem?_eq_some_iff.mp a
  obtain ⟨h2, e2⟩ := List.getElem?_eq_some_iff.mp b
  exact (List.getElem_inj hN).mp (e1.trans e2.symm)

/-- a name is stored; what changed -/
theorem store_ok2 {M : Model} {A : Around} {E : Value → Shared → Prop} {i : Nat} {x : Str} {v : V} {u : Value} {Q : Unit → Shared → Prop} (I : Inv X pins σ H s) (hN : X.N.Nodup) (hi : X.N[i]? = some x) (hx : Loc X.env.scope x) (r : RelV v u)
    (h : ∀ s', Inv X pins (σ.set i (some v)) H s' → (∃ a, Heap.SameBut a s.heap s'.heap ∧ (a = X.env.locals ∨ X.env.cells.lookup x = some a)) → Q () s') (hf : X.fn x = true ∨ X.env.scope.names.lookup x = some .local := by first | exact .inl rfl | exact .inr rfl | assumption) : wpAny M A (storeName X.env x u) Q E s := by
  obtain ⟨m, hn, hl⟩ := id I.loc
  have hcls : (X.env.scope.kind == .class || (X.env.scope.kind == .module && X.env.locals != X.env.globals)) = false := by rw [I.ok.kind]; rfl
  have hiσ : i < σ.length := by rw [I.len]; exact (List.getElem?_eq_some_iff.mp hi).1
  have cne := I.cne
  have tracked : ∀ {a : Addr} {h' : Heap}, (∃ o, s.heap.get? a = some o ∧ H a = none) → Heap.SameBut a s.heap h' → HOk X.prog X.w H h' := fun {a h'} ha hs b ob e => by
    obtain ⟨_, _, hfree⟩ := ha
    refine (I.hok b ob e).stay (fun c w' hc q => (hs.2 c ?_).trans q) (fun _ q => q) fun _ _ q => q
    rintro rfl
    rcases hc with rfl | hc
    · rw [hfree] at e; cases e
    · rw [hfree] at hc; cases hc
  rcases hx with hk | hk
  · refine wpAny_storeName_local hk hn (fun h' hn' hs => ?_) hcls
    obtain ⟨oL, _, _, hoL, _⟩ := id hn
    refine h _ ⟨I.ok, I.os, I.bare, ⟨fun b o e n hb hx => ?_, fun b o e n hb hx => ?_, I.base.free, fun b o e hx => ?_, I.base.tups, I.base.frzs, I.base.tbls⟩, ⟨_, hn', fun j y v' e1 e2 e3 => ?_⟩, fun y c e => ?_, I.free, I.freeC, fun p hp => ?_, tracked ⟨oL, hoL, I.free⟩ hs, by simpa using I.len⟩ ⟨_, hs, .inl rfl⟩
    · exact (hs.2 b (Nat.ne_of_lt (Nat.lt_of_lt_of_le (Heap.lt_size e) I.ok.above))).trans (I.base.keep b o e n hb hx)
    · obtain ⟨sl, e1⟩ := I.base.slot b o e n hb hx
      exact ⟨sl, (hs.2 b (Nat.ne_of_lt (Nat.lt_of_lt_of_le (Heap.lt_size e) I.ok.above))).trans e1⟩
    · obtain ⟨o', e1⟩ := I.base.there b o e hx
      exact ⟨o', (hs.2 b (Nat.ne_of_lt (Nat.lt_of_lt_of_le (Heap.lt_size e) I.ok.above))).trans e1⟩
    · by_cases hj : j = i
      · subst hj
        rw [hi] at e1; cases e1
        rw [List.getElem?_set_self hiσ] at e2
        cases e2
        exact ⟨u, r, .inl ⟨hk, by simp⟩⟩
      · rw [List.getElem?_set_ne (Ne.symm hj)] at e2
        obtain ⟨u', r', q⟩ := hl j y v' e1 e2 e3
        refine ⟨u', r', ?_⟩
        rcases q with ⟨k, e⟩ | ⟨k, c, e, z⟩
        · refine .inl ⟨k, ?_⟩
          have : y ≠ x := fun e => hj (nodup_ix hN e1 (e ▸ hi))
          simp [this, e]
        · exact .inr ⟨k, c, e, z.sameBut hs (cne y c e)⟩
    · obtain ⟨w', z⟩ := I.cell y c e
      exact ⟨w', z.sameBut hs (cne y c e)⟩
    · obtain ⟨e, n, ne, nf, d⟩ := I.pin p hp
      exact ⟨(hs.2 p.1 ne).trans e, n, ne, nf, d⟩
  · have hfn : X.fn x = true := by
      rcases hf with z | z
      · exact z
      · rw [z] at hk; cases hk
    obtain ⟨c, hc⟩ := I.ok.has x (.inl hk)
    obtain ⟨w', z⟩ := I.cell x c hc
    refine wpAny_storeName_cell I.ok.kind hk hc z (fun h' hc' hs => ?_)
    obtain ⟨oc, hoc, hocd⟩ := id z
    refine h { s with heap := h' } ⟨I.ok, I.os, I.bare, ⟨fun b o e n hb hx => ?_, fun b o e n hb hx => ?_, I.base.free, fun b o e hx => ?_, I.base.tups, I.base.frzs, I.base.tbls⟩, ⟨m, hn.sameBut hs (Ne.symm (cne x c hc)), fun j y v' e1 e2 e3 => ?_⟩, fun y c' e => ?_, I.free, I.freeC, fun p hp => ?_, tracked ⟨oc, hoc, I.freeC x c hc⟩ hs, by simpa using I.len⟩ ⟨c, hs, .inr hc⟩
    · exact (hs.2 b (Nat.ne_of_lt (Nat.lt_of_lt_of_le (Heap.lt_size e) (I.ok.cab x c hfn hc)))).trans (I.base.keep b o e n hb hx)
    · obtain ⟨sl, e1⟩ := I.base.slot b o e n hb hx
      exact ⟨sl, (hs.2 b (Nat.ne_of_lt (Nat.lt_of_lt_of_le (Heap.lt_size e) (I.ok.cab x c hfn hc)))).trans e1⟩
    · obtain ⟨o', e1⟩ := I.base.there b o e hx
      exact ⟨o', (hs.2 b (Nat.ne_of_lt (Nat.lt_of_lt_of_le (Heap.lt_size e) (I.ok.cab x c hfn hc)))).trans e1⟩
    · by_cases hj : j = i
      · subst hj
        rw [hi] at e1; cases e1
        rw [List.getElem?_set_self hiσ] at e2
        cases e2
        exact ⟨u, r, .inr ⟨.inl hk, c, hc, hc'⟩⟩
      · rw [List.getElem?_set_ne (Ne.symm hj)] at e2
        obtain ⟨u', r', q⟩ := hl j y v' e1 e2 e3
        refine ⟨u', r', ?_⟩
        rcases q with q | ⟨k, c', e, z'⟩
        · exact .inl q
        · refine .inr ⟨k, c', e, z'.sameBut hs ?_⟩
          rintro rfl
          exact hj (nodup_ix hN e1 (I.ok.inj _ _ _ e hc ▸ hi))
    · by_cases hcc : c' = c
      · subst hcc; exact ⟨_, hc'⟩
      · obtain ⟨w2, z2⟩ := I.cell y c' e
        exact ⟨w2, z2.sameBut hs hcc⟩
    · obtain ⟨e, n, ne, nf, d⟩ := I.pin p hp
      refine ⟨(hs.2 p.1 ?_).trans e, n, ne, nf, d⟩
      intro q
      rw [q, hoc] at e
      have q' : oc = p.2 := Option.some.inj e
      exact d w' (by rw [← q']; exact hocd)
theorem store_ok {M : Model} {A : Around} {E : Value → Shared → Prop} {i : Nat} {x : Str} {v : V} {u : Value} {Q : Unit → Shared → Prop} (I : Inv X pins σ H s) (hN : X.N.Nodup) (hi : X.N[i]? = some x) (hx : Loc X.env.scope x) (r : RelV v u)
    (h : ∀ s', Inv X pins (σ.set i (some v)) H s' → Q () s') (hf : X.fn x = true ∨ X.env.scope.names.lookup x = some .local := by first | exact .inl rfl | exact .inr rfl | assumption) : wpAny M A (storeName X.env x u) Q E s :=
  store_ok2 I hN hi hx r (fun s' I' _ => h s' I') hf
end

/-! ### the judgements -/
/-- an exception: its class, its own dict's address (where it has one), the abstract heap behind it -/
abbrev XK := Value → Option Addr → Hp → Prop
abbrev St := List (Option V)
abbrev VK := V → Hp → Prop
/-- an expression's reading; a test's; an argument list's -/
abbrev TE := St → Hp → VK → Prop
abbrev TT := St → Hp → (Bool → Hp → Prop) → Prop
abbrev TA := St → Hp → (List V → Hp → Prop) → Prop
/-- what is wanted behind a statement -/
structure Ends where
  nx : St → Hp → Prop
  rt : VK
  bk : St → Hp → Prop := fun _ _ => False
  ct : St → Hp → Prop := fun _ _ => False
abbrev TS := Ends → St → Hp → Prop

def EP (X : Cx) (pins : List (Addr × Obj)) (σ : St) (Q : VK) (u : Value) (s' : Shared) : Prop := ∃ v H', Inv X pins σ H' s' ∧ RelV v u ∧ Q v H'
def TP (X : Cx) (pins : List (Addr × Obj)) (σ : St) (Q : Bool → Hp → Prop) (b : Bool) (s' : Shared) : Prop := ∃ H', Inv X pins σ H' s' ∧ Q b H'
def AP (X : Cx) (pins : List (Addr × Obj)) (σ : St) (Q : List V → Hp → Prop) (us : List Value) (s' : Shared) : Prop := ∃ vs H', Inv X pins σ H' s' ∧ Vals vs us ∧ Q vs H'
def SP (X : Cx) (pins : List (Addr × Obj)) (D : Ends) (f : Flow) (s' : Shared) : Prop :=
  match f with
  | .next => ∃ σ' H', Inv X pins σ' H' s' ∧ D.nx σ' H'
  | .brk => ∃ σ' H', Inv X pins σ' H' s' ∧ D.bk σ' H'
  | .cont => ∃ σ' H', Inv X pins σ' H' s' ∧ D.ct σ' H'
  | .ret u => ∃ v σ' H', Inv X pins σ' H' s' ∧ RelV v u ∧ D.rt v H'

def PE (X : Cx) (e : Expr) (t : TE) : Prop :=
  ∀ (pins : List (Addr × Obj)) (s : Shared) (σ : St) (H : Hp) (Q : VK), Inv X pins σ H s → t σ H Q → wpAny (model X.prog X.w) X.A (eval e X.env) (EP X pins σ Q) X.xe s
def PT (X : Cx) (e : Expr) (t : TT) : Prop :=
  ∀ (pins : List (Addr × Obj)) (s : Shared) (σ : St) (H : Hp) (Q : Bool → Hp → Prop), Inv X pins σ H s → t σ H Q → wpAny (model X.prog X.w) X.A (isTrue e X.env (eval e X.env)) (TP X pins σ Q) X.xe s
/-- a test whatever its 'whole' is (and, or) -/
def PW (X : Cx) (e : Expr) (t : TT) : Prop :=
  ∀ (whole : Sem Value) (pins : List (Addr × Obj)) (s : Shared) (σ : St) (H : Hp) (Q : Bool → Hp → Prop), Inv X pins σ H s → t σ H Q → wpAny (model X.prog X.w) X.A (isTrue e X.env whole) (TP X pins σ Q) X.xe s
theorem PW.pt {X : Cx} {e : Expr} {t : TT} (h : PW X e t) : PT X e t := h _
/-- an argument list (no star), from the left -/
def PA (X : Cx) (es : List Expr) (t : TA) : Prop :=
  ∀ (pos : Pos) (pins : List (Addr × Obj)) (s : Shared) (σ : St) (H : Hp) (Q : List V → Hp → Prop), Inv X pins σ H s → t σ H Q → wpAny (model X.prog X.w) X.A (spliced (backTo pos (starEach es X.env))) (AP X pins σ Q) X.xe s
def PS (X : Cx) (st : Stmt) (t : TS) : Prop :=
  ∀ (pins : List (Addr × Obj)) (s : Shared) (σ : St) (H : Hp) (D : Ends), Inv X pins σ H s → t D σ H → wpAny (model X.prog X.w) X.A (exec st X.env) (SP X pins D) X.xe s
def PSs (X : Cx) (st : List Stmt) (t : TS) : Prop :=
  ∀ (pins : List (Addr × Obj)) (s : Shared) (σ : St) (H : Hp) (D : Ends), Inv X pins σ H s → t D σ H → wpAny (model X.prog X.w) X.A (execs st X.env) (SP X pins D) X.xe s
/-- weaken the end -/
theorem thn {α : Type} {t : Sem α} {Q Q' : α → Shared → Prop} {M : Model} {A : Around} {E : Value → Shared → Prop} {s : Shared} (h : wpAny M A t Q E s) (hQ : ∀ a s, Q a s → Q' a s) : wpAny M A t Q' E s := wpAny_mono h hQ fun _ _ x => x
end L2

namespace L2
open PySem PySem.Spec PyProof.Rows
section
variable {X : Cx}


/-! ### names and constants -/
def tVar (i : Nat) : TE := fun σ H Q => ∃ v, σ[i]? = some (some v) ∧ Q v H
def tC (v : V) : TE := fun _ H Q => Q v H
theorem pe_var {i : Nat} {x : Str} {pos : Pos} (hN : X.N[i]? = some x) (hv : Vis X.env.scope x) (hd : (x == ("__debug__" : Str)) = false := by decide) (hcd : (x == ("__classdict__" : Str)) = false := by decide) : PE X (.Name x pos) (tVar i) := by
  intro pins s σ H Q I h
  obtain ⟨v, e, h⟩ := h
  obtain ⟨m, hn, hl⟩ := I.loc
  obtain ⟨u, r, l⟩ := hl i x v hN e hv
  have fin : EP X pins σ Q u s := ⟨v, H, I, r, h⟩
  rcases l with ⟨hk, hm⟩ | ⟨hk, c, hc, hcell⟩
  · exact wpAny_Name (wpAny_loadName_local I.ok.kind hk hn hm fin) hd
  · rcases hk with hk | hk
    · exact wpAny_Name (wpAny_loadName_cell I.ok.kind hk hc hcell fin) hd
    · exact wpAny_Name (wpAny_loadName_free I.ok.kind hk hc hcell fin hcd) hd
theorem pe_int {i j pos} : PE X (.Constant (.int i) j pos) (tC (.int i)) := fun _ _ _ H _ I h => wpAny_Constant_int ⟨.int i, H, I.tok _, ⟨_, rfl⟩, h⟩
theorem pe_bl {b j pos} : PE X (.Constant (.bool b) j pos) (tC (.bl b)) := fun _ _ _ H _ I h => Constant_bool ⟨.bl b, H, I, rfl, h⟩
theorem pe_non {j pos} : PE X (.Constant .none j pos) (tC .non) := fun _ _ _ H _ I h => Constant_none ⟨.non, H, I, rfl, h⟩
theorem pe_str {x j pos} : PE X (.Constant (.str x) j pos) (tC (.str x)) := fun _ _ _ H _ I h => Calls.Constant_str ⟨.str x, H, I.tok _, ⟨_, rfl⟩, h⟩

/-- a global name of the def -/
def Gl (X : Cx) (x : Str) : Prop := X.env.kindOf x = some .globalImplicit
theorem ld_glob {E : Value → Shared → Prop} {pins : List (Addr × Obj)} {s : Shared} {σ : St} {H : Hp} {x : Str} {u : Value} {pos : Pos} {Q : Value → Shared → Prop} (I : Inv X pins σ H s) (hg : Gl X x) (hm : X.mg x = some u) (h : Q u s)
    (hd : (x == ("__debug__" : Str)) = false := by decide) : wpAny (model X.prog X.w) X.A (eval (.Name x pos) X.env) Q E s :=
  Calls.Name_function_global I.ok.kind hg (Calls.loadGlobal_global (by rw [I.ok.glob]; exact I.mod.glob.keeps I.bk) hm h) hd
theorem ld_blt {E : Value → Shared → Prop} {pins : List (Addr × Obj)} {s : Shared} {σ : St} {H : Hp} {x : Str} {u : Value} {pos : Pos} {Q : Value → Shared → Prop} (I : Inv X pins σ H s) (hg : Gl X x) (hm : X.mg x = none) (hv : bootBuiltins x = some u) (h : Q u s)
    (hn : x ≠ "__name__" := by decide) (hd : (x == ("__debug__" : Str)) = false := by decide) : wpAny (model X.prog X.w) X.A (eval (.Name x pos) X.env) Q E s := by
  obtain ⟨mb, h1, h2⟩ := I.mod.blt
  exact Calls.Name_function_global I.ok.kind hg (Calls.loadGlobal_builtin (by rw [I.ok.glob]; exact I.mod.glob.keeps I.bk) hm (by rw [I.ok.blt]; exact h1.keeps I.bk) ((h2 x hn).trans hv) h) hd
theorem pe_bltn {x : Str} {v : V} {u : Value} {pos : Pos} (hg : Gl X x) (hm : X.mg x = none) (hv : bootBuiltins x = some u) (r : RelV v u) (hn : x ≠ "__name__" := by decide) (hd : (x == ("__debug__" : Str)) = false := by decide) : PE X (.Name x pos) (tC v) :=
  fun _ _ _ H _ I h => ld_blt I hg hm hv ⟨v, H, I, r, h⟩ hn hd

/-! ### arithmetic -/
variable {a b : Expr} {ta tb : TE} {pos : Pos}

/-! ### comparisons -/
def PC (X : Cx) (op : CmpOp) (a b : Expr) (t : TE) : Prop :=
  ∀ (pins : List (Addr × Obj)) (s : Shared) (σ : St) (H : Hp) (Q : VK), Inv X pins σ H s → t σ H Q →
    wpAny (model X.prog X.w) X.A (eval a X.env) (fun v s₁ => wpAny (model X.prog X.w) X.A (eval b X.env) (fun u s₂ => wpAny (model X.prog X.w) X.A (compareOp op v u) (EP X pins σ Q) X.xe s₂) X.xe s₁) X.xe s
theorem nobehind (b : Expr) {op : CmpOp} (h : op ≠ .In) (h2 : op ≠ .NotIn) : behindInMarks op b = false := by
  have e1 : (op == CmpOp.In) = false := by cases op <;> first | rfl | exact absurd rfl h
  have e2 : (op == CmpOp.NotIn) = false := by cases op <;> first | rfl | exact absurd rfl h2
  cases b <;> simp [behindInMarks, e1, e2]
/-- is None -/
def tIsN (ta : TE) : TE := fun σ H Q => ta σ H fun x H1 => Q (.bl (decide (x = .non))) H1
def tNotN (ta : TE) : TE := fun σ H Q => ta σ H fun x H1 => Q (.bl (!decide (x = .non))) H1
theorem RelV.none_iff {x : V} {v : Value} (r : RelV x v) : (v == Value.none) = decide (x = .non) := by
  cases x with
  | non => cases r; rfl
  | bl _ => cases r; rfl
  | int _ => obtain ⟨t, rfl⟩ := r; rfl
  | str _ => obtain ⟨t, rfl⟩ := r; rfl
  | byt _ => obtain ⟨t, rfl⟩ := r; rfl
  | flt _ => obtain ⟨t, rfl⟩ := r; rfl
  | ref _ => cases r; rfl
  | ty _ => cases r; rfl
theorem pc_isN {j pos'} (ha : PE X a ta) : PC X .Is a (.Constant .none j pos') (tIsN ta) := by
  intro pins s σ H Q I h
  refine thn (ha pins s σ H _ I h) fun v s1 ⟨x, H1, I1, r1, q1⟩ => ?_
  exact Constant_none (is_none_gen ⟨.bl _, H1, I1, by rw [r1.none_iff]; rfl, q1⟩)
theorem pc_notN {j pos'} (ha : PE X a ta) : PC X .IsNot a (.Constant .none j pos') (tNotN ta) := by
  intro pins s σ H Q I h
  refine thn (ha pins s σ H _ I h) fun v s1 ⟨x, H1, I1, r1, q1⟩ => ?_
  exact Constant_none (isnot_none_gen ⟨.bl _, H1, I1, by rw [r1.none_iff]; rfl, q1⟩)
/-- a comparison as a value, as a test -/
def tB (t : TE) : TT := fun σ H Q => t σ H fun x H1 => ∃ c, x = .bl c ∧ Q c H1
theorem pe_cmp {op : CmpOp} {t : TE} (h : PC X op a b t) (h1 : behindInMarks op b = false := by first | exact nobehind _ (by decide) (by decide) | rfl) : PE X (.Compare a [op] [b] pos) t := fun pins s σ H Q I hw => wpAny_Compare1 (h pins s σ H Q I hw) h1
theorem pt_cmp {op : CmpOp} {t : TE} (h : PC X op a b t) (h1 : behindInMarks op b = false := by first | exact nobehind _ (by decide) (by decide) | rfl) : PT X (.Compare a [op] [b] pos) (tB t) := by
  intro pins s σ H Q I hw
  refine wpAny_isTrue_Compare1 (thn (h pins s σ H _ I hw) fun v s1 h1 => thn h1 fun u s2 h2 => thn h2 fun c s3 ⟨x, H1, I1, r1, q1⟩ => ?_) h1
  obtain ⟨d, rfl, q⟩ := q1
  cases r1
  exact wpAny_truthy_bool ⟨H1, I1, q⟩
/-- an expression whose value is a bool, as a test -/
theorem pt_val {e : Expr} {t : TE} (h : PE X e t) (he : ∀ whole, isTrue e X.env whole = (do let v ← whole; standAt e.pos; holding [v] (truthy v)) := by intro _; rfl) : PT X e (tB t) := by
  intro pins s σ H Q I hw
  refine isTrue_plain (thn (h pins s σ H _ I hw) fun v s1 ⟨x, H1, I1, r1, q1⟩ => ?_) (he _)
  obtain ⟨d, rfl, q⟩ := q1
  cases r1
  exact wpAny_truthy_bool ⟨H1, I1, q⟩

/-! ### and, or, not -/
variable {tA tB' : TT} {rest : List Expr}
def tAnd (t u : TT) : TT := fun σ H Q => t σ H fun c H1 => if c = true then u σ H1 Q else Q false H1
def tOr (t u : TT) : TT := fun σ H Q => t σ H fun c H1 => if c = true then Q true H1 else u σ H1 Q
def tNot (t : TT) : TT := fun σ H Q => t σ H fun c H1 => Q (!c) H1
theorem pw_and1 (ha : PT X a tA) : PW X (.BoolOp .And [a] pos) tA := by
  intro wh pins s σ H Q I h
  refine isTrue_and (thn (ha pins s σ H Q I h) fun c s1 e => ?_)
  cases c with
  | true => exact isTrue_and_nil e
  | false => exact e
theorem pw_or1 (ha : PT X a tA) : PW X (.BoolOp .Or [a] pos) tA := by
  intro wh pins s σ H Q I h
  refine isTrue_or (thn (ha pins s σ H Q I h) fun c s1 e => ?_)
  cases c with
  | false => exact isTrue_or_nil e
  | true => exact e
theorem pw_and (ha : PT X a tA) (hb : PW X (.BoolOp .And (b :: rest) pos) tB') : PW X (.BoolOp .And (a :: b :: rest) pos) (tAnd tA tB') := by
  intro wh pins s σ H Q I h
  refine isTrue_and (thn (ha pins s σ H _ I h) fun c s1 ⟨H1, I1, q1⟩ => ?_)
  cases c with
  | true => exact hb wh pins s1 σ H1 Q I1 q1
  | false => exact ⟨H1, I1, q1⟩
theorem pw_or (ha : PT X a tA) (hb : PW X (.BoolOp .Or (b :: rest) pos) tB') : PW X (.BoolOp .Or (a :: b :: rest) pos) (tOr tA tB') := by
  intro wh pins s σ H Q I h
  refine isTrue_or (thn (ha pins s σ H _ I h) fun c s1 ⟨H1, I1, q1⟩ => ?_)
  cases c with
  | true => exact ⟨H1, I1, q1⟩
  | false => exact hb wh pins s1 σ H1 Q I1 q1
theorem pt_not (ha : PT X a tA) : PT X (.UnaryOp .Not a pos) (tNot tA) := by
  intro pins s σ H Q I h
  exact isTrue_not (ha pins s σ H (fun c H1 => Q (!c) H1) I h)
/-- .. as values (bools) -/
def tAndV (ta tb : TE) : TE := fun σ H Q => ta σ H fun x H1 => ∃ c, x = .bl c ∧ if c = true then tb σ H1 Q else Q (.bl false) H1
def tOrV (ta tb : TE) : TE := fun σ H Q => ta σ H fun x H1 => ∃ c, x = .bl c ∧ if c = true then Q (.bl true) H1 else tb σ H1 Q
def tNotV (ta : TE) : TE := fun σ H Q => ta σ H fun x H1 => ∃ c, x = .bl c ∧ Q (.bl (!c)) H1
theorem pe_one {op} {t : TE} (h : PE X a t) : PE X (.BoolOp op [a] pos) t := fun pins s σ H Q I hw => BoolOp_one (h pins s σ H Q I hw)
theorem pe_and (ha : PE X a ta) (hb : PE X (.BoolOp .And (b :: rest) pos) tb) : PE X (.BoolOp .And (a :: b :: rest) pos) (tAndV ta tb) := by
  intro pins s σ H Q I h
  refine BoolOp_and (thn (ha pins s σ H _ I h) fun v s1 ⟨x, H1, I1, r1, q1⟩ => ?_)
  obtain ⟨c, rfl, q1⟩ := q1
  cases r1
  refine wpAny_truthy_bool ?_
  cases c with
  | true => exact hb pins s1 σ H1 Q I1 q1
  | false => exact ⟨.bl false, H1, I1, rfl, q1⟩
theorem pe_not (ha : PE X a ta) : PE X (.UnaryOp .Not a pos) (tNotV ta) := by
  intro pins s σ H Q I h
  refine UnaryOp_ (thn (ha pins s σ H _ I h) fun v s1 ⟨x, H1, I1, r1, q1⟩ => ?_)
  obtain ⟨c, rfl, q1⟩ := q1
  cases r1
  exact not_of (wpAny_truthy_bool ⟨.bl (!c), H1, I1, rfl, q1⟩)
end
end L2

namespace L2
open PySem PySem.Spec PyProof.Rows

/-! ### a list, a tuple that is read: tracked, frozen, or an object of the module -/
def SqL (K : PySem.W.Frag) (H : Hp) (a : Addr) (xs : List V) : Prop :=
  Rd H a (.lst xs) ∨
    ∃ (o : Obj) (its : Array Value) (n : Nat), K.lookup a = some o ∧ o.cls = .type "list" ∧ o.dict = none ∧ o.data = .seq its n ∧ its.size ≤ sizeLine ∧ Vals xs its.toList
def SqT (K : PySem.W.Frag) (H : Hp) (a : Addr) (xs : List V) : Prop :=
  Rd H a (.tup xs) ∨
    ∃ (o : Obj) (its : Array Value) (n : Nat), K.lookup a = some o ∧ o.cls = .type "tuple" ∧ o.data = .seq its n ∧ its.size ≤ sizeLine ∧ Vals xs its.toList
def absV : Value → Option V
  | .none => some .non
  | .bool b => some (.bl b)
  | .int i _ => some (.int i)
  | .str x _ => some (.str x)
  | .bytes b _ => some (.byt b)
  | .float b _ => some (.flt b)
  | .ref a => some (.ref a)
  | .type n => some (.ty n)
  | _ => none
theorem RelV.abs {x : V} {u : Value} (r : RelV x u) : absV u = some x := by
  cases x with
  | non => cases r; rfl
  | bl _ => cases r; rfl
  | int _ => obtain ⟨t, rfl⟩ := r; rfl
  | str _ => obtain ⟨t, rfl⟩ := r; rfl
  | byt _ => obtain ⟨t, rfl⟩ := r; rfl
  | flt _ => obtain ⟨t, rfl⟩ := r; rfl
  | ref _ => cases r; rfl
  | ty _ => cases r; rfl
theorem RelV.inj {x y : V} {u : Value} (r : RelV x u) (q : RelV y u) : x = y := Option.some.inj (r.abs.symm.trans q.abs)
theorem Vals.inj : ∀ {xs ys : List V} {us : List Value}, Vals xs us → Vals ys us → xs = ys
  | _, _, _, .nil, .nil => rfl
  | _, _, _, .cons r t, .cons r' t' => by rw [r.inj r', Vals.inj t t']
section
variable {X : Cx} {pins : List (Addr × Obj)} {σ : St} {H : Hp} {s : Shared} {a : Addr} {xs ys : List V}
theorem SqL.of {K : PySem.W.Frag} (h : H a = some (.lst xs)) : SqL K H a xs := .inl (.inl h)
theorem SqT.of {K : PySem.W.Frag} (h : H a = some (.tup xs)) : SqT K H a xs := .inl (.inl h)
theorem Inv.list (I : Inv X pins σ H s) (h : SqL X.K H a xs) : ∃ its : List Value, Vals xs its ∧ PlainL s.heap a its.toArray ∧ xs.length ≤ sizeLine := by
  rcases h with h | ⟨o, its, n, hk, hc, hd, hs, hz, r⟩
  · obtain ⟨z, its, n, r, e⟩ := h.ok I.hok
    exact ⟨its, r, ⟨_, n, e, rfl, rfl, rfl⟩, z⟩
  · refine ⟨its.toList, r, ⟨o, n, I.kIn a o hk, hc, hd, by simpa using hs⟩, ?_⟩
    have e := r.length
    simp only [Array.length_toList] at e
    omega
theorem Inv.tuple (I : Inv X pins σ H s) (h : SqT X.K H a xs) : ∃ its : List Value, Vals xs its ∧ IsTup s.heap a its.toArray ∧ xs.length ≤ sizeLine := by
  rcases h with h | ⟨o, its, n, hk, hc, hs, hz, r⟩
  · obtain ⟨z, its, r, p⟩ := h.ok I.hok
    exact ⟨its, r, p, z⟩
  · refine ⟨its.toList, r, ⟨o, I.kIn a o hk, hc, n, by simpa using hs⟩, ?_⟩
    have e := r.length
    simp only [Array.length_toList] at e
    omega
theorem Inv.list_inj (I : Inv X pins σ H s) (h : SqL X.K H a xs) (h' : SqL X.K H a ys) : xs = ys := by
  obtain ⟨its, r, ⟨o, n, e, _, _, d⟩, _⟩ := I.list h
  obtain ⟨its', r', ⟨o', n', e', _, _, d'⟩, _⟩ := I.list h'
  rw [e] at e'; cases e'
  rw [d] at d'
  injection d' with d1 _
  have : its = its' := by simpa using congrArg Array.toList d1
  subst this
  exact r.inj r'
end

/-! ### another wish about exceptions -/
abbrev Cx.wish (X : Cx) (E : Value → Shared → Prop) : Cx := { X with xe := E }
/-- no exception leaves -/
abbrev Cx.nox (X : Cx) : Cx := X.wish fun _ _ => False
theorem Cx.Ok.wish {X : Cx} (ok : X.Ok) (E : Value → Shared → Prop) : (X.wish E).Ok :=
  ⟨ok.mod, ok.kind, ok.glob, ok.blt, ok.above, ok.inj, ok.has, ok.cab, ok.hd, ok.frames, ok.stk, ok.exf, ok.bs, ok.bsz, ok.noex, ok.exfs, ok.funs, ok.frf⟩
theorem Cx.Ok.unwish {X : Cx} {E : Value → Shared → Prop} (ok : (X.wish E).Ok) : X.Ok :=
  ⟨ok.mod, ok.kind, ok.glob, ok.blt, ok.above, ok.inj, ok.has, ok.cab, ok.hd, ok.frames, ok.stk, ok.exf, ok.bs, ok.bsz, ok.noex, ok.exfs, ok.funs, ok.frf⟩
section
variable {X : Cx} {pins : List (Addr × Obj)} {σ : St} {H : Hp} {s : Shared} {E : Value → Shared → Prop}
theorem Inv.wish (I : Inv X pins σ H s) (E : Value → Shared → Prop) : Inv (X.wish E) pins σ H s := ⟨I.ok.wish E, I.os, I.bare, I.base, I.loc, I.cell, I.free, I.freeC, I.pin, I.hok, I.len⟩
theorem Inv.unwish (I : Inv (X.wish E) pins σ H s) : Inv X pins σ H s := ⟨I.ok.unwish, I.os, I.bare, I.base, I.loc, I.cell, I.free, I.freeC, I.pin, I.hok, I.len⟩
theorem SP.unwish {D : Ends} {f : Flow} {s' : Shared} (h : SP (X.wish E) pins D f s') : SP X pins D f s' := by
  cases f with
  | next => obtain ⟨σ', H', I, q⟩ := h; exact ⟨σ', H', I.unwish, q⟩
  | brk => obtain ⟨σ', H', I, q⟩ := h; exact ⟨σ', H', I.unwish, q⟩
  | cont => obtain ⟨σ', H', I, q⟩ := h; exact ⟨σ', H', I.unwish, q⟩
  | ret u => obtain ⟨v, σ', H', I, r, q⟩ := h; exact ⟨v, σ', H', I.unwish, r, q⟩
theorem PE.nox {e : Expr} {t : TE} (h : PE X.nox e t) : PE X e t := fun pins s σ H Q I hw =>
  wpAny_mono (h pins s σ H Q (I.wish _) hw) (fun _ _ ⟨v, H', I', r, q⟩ => ⟨v, H', I'.unwish, r, q⟩) fun _ _ z => False.elim z
theorem PT.nox {e : Expr} {t : TT} (h : PT X.nox e t) : PT X e t := fun pins s σ H Q I hw =>
  wpAny_mono (h pins s σ H Q (I.wish _) hw) (fun _ _ ⟨H', I', q⟩ => ⟨H', I'.unwish, q⟩) fun _ _ z => False.elim z
theorem PSs.nox {st : List Stmt} {t : TS} (h : PSs X.nox st t) : PSs X st t := fun pins s σ H D I hw =>
  wpAny_mono (h pins s σ H D (I.wish _) hw) (fun _ _ q => q.unwish) fun _ _ z => False.elim z
end

/-! ### blocks and small statements -/
section
variable {X : Cx} {st : Stmt} {rest : List Stmt} {t u : TS} {e : Expr} {te : TE} {pos : Pos}
def tNext : TS := fun D σ H => D.nx σ H
def tSeq (t u : TS) : TS := fun D σ H => t { D with nx := u D } σ H
theorem pss_nil : PSs X [] tNext := fun _ _ σ H _ I h => wpAny_execs_nil ⟨σ, H, I, h⟩
theorem pss_cons (h1 : PS X st t) (h2 : PSs X rest u) : PSs X (st :: rest) (tSeq t u) := by
  intro pins s σ H D I h
  refine wpAny_execs_cons (thn (h1 pins s σ H { D with nx := u D } I h) fun f s1 q => ?_)
  cases f with
  | next =>
    obtain ⟨σ', H', I', q⟩ := q
    exact h2 pins s1 σ' H' D I' q
  | ret v => exact q
  | brk => exact q
  | cont => exact q
theorem pss_one (h1 : PS X st t) : PSs X [st] t := by
  intro pins s σ H D I h
  refine wpAny_execs_cons (thn (h1 pins s σ H D I h) fun f s1 q => ?_)
  cases f with
  | next => exact wpAny_execs_nil q
  | ret v => exact q
  | brk => exact q
  | cont => exact q
/-- in a def's body nothing is shown -/
theorem Inv.quiet {pins : List (Addr × Obj)} {σ : St} {H : Hp} {s : Shared} (I : Inv X pins σ H s) : interactive X.env = false := by simp [interactive, I.ok.kind]
/-- an expression whose value is dropped -/
def tDrop (te : TE) : TS := fun D σ H => te σ H fun _ H1 => D.nx σ H1
theorem ps_expr (he : PE X e te) (hs : swapsWith e none pos.line X.env = pure false := by rfl) : PS X (.Expr e pos) (tDrop te) := by
  intro pins s σ H D I h
  exact wpAny_Expr_any (thn (he pins s σ H _ I h) fun v s1 ⟨x, H1, I1, r1, q1⟩ => ⟨σ, H1, I1, q1⟩) I.quiet hs
def tRet (te : TE) : TS := fun D σ H => te σ H D.rt
theorem ps_ret (he : PE X e te) : PS X (.Return (some e) pos) (tRet te) := by
  intro pins s σ H D I h
  exact wpAny_Return_some (thn (he pins s σ H _ I h) fun v s1 ⟨x, H1, I1, r1, q1⟩ => ⟨x, σ, H1, I1, r1, q1⟩)
def tRetN : TS := fun D _ H => D.rt .non H
def tIfS (c : TT) (t u : TS) : TS := fun D σ H => c σ H fun b H1 => if b = true then t D σ H1 else u D σ H1
theorem ps_if {c : Expr} {a b : List Stmt} {tc : TT} (hc : PT X c tc) (ha : PSs X a t) (hb : PSs X b u) : PS X (.If c a b pos) (tIfS tc t u) := by
  intro pins s σ H D I h
  refine wpAny_If (thn (hc pins s σ H _ I h) fun d s1 ⟨H1, I1, q1⟩ => ?_)
  cases d with
  | true => exact ha pins s1 σ H1 D I1 q1
  | false => exact hb pins s1 σ H1 D I1 q1
/-- code that the proof never comes to -/
def tNever : TS := fun _ _ _ => False
theorem ps_never : PS X st tNever := fun _ _ _ _ _ _ h => h.elim
end

/-! ### targets -/
abbrev TG := V → St → Hp → (St → Hp → Prop) → Prop
def PG (X : Cx) (target : Expr) (t : TG) : Prop :=
  ∀ (pins : List (Addr × Obj)) (s : Shared) (σ : St) (H : Hp) (v : V) (u : Value) (Q : St → Hp → Prop), Inv X pins σ H s → RelV v u → t v σ H Q →
    wpAny (model X.prog X.w) X.A (assign target X.env u) (fun _ s' => ∃ σ' H', Inv X pins σ' H' s' ∧ Q σ' H') X.xe s
section
variable {X : Cx} {pos : Pos}
def gName (i : Nat) : TG := fun v σ H Q => Q (σ.set i (some v)) H
theorem pg_name {i : Nat} {x : Str} (hN : X.N.Nodup) (hi : X.N[i]? = some x) (hx : Loc X.env.scope x) (hf : X.fn x = true ∨ X.env.scope.names.lookup x = some .local := by first | exact .inl rfl | exact .inr rfl | assumption) : PG X (.Name x pos) (gName i) := by
  intro pins s σ H v u Q I r h
  exact wpAny_assign_Name (store_ok I hN hi hx r (fun s' I' => ⟨_, H, I', h⟩) hf)
/-- target = value -/
def tAsg (te : TE) (g : TG) : TS := fun D σ H => te σ H fun x H1 => g x σ H1 D.nx
/-- name = value -/
theorem ps_set {i : Nat} {x : Str} {e : Expr} {te : TE} {pos' : Pos} (hN : X.N.Nodup) (hi : X.N[i]? = some x) (hx : Loc X.env.scope x) (he : PE X e te) (hs : swapsWith e (some (.Name x pos')) pos.line X.env = pure false := by rfl) (hf : X.fn x = true ∨ X.env.scope.names.lookup x = some .local := by first | exact .inl rfl | exact .inr rfl | assumption) :
    PS X (.Assign [.Name x pos'] e pos) (tAsg te (gName i)) := by
  intro pins s σ H D I h
  refine wpAny_Assign_Name (thn (he pins s σ H _ I h) fun v s1 ⟨y, H1, I1, r1, q1⟩ => ?_) hs
  exact store_ok I1 hN hi hx r1 (fun s2 I2 => ⟨_, H1, I2, q1⟩) hf
end

/-! ### while -/
section
variable {X : Cx} {pos : Pos}
end

/-! ### what a loop or a comprehension walks -/
/-- at turn i: it yields x (the heap may grow), or it stops -/
structure It where
  go : Nat → Hp → Prop
  yld : Nat → Hp → V → Hp → Prop
  stop : Nat → Hp → Prop
/-- the iterator's own objects may turn: they are not the frame's, not pinned, younger than the entry (or a comprehension's own) -/
def FpOk (X : Cx) (pins : List (Addr × Obj)) (H : Hp) (b : Addr) : Prop :=
  H b = none ∧ b ≠ X.env.locals ∧ b ∉ X.fs ∧ (b ∈ X.ex ∨ X.s₀.heap.objs.size ≤ b) ∧ (∀ x c, X.env.cells.lookup x = some c → c ≠ b) ∧ ∀ p ∈ X.pn ++ pins, p.1 ≠ b
theorem Inv.fpOk {X : Cx} {pins : List (Addr × Obj)} {σ : St} {H H' : Hp} {s : Shared} {b : Addr} (I : Inv X pins σ H s) (hb : s.heap.objs.size ≤ b) (hn : H' b = none) : FpOk X pins H' b := by
  refine ⟨hn, Nat.ne_of_gt (Nat.lt_of_lt_of_le I.lt hb), I.nofs hb, .inr (Nat.le_trans I.sz hb), fun x c e z => ?_, fun p hp z => ?_⟩
  · obtain ⟨v, q⟩ := I.cell x c e
    exact absurd (Nat.lt_of_lt_of_le q.lt (by rw [z]; exact hb)) (Nat.lt_irrefl _)
  · exact absurd (Nat.lt_of_lt_of_le (Heap.lt_size (I.pin p hp).1) (by rw [z]; exact hb)) (Nat.lt_irrefl _)
structure Turn (P : Program) (w : World) (K : PySem.W.Frag) (tg : Expr) (J : It) (fp : List Addr) (it : Addr) (tn : Nat → Heap → Prop) : Prop where
  mem : it ∈ fp
  obj : ∀ i h, tn i h → ∀ b ∈ fp, ∃ o, h.get? b = some o ∧ ∀ v, o.data ≠ .cell v
  keep : ∀ i h h', tn i h → (∀ b ∈ fp, ∀ o, h.get? b = some o → h'.get? b = some o) → tn i h'
  item : ∀ (X : Cx), X.prog = P → X.w = w → X.K = K → X.calm = true → ∀ (i : Nat) (pins : List (Addr × Obj)) (s : Shared) (σ : St) (H : Hp) (E : Value → Shared → Prop), Inv X pins σ H s → (∀ b ∈ fp, FpOk X pins H b) → tn i s.heap → J.go i H →
    wpAny (model P w) X.A (pyNext (.ref it)) (fun r s1 => ∃ u, r = some u ∧
      wpAny (model P w) X.A (letOwnedTupleGo tg (.ref it) u) (fun _ s2 => ∃ x H', Inv X pins σ H' s2 ∧ RelV x u ∧ J.yld i H x H' ∧ tn (i + 1) s2.heap ∧ ∀ b ∈ fp, H' b = none) E s1) E s
  done : ∀ (X : Cx), X.prog = P → X.w = w → X.K = K → X.calm = true → ∀ (i : Nat) (pins : List (Addr × Obj)) (s : Shared) (σ : St) (H : Hp) (E : Value → Shared → Prop), Inv X pins σ H s → (∀ b ∈ fp, FpOk X pins H b) → tn i s.heap → J.stop i H →
    wpAny (model P w) X.A (pyNext (.ref it)) (fun r s1 => r = none ∧ Inv X pins σ H s1) E s
  self : ∀ (A : Around) (i : Nat) (s : Shared) (Q : Value → Shared → Prop) (E : Value → Shared → Prop), tn i s.heap → Q (.ref it) s → wpAny (model P w) A (pyIter (.ref it)) Q E s
abbrev TI := St → Hp → (It → Hp → Prop) → Prop
/-- an iterator has come -/
def PIE (X : Cx) (pins : List (Addr × Obj)) (σ : St) (tg : Expr) (R : It → Hp → Prop) (itv : Value) (s2 : Shared) : Prop :=
  ∃ (it : Addr) (fp : List Addr) (tn : Nat → Heap → Prop) (J : It) (H' : Hp), itv = .ref it ∧ Inv X pins σ H' s2 ∧ Turn X.prog X.w X.K tg J fp it tn ∧ tn 0 s2.heap ∧ (∀ b ∈ fp, FpOk X pins H' b) ∧ R J H'
def PI (X : Cx) (tg iter : Expr) (wi : TI) : Prop :=
  ∀ (pins : List (Addr × Obj)) (s : Shared) (σ : St) (H : Hp) (R : It → Hp → Prop), Inv X pins σ H s → wi σ H R →
    wpAny (model X.prog X.w) X.A (eval iter X.env) (fun v s1 => wpAny (model X.prog X.w) X.A (pyIter v) (PIE X pins σ tg R) X.xe s1) X.xe s

/-- the step ahead of the store is nothing for an iterator that keeps no tuple -/
theorem go_of {M : Model} {A : Around} {E : Value → Shared → Prop} {s : Shared} {tg : Expr} {it : Addr} {u : Value} {o : Obj} {n : String} {vs : Array Value} {Q : Unit → Shared → Prop} (ho : s.heap.get? it = some o) (hc : o.cls = .type n) (hd : o.data = .fields vs)
    (hn : ["enumerate", "zip", "dict_itemiterator", "dict_reverseitemiterator", "odict_iterator", "itertools.zip_longest", "itertools.pairwise"].contains n = false) (hQ : Q () s) : wpAny M A (letOwnedTupleGo tg (.ref it) u) Q E s := by
  unfold letOwnedTupleGo
  cases tg <;> first
    | exact wpAny_pure hQ
    | (cases u <;> first
        | exact wpAny_pure hQ
        | (refine wpAny_bind (wpAny_load ho ?_)
           rw [hc, hd]
           show wpAny M A (if (["enumerate", "zip", "dict_itemiterator", "dict_reverseitemiterator", "odict_iterator", "itertools.zip_longest", "itertools.pairwise"].contains n && vs[0]? == some (rawInt _)) = true then _ else _) Q E s
           rw [if_neg (by intro h; rw [hn, Bool.false_and] at h; cases h)]
           exact wpAny_pure hQ))

/-- the list at a, as it stands at each turn (a loop may append to it) -/
def Itl (K : PySem.W.Frag) (a : Addr) : It :=
  ⟨fun i H => ∃ xs x, SqL K H a xs ∧ xs[i]? = some x, fun i H x H' => H' = H ∧ ∀ xs, SqL K H a xs → xs[i]? = some x, fun i H => ∃ xs, SqL K H a xs ∧ xs.length ≤ i⟩
def Itt (K : PySem.W.Frag) (a : Addr) : It :=
  ⟨fun i H => ∃ xs x, SqT K H a xs ∧ xs[i]? = some x, fun i H x H' => H' = H ∧ ∀ xs, SqT K H a xs → xs[i]? = some x, fun i H => ∃ xs, SqT K H a xs ∧ xs.length ≤ i⟩
/-- lo, lo + 1, .. (n of them) -/
def Itr (lo : Int) (n : Nat) : It := ⟨fun i _ => i < n, fun i H x H' => H' = H ∧ x = .int (lo + i), fun i _ => n ≤ i⟩
theorem turn_list {P : Program} {w : World} {K : PySem.W.Frag} {tg : Expr} (a it : Addr) : Turn P w K tg (Itl K a) [it] it (fun i h => h.IsListIter it a i) where
  mem := by simp
  obj := fun i h st b hb => by
    have e : b = it := by simpa using hb
    subst e
    obtain ⟨o, e, c, d⟩ := st
    exact ⟨o, e, fun v z => by rw [d] at z; cases z⟩
  keep := fun i h h' st k => st.at fun o e => k it (by simp) o e
  item := by
    intro X hP hw hK hc i pins s σ H E I hf st hg
    subst hP hw hK
    obtain ⟨xs, x, hq, hx⟩ := hg
    obtain ⟨its, rv, p, hz⟩ := I.list hq
    obtain ⟨u, hu, ru⟩ := rv.get hx
    obtain ⟨f0, f1, f2, f3, f4, f5⟩ := hf it (by simp)
    refine wpAny_pyNext_list_item st p.isList (x := u) (by simpa using hu) fun h' st' sb => ?_
    have I1 : Inv X pins σ H { s with heap := h' } := I.turned (t' := s.toks) (fun b o hb e => (sb.2 b hb).trans e) f0 f1 f3 f4 f5
    obtain ⟨o, e, c, d⟩ := id st'
    exact ⟨u, rfl, go_of (s := { s with heap := h' }) e c d (by decide) ⟨x, H, I1, ru, ⟨rfl, fun ys hy => by rw [I.list_inj hy hq]; exact hx⟩, st', fun b hb => (hf b hb).1⟩⟩
  done := by
    intro X hP hw hK hc i pins s σ H E I hf st hg
    subst hP hw hK
    obtain ⟨xs, hq, hx⟩ := hg
    obtain ⟨its, rv, p, hz⟩ := I.list hq
    obtain ⟨f0, f1, f2, f3, f4, f5⟩ := hf it (by simp)
    have hl := rv.length
    exact wpAny_pyNext_list_end (I.ok.hd hc) st p.isList (by simp; omega) fun h' eb => ⟨rfl, I.turned (t' := s.toks) (fun b o hb e => eb b o hb e) f0 f1 f3 f4 f5⟩
  self := fun _ _ _ _ _ st h => wpAny_pyIter_listiter st h
theorem turn_range {P : Program} {w : World} {K : PySem.W.Frag} {tg : Expr} (it : Addr) (lo : Int) (n : Nat) : Turn P w K tg (Itr lo n) [it] it (fun i h => IsRangeIter h it (lo + (i : Nat) * 1) ((n : Int) - (i : Nat)) 1) where
  mem := by simp
  obj := fun i h st b hb => by
    have e : b = it := by simpa using hb
    subst e
    exact ⟨_, st, fun v z => by
      have z' : Data.fields _ = Data.cell v := z
      cases z'⟩
  keep := fun i h h' st k => k it (by simp) _ st
  item := by
    intro X hP hw hK hc i pins s σ H E I hf st hg
    subst hP hw hK
    obtain ⟨f0, f1, f2, f3, f4, f5⟩ := hf it (by simp)
    have W := Walks.range (prog := X.prog) (w := X.w) (I.ok.hd hc) it lo 1 n
    refine W.item i s _ _ hg st fun v h' tk hv st' kk => ?_
    obtain ⟨t, rfl⟩ := hv
    have I1 : Inv X pins σ H { s with heap := h', toks := tk } := I.turned (fun b o hb e => kk b o (by simpa using hb) e) f0 f1 f3 f4 f5
    refine ⟨_, rfl, go_of (s := { s with heap := h', toks := tk }) (n := "range_iterator") st' rfl rfl (by decide) ⟨.int (lo + i), H, I1, ⟨t, ?_⟩, ⟨rfl, rfl⟩, st', fun b hb => (hf b hb).1⟩⟩
    rw [Int.mul_one]
  done := by
    intro X hP hw hK hc i pins s σ H E I hf st hg
    subst hP hw hK
    obtain ⟨f0, f1, f2, f3, f4, f5⟩ := hf it (by simp)
    exact wpAny_pyNext_range_end (I.ok.hd hc) st (by have : n ≤ i := hg; omega) fun h' eb => ⟨rfl, I.turned (t' := s.toks) (fun b o hb e => eb b o hb e) f0 f1 f3 f4 f5⟩
  self := fun _ _ _ _ _ st h => wpAny_pyIter_rangeiter st h
end L2

namespace L2
open PySem PySem.Spec PyProof.Rows
section
variable {X : Cx} {tg : Expr}
def iList (K : PySem.W.Frag) (tl : TE) : TI := fun σ H R => tl σ H fun x H1 => ∃ a, x = .ref a ∧ (∃ xs, SqL K H1 a xs) ∧ R (Itl K a) H1
theorem pi_list {l : Expr} {tl : TE} (hl : PE X l tl) : PI X tg l (iList X.K tl) := by
  intro pins s σ H R I h
  refine thn (hl pins s σ H _ I h) fun v s1 ⟨x, H1, I1, r1, q1⟩ => ?_
  obtain ⟨a, e, ⟨xs, hq⟩, q⟩ := q1
  subst e
  cases r1
  obtain ⟨its, rv, p, hz⟩ := I1.list hq
  refine wpAny_pyIter_list p.isList ?_
  refine ⟨s1.heap.objs.size, [s1.heap.objs.size], _, _, H1, rfl, I1.kept (t' := s1.toks) fun b o e => Heap.get?_push_of_some _ e, turn_list a _, ⟨_, Heap.get?_push_size _ rfl, rfl, rfl⟩, fun b hb => ?_, q⟩
  have e : b = s1.heap.objs.size := by simpa using hb
  subst e
  exact I1.fpOk (Nat.le_refl _) (I1.hok.fresh (Nat.le_refl _))
/-- a range object just made, walked -/
theorem range_it {pins : List (Addr × Obj)} {σ : St} {H : Hp} {s : Shared} {R : It → Hp → Prop} {E : Value → Shared → Prop} {lo hi : Int} {t u v : Tok} {tk : Nat} (I : Inv X pins σ H s) (h1 : -(2 ^ 62) ≤ lo) (h2 : lo < 2 ^ 62) (h3 : -(2 ^ 62) ≤ hi) (h4 : hi < 2 ^ 62)
    (q : R (Itr lo (hi - lo).toNat) H) : wpAny (model X.prog X.w) X.A (pyIter (.ref s.heap.objs.size)) (PIE X pins σ tg R) E { s with heap := s.heap.push { cls := .type "range", data := .fields #[.int lo t, .int hi u, .int 1 v] }, toks := tk } := by
  refine wpAny_pyIter_range (IsRange.new ..) (small_one h1 h2 h3 h4) ?_
  have I1 : Inv X pins σ H { s with heap := s.heap.push { cls := .type "range", data := .fields #[.int lo t, .int hi u, .int 1 v] }, toks := tk } := I.kept fun b o e => Heap.get?_push_of_some _ e
  refine ⟨(s.heap.push { cls := .type "range", data := .fields #[.int lo t, .int hi u, .int 1 v] }).objs.size, [(s.heap.push { cls := .type "range", data := .fields #[.int lo t, .int hi u, .int 1 v] }).objs.size], _, _, H, rfl,
    I1.kept (t' := tk) fun b o e => Heap.get?_push_of_some _ e, turn_range _ lo (hi - lo).toNat, ?_, fun b hb => ?_, q⟩
  · have e1 : lo + ((0 : Nat) : Int) * 1 = lo := by simp
    have e2 : (((hi - lo).toNat : Nat) : Int) - ((0 : Nat) : Int) = Builtin.Range.rangeSize lo hi 1 := by rw [rangeSize_one]; split <;> omega
    show IsRangeIter _ _ (lo + ((0 : Nat) : Int) * 1) ((((hi - lo).toNat : Nat) : Int) - ((0 : Nat) : Int)) 1
    rw [e1, e2]
    exact Heap.get?_push_size _ rfl
  · have e : b = (s.heap.push { cls := .type "range", data := .fields #[.int lo t, .int hi u, .int 1 v] }).objs.size := by simpa using hb
    subst e
    exact I1.fpOk (Nat.le_refl _) (I1.hok.fresh (Nat.le_refl _))
def iRng1 (ta : TA) : TI := fun σ H R => ta σ H fun vs H1 => ∃ j : Int, vs = [.int j] ∧ -(2 ^ 62) ≤ j ∧ j < 2 ^ 62 ∧ R (Itr 0 j.toNat) H1
theorem pi_range1 {a : Expr} {ta : TA} {p pos : Pos} (hg : Gl X "range") (hm : X.mg "range" = none) (ha : PA X [a] ta) (hs : starEach [a] X.env = [(false, eval a X.env)] := by rfl) : PI X tg (.Call (.Name "range" p) [a] [] pos) (iRng1 ta) := by
  intro pins s σ H R I h
  refine Call_ (ld_blt I hg hm boot_range (PyProof.Rows.callWith_type1 (thn (ha pos pins s σ H _ I h) fun us s1 ⟨vs, H1, I1, r1, q1⟩ => ?_) hs rfl))
  obtain ⟨j, e, q1, q2, q⟩ := q1
  subst e
  cases r1 with
  | cons r rr =>
    cases rr
    obtain ⟨t, rfl⟩ := r
    exact call_range_1 (range_it I1 (by omega) (by omega) q1 q2 (by simpa using q))

/-! ### for -/
/-- W: the invariant by the turn and a measure; N: what the body is to reach -/
def tFor (wi : TI) (g : TG) (tb : TS) : TS := fun D σ H => wi σ H fun J H1 => ∃ W : Nat → Nat → St → Hp → Prop, (∃ m, W 0 m σ H1) ∧ ∀ i m σ H, W i m σ H →
  (J.stop i H ∧ D.nx σ H) ∨ (J.go i H ∧ ∃ N : St → Hp → Prop, (∀ σ' H', N σ' H' → ∃ m', m' < m ∧ W (i + 1) m' σ' H') ∧ ∀ x H', J.yld i H x H' → g x σ H' fun σ2 H2 => tb { D with nx := N, ct := N, bk := D.nx } σ2 H2)
/-- the records at fp as they stand -/
def pinsAt (fp : List Addr) (h : Heap) : List (Addr × Obj) := fp.filterMap fun b => (h.get? b).map fun o => (b, o)
theorem mem_pinsAt {fp : List Addr} {h : Heap} {b : Addr} {o : Obj} (hb : b ∈ fp) (e : h.get? b = some o) : (b, o) ∈ pinsAt fp h := List.mem_filterMap.mpr ⟨b, hb, by rw [e]; rfl⟩
theorem of_pinsAt {fp : List Addr} {h : Heap} {p : Addr × Obj} (hp : p ∈ pinsAt fp h) : p.1 ∈ fp ∧ h.get? p.1 = some p.2 := by
  obtain ⟨b, hb, e⟩ := List.mem_filterMap.mp hp
  cases q : h.get? b with
  | none => rw [q] at e; cases e
  | some o =>
    rw [q] at e
    have e' : (b, o) = p := Option.some.inj e
    subst e'
    exact ⟨hb, q⟩
theorem Inv.pinned {pins : List (Addr × Obj)} {σ : St} {H : Hp} {s : Shared} {fp : List Addr} (I : Inv X pins σ H s) (hf : ∀ b ∈ fp, FpOk X pins H b) (ho : ∀ b ∈ fp, ∃ o, s.heap.get? b = some o ∧ ∀ v, o.data ≠ .cell v) : Inv X (pins ++ pinsAt fp s.heap) σ H s :=
  I.pins_of fun p hp => (List.mem_append.mp hp).elim (fun z => I.pin p (List.mem_append_right _ z)) fun z => by
    obtain ⟨hb, e⟩ := of_pinsAt z
    obtain ⟨f0, f1, f2, _⟩ := hf p.1 hb
    obtain ⟨o, e', d⟩ := ho p.1 hb
    rw [e] at e'; cases e'
    exact ⟨e, f0, f1, f2, d⟩
theorem Inv.unpinned {pins pl : List (Addr × Obj)} {σ : St} {H : Hp} {s : Shared} (I : Inv X (pins ++ pl) σ H s) : Inv X pins σ H s := I.pins_of fun p hp => I.pin p (List.mem_append_right _ (List.mem_append_left _ hp))
theorem ps_for {iter : Expr} {body : List Stmt} {wi : TI} {g : TG} {tb : TS} {pos : Pos} (hp : PassesOwn (model X.prog X.w) X.A X.env X.xe) (hc : X.calm = true) (hi : PI X tg iter wi) (hg : PG X tg g) (hb : PSs X body tb)
    (hs : ∀ x, foldedSetIterable iter X.env x = pure x := by intro _; rfl) : PS X (.For tg iter body [] pos) (tFor wi g tb) := by
  intro pins s σ H D I h
  refine wpAny_For (thn (hi pins s σ H _ I h) fun v s1 h1 => thn h1 fun itv s2 h2 => ?_) hs
  obtain ⟨it, fp, tn, J, H2, e, I2, T, st2, f2, W, ⟨m0, w0⟩, turn⟩ := h2
  subst e
  -- what stays true of the iterator's objects through the loop
  have stat : ∀ {H' : Hp}, (∀ b ∈ fp, H' b = none) → ∀ b ∈ fp, FpOk X pins H' b := fun hn b hb => ⟨hn b hb, (f2 b hb).2⟩
  refine codeAny_forLoop_any (fun n s' => ∃ i σ' H', Inv X pins σ' H' s' ∧ tn i s'.heap ∧ (∀ b ∈ fp, H' b = none) ∧ W i n σ' H') ?_ m0 ⟨0, σ, H2, I2, st2, fun b hb => (f2 b hb).1, w0⟩
  rintro n s3 ⟨i, σ3, H3, I3, st3, fr3, w3⟩
  rcases turn i n σ3 H3 w3 with ⟨stop, qn⟩ | ⟨go, N, hN, step⟩
  · refine wpAny_passesOwn hp (thn (T.done X rfl rfl rfl hc i pins s3 σ3 H3 X.xe I3 (stat fr3) st3 stop) fun r s4 ⟨hr, I4⟩ => ?_)
    subst hr
    exact wpAny_execs_nil ⟨σ3, H3, I4, qn⟩
  · refine wpAny_passesOwn hp (thn (T.item X rfl rfl rfl hc i pins s3 σ3 H3 X.xe I3 (stat fr3) st3 go) fun r s4 ⟨u, hr, h4⟩ => ?_)
    subst hr
    refine wpAny_passesOwn hp (thn h4 fun _ s5 ⟨x, H5, I5, r5, y5, st5, fr5⟩ => ?_)
    have I5' := I5.pinned (stat fr5) (T.obj _ _ st5)
    refine wpAny_passesOwn hp (thn (hg _ s5 σ3 H5 x u _ I5' r5 (step x H5 y5)) fun _ s6 ⟨σ6, H6, I6, q6⟩ => ?_)
    refine wpAny_passesOwn hp (thn (hb _ s6 σ6 H6 _ I6 q6) fun f s7 q7 => ?_)
    have again : ∀ {σ7 : St} {H7 : Hp}, Inv X (pins ++ pinsAt fp s5.heap) σ7 H7 s7 → N σ7 H7 → ∃ m, m < n ∧ ∃ i σ' H', Inv X pins σ' H' s7 ∧ tn i s7.heap ∧ (∀ b ∈ fp, H' b = none) ∧ W i m σ' H' := fun {σ7 H7} I7 n7 => by
      obtain ⟨m', hm, w7⟩ := hN σ7 H7 n7
      refine ⟨m', hm, i + 1, σ7, H7, I7.unpinned, T.keep _ _ _ st5 fun b hb o e => (I7.pin (b, o) (List.mem_append_right _ (List.mem_append_right _ (mem_pinsAt hb e)))).1, fun b hb => ?_, w7⟩
      obtain ⟨o, e, d⟩ := T.obj _ _ st5 b hb
      exact (I7.pin (b, o) (List.mem_append_right _ (List.mem_append_right _ (mem_pinsAt hb e)))).2.1
    cases f with
    | next => obtain ⟨σ7, H7, I7, n7⟩ := q7; exact again I7 n7
    | cont => obtain ⟨σ7, H7, I7, n7⟩ := q7; exact again I7 n7
    | brk => obtain ⟨σ7, H7, I7, q7⟩ := q7; exact ⟨σ7, H7, I7.unpinned, q7⟩
    | ret v => obtain ⟨x7, σ7, H7, I7, r7, q7⟩ := q7; exact ⟨x7, σ7, H7, I7.unpinned, r7, q7⟩
end

/-! ### the forms one uses -/
end L2

namespace L2
open PySem PySem.Spec PyProof.Rows

abbrev R2 := V → V → Hp → VK → Prop
/-- a two-place operation on values: f is binaryOp op, inplaceOp op or compareOp op -/
def OpR (X : Cx) (f : Value → Value → Sem Value) (r : R2) : Prop :=
  ∀ (pins : List (Addr × Obj)) (s : Shared) (σ : St) (H : Hp) (x y : V) (v u : Value) (Q : VK), Inv X pins σ H s → RelV x v → RelV y u → r x y H Q →
    wpAny (model X.prog X.w) X.A (f v u) (EP X pins σ Q) X.xe s
/-- a one-place operation -/
def UnR (X : Cx) (f : Value → Sem Value) (r : V → Hp → VK → Prop) : Prop :=
  ∀ (pins : List (Addr × Obj)) (s : Shared) (σ : St) (H : Hp) (x : V) (v : Value) (Q : VK), Inv X pins σ H s → RelV x v → r x H Q →
    wpAny (model X.prog X.w) X.A (f v) (EP X pins σ Q) X.xe s
/-- a call of a value that is known (a builtin, a type) with values -/
def CallR (X : Cx) (f : Value) (r : List V → Hp → VK → Prop) : Prop :=
  ∀ (pins : List (Addr × Obj)) (s : Shared) (σ : St) (H : Hp) (xs : List V) (us : List Value) (Q : VK), Inv X pins σ H s → Vals xs us → r xs H Q →
    wpAny (model X.prog X.w) X.A (call f us) (EP X pins σ Q) X.xe s

def tOp (r : R2) (ta tb : TE) : TE := fun σ H Q => ta σ H fun x H1 => tb σ H1 fun y H2 => r x y H2 Q
def tUn (r : V → Hp → VK → Prop) (ta : TE) : TE := fun σ H Q => ta σ H fun x H1 => r x H1 Q
/-- ints in, under C, and a value out -/
def rI (C : Int → Int → Prop) (g : Int → Int → V) : R2 := fun x y H Q => ∃ i j, x = .int i ∧ y = .int j ∧ C i j ∧ Q (g i j) H
def rI0 (g : Int → Int → V) : R2 := fun x y H Q => ∃ i j, x = .int i ∧ y = .int j ∧ Q (g i j) H
def rU (g : Int → V) : V → Hp → VK → Prop := fun x H Q => ∃ i, x = .int i ∧ Q (g i) H

section
variable {X : Cx} {a b c : Expr} {ta tb tc : TE} {pos : Pos}

theorem binT (ha : PE X a ta) (hb : PE X b tb) {pins : List (Addr × Obj)} {s : Shared} {σ : St} {H : Hp} {R : V → V → Hp → Prop} (I : Inv X pins σ H s)
    (h : ta σ H fun x H1 => tb σ H1 fun y H2 => R x y H2) {Q : Value → Shared → Prop} {f : Value → Value → Sem Value}
    (hf : ∀ v u s2 x y H2, Inv X pins σ H2 s2 → RelV x v → RelV y u → R x y H2 → wpAny (model X.prog X.w) X.A (f v u) Q X.xe s2) :
    wpAny (model X.prog X.w) X.A (eval a X.env) (fun v s₁ => wpAny (model X.prog X.w) X.A (eval b X.env) (fun u s₂ => wpAny (model X.prog X.w) X.A (f v u) Q X.xe s₂) X.xe s₁) X.xe s := by
  refine thn (ha pins s σ H _ I h) fun v s1 ⟨x, H1, I1, r1, q1⟩ => ?_
  refine thn (hb pins s1 σ H1 _ I1 q1) fun u s2 ⟨y, H2, I2, r2, q2⟩ => ?_
  exact hf v u s2 x y H2 I2 r1 r2 q2

theorem pe_op {op : Operator} {r : R2} (ho : OpR X (binaryOp op) r) (ha : PE X a ta) (hb : PE X b tb) : PE X (.BinOp a op b pos) (tOp r ta tb) := by
  intro pins s σ H Q I h
  exact wpAny_BinOp (binT ha hb I h fun v u s2 x y H2 I2 rx ry q => ho pins s2 σ H2 x y v u Q I2 rx ry q)
theorem pe_un {op : UnaryOp} {r : V → Hp → VK → Prop} (ho : UnR X (unaryOp op) r) (ha : PE X a ta) : PE X (.UnaryOp op a pos) (tUn r ta) := by
  intro pins s σ H Q I h
  exact UnaryOp_ (thn (ha pins s σ H _ I h) fun v s1 ⟨x, H1, I1, r1, q1⟩ => ho pins s1 σ H1 x v Q I1 r1 q1)

/-! ### ints -/
theorem opI {f : Value → Value → Sem Value} {C : Int → Int → Prop} {g : Int → Int → Int}
    (rule : ∀ (i j : Int) (t u : Tok) (s : Shared) (Q : Value → Shared → Prop) (E : Value → Shared → Prop), C i j → Q (.int (g i j) s.toks) { s with toks := s.toks + 1 } → wpAny (model X.prog X.w) X.A (f (.int i t) (.int j u)) Q E s) :
    OpR X f (rI C fun i j => .int (g i j)) := by
  intro pins s σ H x y v u Q I rx ry h
  obtain ⟨i, j, rfl, rfl, hc, q⟩ := h
  obtain ⟨t, rfl⟩ := rx
  obtain ⟨t', rfl⟩ := ry
  exact rule i j t t' s _ _ hc ⟨.int (g i j), H, I.tok _, ⟨_, rfl⟩, q⟩
theorem opI0 {f : Value → Value → Sem Value} {g : Int → Int → Int}
    (rule : ∀ (i j : Int) (t u : Tok) (s : Shared) (Q : Value → Shared → Prop) (E : Value → Shared → Prop), Q (.int (g i j) s.toks) { s with toks := s.toks + 1 } → wpAny (model X.prog X.w) X.A (f (.int i t) (.int j u)) Q E s) :
    OpR X f (rI0 fun i j => .int (g i j)) := by
  intro pins s σ H x y v u Q I rx ry h
  obtain ⟨i, j, rfl, rfl, q⟩ := h
  obtain ⟨t, rfl⟩ := rx
  obtain ⟨t', rfl⟩ := ry
  exact rule i j t t' s _ _ ⟨.int (g i j), H, I.tok _, ⟨_, rfl⟩, q⟩
theorem opB0 {f : Value → Value → Sem Value} {g : Int → Int → Bool}
    (rule : ∀ (i j : Int) (t u : Tok) (s : Shared) (Q : Value → Shared → Prop) (E : Value → Shared → Prop), Q (.bool (g i j)) s → wpAny (model X.prog X.w) X.A (f (.int i t) (.int j u)) Q E s) :
    OpR X f (rI0 fun i j => .bl (g i j)) := by
  intro pins s σ H x y v u Q I rx ry h
  obtain ⟨i, j, rfl, rfl, q⟩ := h
  obtain ⟨t, rfl⟩ := rx
  obtain ⟨t', rfl⟩ := ry
  exact rule i j t t' s _ _ ⟨.bl (g i j), H, I, rfl, q⟩

def CMul (i j : Int) : Prop := (-(2 ^ 64) < i ∧ i < 2 ^ 64) ∨ (-(2 ^ 64) < j ∧ j < 2 ^ 64)
theorem CMul.ok {i j : Int} (h : CMul i j) : IntMulOk i j := by
  rcases h with ⟨h1, h2⟩ | ⟨h1, h2⟩
  · exact .of_left (intBits_le_64 h1 h2)
  · exact .of_right (intBits_le_64 h1 h2)

theorem op_add : OpR X (binaryOp .Add) (rI0 fun i j => .int (i + j)) := opI0 fun _ _ _ _ _ _ _ q => add_int q
theorem op_sub : OpR X (binaryOp .Sub) (rI0 fun i j => .int (i - j)) := opI0 fun _ _ _ _ _ _ _ q => sub_int q
theorem op_mul : OpR X (binaryOp .Mult) (rI CMul fun i j => .int (i * j)) := opI fun _ _ _ _ _ _ _ hc q => mul_int q hc.ok
/-- % by a positive divisor of any size -/
theorem op_mod : OpR X (binaryOp .Mod) (rI (fun _ j => 0 < j) fun i j => .int (i % j)) := opI fun i j _ _ _ _ _ hc q => by
  have h1 : (0 : Int) < j := hc
  exact mod_int' (by omega) (by rw [Int.fmod_eq_emod_of_nonneg i (by omega)]; exact q)


theorem unI {f : Value → Sem Value} {g : Int → Int}
    (rule : ∀ (i : Int) (t : Tok) (s : Shared) (Q : Value → Shared → Prop) (E : Value → Shared → Prop), Q (.int (g i) s.toks) { s with toks := s.toks + 1 } → wpAny (model X.prog X.w) X.A (f (.int i t)) Q E s) :
    UnR X f (rU fun i => .int (g i)) := by
  intro pins s σ H x v Q I rx h
  obtain ⟨i, rfl, q⟩ := h
  obtain ⟨t, rfl⟩ := rx
  exact rule i t s _ _ ⟨.int (g i), H, I.tok _, ⟨_, rfl⟩, q⟩
theorem un_neg : UnR X (unaryOp .USub) (rU fun i => .int (-i)) := unI fun _ _ _ _ _ q => neg_int q

/-! ### bools among ints: n += (a < b) -/
end

/-! ### comparisons -/
/-- the scalars that == tells apart as data does -/
def scal : V → V → Bool
  | .non, .non => true | .non, .int _ => true | .int _, .non => true | .non, .bl _ => true | .bl _, .non => true | .non, .str _ => true | .str _, .non => true
  | .int _, .int _ => true | .bl _, .bl _ => true | .str _, .str _ => true | .byt _, .byt _ => true
  | .int _, .str _ => true | .str _, .int _ => true | .bl _, .str _ => true | .str _, .bl _ => true
  | _, _ => false
def rEq : R2 := fun x y H Q => scal x y = true ∧ Q (.bl (decide (x = y))) H
def rNe : R2 := fun x y H Q => scal x y = true ∧ Q (.bl (!decide (x = y))) H

theorem dec_int {i j : Int} : decide (V.int i = V.int j) = (i == j) := by
  rw [Bool.eq_iff_iff]
  simp
theorem dec_bl {i j : Bool} : decide (V.bl i = V.bl j) = (i == j) := by
  rw [Bool.eq_iff_iff]
  simp
theorem dec_str {i j : Str} : decide (V.str i = V.str j) = (i == j) := by
  rw [Bool.eq_iff_iff]
  simp
theorem dec_byt {i j : Array UInt8} : decide (V.byt i = V.byt j) = (i.toList == j.toList) := by
  rw [Bool.eq_iff_iff]
  cases i
  cases j
  simp

section
variable {X : Cx} {a b c : Expr} {ta tb tc : TE} {pos : Pos}
theorem fin_bl {pins : List (Addr × Obj)} {σ : St} {H : Hp} {s : Shared} {Q : VK} {k k' : Bool} (I : Inv X pins σ H s) (q : Q (.bl k) H) (e : k = k') : EP X pins σ Q (.bool k') s := by
  subst e
  exact ⟨.bl k, H, I, rfl, q⟩
theorem op_eq : OpR X (compareOp .Eq) rEq := by
  intro pins s σ H x y v u Q I rx ry h
  obtain ⟨hs, q⟩ := h
  cases x with
  | non =>
    cases rx
    cases y with
    | non => cases ry; exact PySem.EqNone.eq_none_none (fin_bl I q (by simp))
    | bl j => cases ry; exact PySem.EqNone.eq_none_bool (fin_bl I q (by simp))
    | int j => obtain ⟨t', rfl⟩ := ry; exact PySem.EqNone.eq_none_int (fin_bl I q (by simp))
    | str j => obtain ⟨t', rfl⟩ := ry; exact PySem.EqNone.eq_none_str (fin_bl I q (by simp))
    | _ => exact absurd (show false = true from hs) Bool.false_ne_true
  | bl i =>
    cases rx
    cases y with
    | non => cases ry; exact PySem.EqNone.eq_bool_none (fin_bl I q (by simp))
    | bl j => cases ry; exact eq_bool (fin_bl I q dec_bl)
    | str j => obtain ⟨t', rfl⟩ := ry; exact PySem.EqMixed.eq_bool_str (fin_bl I q (by simp))
    | _ => exact absurd (show false = true from hs) Bool.false_ne_true
  | int i =>
    obtain ⟨t, rfl⟩ := rx
    cases y with
    | non => cases ry; exact PySem.EqNone.eq_int_none (fin_bl I q (by simp))
    | int j => obtain ⟨t', rfl⟩ := ry; exact eq_int (fin_bl I q dec_int)
    | str j => obtain ⟨t', rfl⟩ := ry; exact PySem.EqMixed.eq_int_str (fin_bl I q (by simp))
    | _ => exact absurd (show false = true from hs) Bool.false_ne_true
  | str i =>
    obtain ⟨t, rfl⟩ := rx
    cases y with
    | non => cases ry; exact PySem.EqNone.eq_str_none (fin_bl I q (by simp))
    | bl j => cases ry; exact PySem.EqMixed.eq_str_bool (fin_bl I q (by simp))
    | int j => obtain ⟨t', rfl⟩ := ry; exact PySem.EqMixed.eq_str_int (fin_bl I q (by simp))
    | str j => obtain ⟨t', rfl⟩ := ry; exact eq_str (fin_bl I q dec_str)
    | _ => exact absurd (show false = true from hs) Bool.false_ne_true
  | byt i =>
    obtain ⟨t, rfl⟩ := rx
    cases y with
    | byt j => obtain ⟨t', rfl⟩ := ry; exact PySem.W.eq_bytes (fin_bl I q dec_byt)
    | _ => exact absurd (show false = true from hs) Bool.false_ne_true
  | _ => cases y <;> exact absurd (show false = true from hs) Bool.false_ne_true
theorem op_ne : OpR X (compareOp .NotEq) rNe := by
  intro pins s σ H x y v u Q I rx ry h
  obtain ⟨hs, q⟩ := h
  cases x with
  | non =>
    cases rx
    cases y with
    | non => cases ry; exact PySem.EqNone.ne_none_none (fin_bl I q (by simp))
    | bl j => cases ry; exact PySem.EqNone.ne_none_bool (fin_bl I q (by simp))
    | int j => obtain ⟨t', rfl⟩ := ry; exact PySem.EqNone.ne_none_int (fin_bl I q (by simp))
    | str j => obtain ⟨t', rfl⟩ := ry; exact PySem.EqNone.ne_none_str (fin_bl I q (by simp))
    | _ => exact absurd (show false = true from hs) Bool.false_ne_true
  | bl i =>
    cases rx
    cases y with
    | non => cases ry; exact PySem.EqNone.ne_bool_none (fin_bl I q (by simp))
    | bl j => cases ry; exact ne_bool (fin_bl I q (congrArg not dec_bl))
    | str j => obtain ⟨t', rfl⟩ := ry; exact PySem.EqMixed.ne_bool_str (fin_bl I q (by simp))
    | _ => exact absurd (show false = true from hs) Bool.false_ne_true
  | int i =>
    obtain ⟨t, rfl⟩ := rx
    cases y with
    | non => cases ry; exact PySem.EqNone.ne_int_none (fin_bl I q (by simp))
    | int j => obtain ⟨t', rfl⟩ := ry; exact ne_int (fin_bl I q (congrArg not dec_int))
    | str j => obtain ⟨t', rfl⟩ := ry; exact PySem.EqMixed.ne_int_str (fin_bl I q (by simp))
    | _ => exact absurd (show false = true from hs) Bool.false_ne_true
  | str i =>
    obtain ⟨t, rfl⟩ := rx
    cases y with
    | non => cases ry; exact PySem.EqNone.ne_str_none (fin_bl I q (by simp))
    | bl j => cases ry; exact PySem.EqMixed.ne_str_bool (fin_bl I q (by simp))
    | int j => obtain ⟨t', rfl⟩ := ry; exact PySem.EqMixed.ne_str_int (fin_bl I q (by simp))
    | str j => obtain ⟨t', rfl⟩ := ry; exact ne_str (fin_bl I q (congrArg not dec_str))
    | _ => exact absurd (show false = true from hs) Bool.false_ne_true
  | byt i =>
    obtain ⟨t, rfl⟩ := rx
    cases y with
    | byt j => obtain ⟨t', rfl⟩ := ry; exact PySem.W.ne_bytes (fin_bl I q (congrArg not dec_byt))
    | _ => exact absurd (show false = true from hs) Bool.false_ne_true
  | _ => cases y <;> exact absurd (show false = true from hs) Bool.false_ne_true

theorem op_lt : OpR X (compareOp .Lt) (rI0 fun i j => .bl (decide (i < j))) := opB0 fun _ _ _ _ _ _ _ q => lt_int q
theorem op_le : OpR X (compareOp .LtE) (rI0 fun i j => .bl (decide (i ≤ j))) := opB0 fun _ _ _ _ _ _ _ q => le_int q
theorem op_ge : OpR X (compareOp .GtE) (rI0 fun i j => .bl (decide (j ≤ i))) := opB0 fun _ _ _ _ _ _ _ q => ge_int q



/-- two rules for one operation: by cases -/
theorem OpR.or {f : Value → Value → Sem Value} {r r' : R2} (h : OpR X f r) (h' : OpR X f r') : OpR X f (fun x y H Q => r x y H Q ∨ r' x y H Q) := by
  intro pins s σ H x y v u Q I rx ry q
  rcases q with q | q
  · exact h pins s σ H x y v u Q I rx ry q
  · exact h' pins s σ H x y v u Q I rx ry q

theorem nomark (b : Expr) {op : CmpOp} (h : op ≠ .In := by decide) (h2 : op ≠ .NotIn := by decide) : behindInMarks op b = false := by
  have e1 : (op == CmpOp.In) = false := by cases op <;> first | rfl | exact absurd rfl h
  have e2 : (op == CmpOp.NotIn) = false := by cases op <;> first | rfl | exact absurd rfl h2
  cases b <;> simp [behindInMarks, e1, e2]
/-- a comparison as a value; hm: nomark b, or (for in, not in) by with_unfolding_all rfl -/
theorem pe_cmpR {op : CmpOp} {r : R2} (ho : OpR X (compareOp op) r) (ha : PE X a ta) (hb : PE X b tb) (hm : behindInMarks op b = false) : PE X (.Compare a [op] [b] pos) (tOp r ta tb) := by
  intro pins s σ H Q I h
  exact wpAny_Compare1 (binT ha hb I h fun v u s2 x y H2 I2 rx ry q => ho pins s2 σ H2 x y v u Q I2 rx ry q) hm
/-- a reading of a value as a test -/
def tTest (t : TE) : TT := fun σ H Q => t σ H fun x H' => ∃ k, x = .bl k ∧ Q k H'
theorem pt_cmpR {op : CmpOp} {r : R2} (ho : OpR X (compareOp op) r) (ha : PE X a ta) (hb : PE X b tb) (hm : behindInMarks op b = false) : PT X (.Compare a [op] [b] pos) (tTest (tOp r ta tb)) := by
  intro pins s σ H Q I h
  refine wpAny_isTrue_Compare1 (thn (ha pins s σ H _ I h) fun v s1 ⟨x, H1, I1, r1, q1⟩ => thn (hb pins s1 σ H1 _ I1 q1) fun u s2 ⟨y, H2, I2, r2, q2⟩ =>
    thn (ho pins s2 σ H2 x y v u _ I2 r1 r2 q2) fun c s3 ⟨z, H3, I3, r3, k, e, q3⟩ => ?_) hm
  subst e
  cases r3
  exact wpAny_truthy_bool ⟨H3, I3, q3⟩
/-- a op1 b op2 c -/
def tChain (r r' : R2) (ta tb tc : TE) : TE := fun σ H Q => ta σ H fun x H1 => tb σ H1 fun y H2 => r x y H2 fun z H3 => ∃ k, z = .bl k ∧
  (if k = true then tc σ H3 fun w' H4 => r' y w' H4 Q else Q (.bl false) H3)

/-! ### truth -/
theorem line63 : (sizeLine : Nat) < 2 ^ 63 := by rw [sizeLine_eq]; decide

/-! ### strs and bytes -/
theorem op_add_str : OpR X (binaryOp .Add) (fun x y H Q => ∃ i j, x = .str i ∧ y = .str j ∧ i.length + j.length ≤ sizeLine ∧ Q (.str (i ++ j)) H) := by
  intro pins s σ H x y v u Q I rx ry h
  obtain ⟨i, j, rfl, rfl, hz, q⟩ := h
  obtain ⟨t, rfl⟩ := rx
  obtain ⟨t', rfl⟩ := ry
  exact add_str (fun t' tk => ⟨.str (i ++ j), H, I.tok _, ⟨_, rfl⟩, q⟩) hz


/-! ### scalar builtins, by CallR -/
theorem vals1 {x : V} {us : List Value} (r : Vals [x] us) : ∃ u, us = [u] ∧ RelV x u := by
  cases r with
  | cons r1 r2 => cases r2; exact ⟨_, rfl, r1⟩
theorem vals2 {x y : V} {us : List Value} (r : Vals [x, y] us) : ∃ u w', us = [u, w'] ∧ RelV x u ∧ RelV y w' := by
  cases r with
  | cons r1 r2 =>
    cases r2 with
    | cons r3 r4 => cases r4; exact ⟨_, _, rfl, r1, r3⟩
theorem call_int1 : CallR X (.type "int") (fun xs H Q => (∃ i, xs = [.int i] ∧ Q (.int i) H) ∨ ∃ k, xs = [.bl k] ∧ Q (.int (if k then 1 else 0)) H) := by
  intro pins s σ H xs us Q I r h
  rcases h with ⟨i, rfl, q⟩ | ⟨k, rfl, q⟩
  · obtain ⟨u, rfl, t, rfl⟩ := vals1 r
    exact call_int_int ⟨.int i, H, I, ⟨_, rfl⟩, q⟩
  · obtain ⟨u, rfl, r1⟩ := vals1 r
    cases r1
    exact call_int_bool ⟨.int (if k then 1 else 0), H, I.tok _, ⟨_, rfl⟩, q⟩
end
end L2

namespace L2
open PySem PySem.Spec PyProof.Rows

/-! ### an instance, its attributes a map -/
structure ObjM (h : Heap) (x dx C : Addr) (mA : Str → Option Value) : Prop where
  obj : h.get? x = some (PySem.W.instObj C dx)
  ns : h.Ns1 dx mA
  ne : dx ≠ x

theorem lookIn_ns {h : Heap} {dx : Addr} {mA : Str → Option Value} (n : h.Ns1 dx mA) : ∃ od, h.get? dx = some od ∧ ∀ name, PySem.W.lookIn name od = some (mA name) := by
  obtain ⟨o, es, ep, ho, hd, hk, _, hm⟩ := n
  refine ⟨o, ho, fun name => ?_⟩
  have e := hm name
  unfold nsFind findBy at e
  rw [← Array.find?_toList] at e
  unfold PySem.W.lookIn
  rw [hd]
  dsimp only
  split
  · rename_i y q
    rw [q] at e
    exact congrArg some e
  · rename_i q
    rw [q] at e
    have a : es.toList.any (·.refKey) = false := by
      rw [List.any_eq_false]
      intro y hy
      obtain ⟨z, t, hkey⟩ := hk y (Array.mem_toList_iff.mp hy)
      simp [DictEntry.refKey, hkey]
    have a' : ¬ es.toList.any (·.refKey) = true := by rw [a]; exact Bool.false_ne_true
    rw [if_neg a']
    exact congrArg some e

theorem ObjM.look {h : Heap} {x dx C : Addr} {mA : Str → Option Value} (I : ObjM h x dx C mA) : ∃ od, PySem.W.InstAt h x (PySem.W.instObj C dx) C (some od) ∧ ∀ name, PySem.W.lookIn name od = some (mA name) :=
  let ⟨od, ho, hl⟩ := lookIn_ns I.ns
  ⟨od, ⟨I.obj, rfl, rfl, ho⟩, hl⟩

section
variable {prog : Program} {w : World} {A : Around} {E : Value → Shared → Prop} {s : Shared} {K : PySem.W.Frag} {x dx C f : Addr} {mA : Str → Option Value} {name : Str} {v : Value}

theorem get_map {expr : Bool} {Q : Value → Shared → Prop} (X : K.In s.heap) (I : ObjM s.heap x dx C mA) (hg : PySem.W.plainGet K C name = true) (hh : PySem.W.hasDictIn K C = true)
    (ha : PySem.W.findIn K (.ref C) name = some none) (hv : mA name = some v) (hv' : PySem.W.handedIn v = true) (h : Q v { s with toks := s.toks + 1 }) :
    wpAny (model prog w) A (getAttr (.ref x) name expr) Q E s := by
  obtain ⟨od, J, hl⟩ := I.look
  exact PySem.W.get_value X J (PySem.W.plainGet_of hg).1 (PySem.W.findObj_own hh ha rfl (by rw [hl, hv])) hv' h


theorem get_meth {pl : Sem Bool} {Q : Value × List Value → Shared → Prop} (X : K.In s.heap) (I : ObjM s.heap x dx C mA) (hg : PySem.W.plainGet K C name = true)
    (hf : PySem.W.findIn K (.ref C) name = some (some (.ref f))) (ht : PySem.W.isFn K (.ref f) = true) (hv : mA name = none) (h : Q (.ref f, [.ref x]) s) :
    wpAny (model prog w) A (getMethod (.ref x) name pl) Q E s := by
  obtain ⟨od, J, hl⟩ := I.look
  exact PySem.W.method_fn X J (PySem.W.plainGet_of hg).1 (PySem.W.plainGet_of hg).2 hf (beq_iff_eq.mp ht) (by show (PySem.W.lookIn name od).map (·.isSome) = some false; rw [hl, hv]; rfl) h

theorem set_map {ns : List Str} {Q : Unit → Shared → Prop} (X : K.In s.heap) (I : ObjM s.heap x dx C mA)
    (hs : PySem.W.findIn K (.ref C) "__setattr__" = some (some (.builtin "object.__setattr__"))) (hp : PySem.W.plainOver K C = true) (ht : PySem.W.takerIn K C name = some none) (hh : PySem.W.hasDictIn K C = true)
    (hw : PySem.Within mA ns) (hsz : ns.length ≤ sizeLine)
    (h : ∀ h', ObjM h' x dx C (fun y => if y = name then some v else mA y) → Heap.SameBut dx s.heap h' → Q () { s with heap := h', toks := s.toks + 2 }) :
    wpAny (model prog w) A (setAttr (.ref x) name v) Q E s := by
  obtain ⟨od, J, hl⟩ := I.look
  refine PySem.W.set_plain X J hs (PySem.W.osa_open (s := { s with toks := s.toks + 1 }) (r := none) X J hp ht fun b => ?_)
  obtain ⟨cd, hc, hd'⟩ := PySem.W.any_some hh
  have hx : s.heap.get? x = some ⟨.ref C, some dx, .plain, #[]⟩ := I.obj
  refine wpAny_bind (wpAny_pure (wpAny_bind (wpAny_bind (wpAny_loadPart hx (wpAny_bind (PySem.W.Looks.here (s := { s with toks := s.toks + 1 }) (PySem.W.looks_clsIn X hc) ?_))))))
  rw [hd']
  refine wpAny_pure (a := some dx) (wpAny_bind (wpAny_pure (wpAny_bind ?_)))
  refine wpAny_nsSet1 (s := { s with toks := s.toks + 1 }) I.ns fun h' hn2 hs2 => ?_
  obtain ⟨oD, esD, epD, hoD, hdD, hcD⟩ := hn2.count (PySem.Within.cons name v hw)
  refine wpAny_bind (wpAny_lookBehind hoD (by rw [hdD]; exact pastItsLine_dict (Nat.le_trans hcD (by rw [List.length_cons]; omega))) ?_)
  exact wpAny_pure (h _ ⟨(hs2.2 _ (Ne.symm I.ne)).trans I.obj, hn2, I.ne⟩ hs2)

/-- C(..): the dict at the heap's end, the instance behind it; then its __init__ -/
theorem make_map {R : Result → Shared → Prop} {vs : List Value} {kw : List (Str × Value)} (X : K.In s.heap) (hm : PySem.W.makesIn K C = true)
    (hi : PySem.W.findIn K (.ref C) "__init__" = some (some (.ref f))) (hf : PySem.W.typeIn K (.ref f) = some (.type "function"))
    (h : codeAny (model prog w) (A.under (.builtin "type.__call__" ⟨.ref C :: vs, kw⟩)) (.call (.ref f) ⟨.ref (s.heap.objs.size + 1) :: vs, kw⟩) (PySem.W.InitBack (s.heap.objs.size + 1) R)
      { s with heap := (s.heap.push PySem.W.emptyDict).push (PySem.W.instObj C s.heap.objs.size) }) :
    codeAny (model prog w) A (.call (.ref C) ⟨vs, kw⟩) R s := by
  obtain ⟨hh, g, d, t, os⟩ := s
  exact PySem.W.make_core (PySem.W.makes_of X hm) (PySem.W.looks_findIn X hi) (fun self => PySem.W.bind_fn X self hf) (.inl rfl) h
end

/-! ### the attributes as a list of pairs -/
def putF (f : Str) (v : V) : List (Str × V) → List (Str × V)
  | [] => [(f, v)]
  | (g, x) :: r => if g = f then (g, v) :: r else (g, x) :: putF f v r
theorem lookup_putF (f g : Str) (v : V) : ∀ fs : List (Str × V), (putF f v fs).lookup g = if g = f then some v else fs.lookup g
  | [] => by
    show List.lookup g [(f, v)] = _
    by_cases h : g = f
    · have hb : (g == f) = true := beq_iff_eq.mpr h
      simp only [List.lookup, hb, if_pos h]
    · have hb : (g == f) = false := beq_eq_false_iff_ne.mpr h
      simp only [List.lookup, hb, if_neg h]
  | (k, x) :: r => by
    have ih := lookup_putF f g v r
    rw [show putF f v ((k, x) :: r) = (if k = f then (k, v) :: r else (k, x) :: putF f v r) from rfl]
    by_cases hk : k = f
    · rw [if_pos hk]
      by_cases h : g = k
      · have hb : (g == k) = true := beq_iff_eq.mpr h
        simp only [List.lookup, hb, if_pos (h.trans hk)]
      · have hb : (g == k) = false := beq_eq_false_iff_ne.mpr h
        simp only [List.lookup, hb, if_neg (fun e : g = f => h (e.trans hk.symm))]
    · rw [if_neg hk]
      by_cases h : g = k
      · have hb : (g == k) = true := beq_iff_eq.mpr h
        simp only [List.lookup, hb, if_neg (fun e : g = f => hk (h.symm.trans e))]
      · have hb : (g == k) = false := beq_eq_false_iff_ne.mpr h
        simp only [List.lookup, hb]
        exact ih
theorem keys_putF (f : Str) (v : V) : ∀ fs : List (Str × V), f ∈ (putF f v fs).map (·.1) ∧ ∀ g, g ∈ fs.map (·.1) → g ∈ (putF f v fs).map (·.1)
  | [] => ⟨by simp [putF], fun g h => by simp at h⟩
  | (k, x) :: r => by
    obtain ⟨i1, i2⟩ := keys_putF f v r
    rw [show putF f v ((k, x) :: r) = (if k = f then (k, v) :: r else (k, x) :: putF f v r) from rfl]
    by_cases hk : k = f
    · rw [if_pos hk]
      subst hk
      exact ⟨by simp, fun g h => by simpa using h⟩
    · rw [if_neg hk]
      refine ⟨?_, fun g h => ?_⟩
      · rw [List.map_cons]
        exact List.mem_cons_of_mem _ i1
      · rw [List.map_cons] at h ⊢
        rcases List.mem_cons.mp h with e | e
        · exact List.mem_cons.mpr (.inl e)
        · exact List.mem_cons_of_mem _ (i2 g e)
theorem length_putF (f : Str) (v : V) : ∀ fs : List (Str × V), (putF f v fs).length ≤ fs.length + 1
  | [] => by simp [putF]
  | (k, x) :: r => by
    have ih := length_putF f v r
    rw [show putF f v ((k, x) :: r) = (if k = f then (k, v) :: r else (k, x) :: putF f v r) from rfl]
    by_cases hk : k = f
    · rw [if_pos hk, List.length_cons, List.length_cons]; omega
    · rw [if_neg hk, List.length_cons, List.length_cons]; omega

theorem RelO.some_of {v : V} {o : Option Value} (r : RelO (some v) o) : ∃ u, o = some u ∧ RelV v u := by
  cases o with
  | none => exact (show False from r).elim
  | some u => exact ⟨u, rfl, r⟩
theorem RelO.none_of {o : Option Value} (r : RelO none o) : o = none := by
  cases o with
  | none => rfl
  | some u => exact (show False from r).elim
theorem handed_of {v : V} {u : Value} (r : RelV v u) : PySem.W.handedIn u = true := by
  cases v with
  | non => cases (show u = Value.none from r); rfl
  | bl b => cases (show u = Value.bool b from r); rfl
  | int i => obtain ⟨t, e⟩ := (show ∃ t, u = Value.int i t from r); cases e; rfl
  | str x => obtain ⟨t, e⟩ := (show ∃ t, u = Value.str x t from r); cases e; rfl
  | byt b => obtain ⟨t, e⟩ := (show ∃ t, u = Value.bytes b t from r); cases e; rfl
  | flt b => obtain ⟨t, e⟩ := (show ∃ t, u = Value.float b t from r); cases e; rfl
  | ref a => cases (show u = Value.ref a from r); rfl
  | ty n => cases (show u = Value.type n from r); rfl

section
variable {P : Program} {w : World} {H H' : Hp} {h h' : Heap} {a C dx : Addr} {fs fs' : List (Str × V)}
theorem ins_get (hok : HOk P w H h) (e : H a = some (.ins C dx fs)) : ∃ mA, ObjM h a dx C mA ∧ (∀ f, RelO (fs.lookup f) (mA f)) ∧ PySem.Within mA (fs.map (·.1)) ∧ fs.length ≤ 1000 ∧ H dx = some (.own a) := by
  obtain ⟨d, z, ne, ob, mA, n, r, q⟩ := (show ObjOk P w H h a (.ins C dx fs) from hok a _ e)
  exact ⟨mA, ⟨ob, n, ne⟩, r, q, z, d⟩
end

/-! ### what of the text a class must have -/
structure Cls (K : PySem.W.Frag) (C : Addr) : Prop where
  pg : PySem.W.plainGet K C Str.empty = true
  hd : PySem.W.hasDictIn K C = true
  po : PySem.W.plainOver K C = true
  sa : PySem.W.findIn K (.ref C) "__setattr__" = some (some (.builtin "object.__setattr__"))
theorem Cls.get {K : PySem.W.Frag} {C : Addr} (c : Cls K C) (f : Str) : PySem.W.plainGet K C f = true := c.pg
/-- no class of it has the name -/
def NoAttr (K : PySem.W.Frag) (C : Addr) (f : Str) : Prop := PySem.W.findIn K (.ref C) f = some none
theorem NoAttr.taker {K : PySem.W.Frag} {C : Addr} {f : Str} (n : NoAttr K C f) : PySem.W.takerIn K C f = some none := by
  unfold PySem.W.takerIn
  rw [show PySem.W.findIn K (.ref C) f = some none from n]
  rfl
/-- a constant of the class -/
structure Con (K : PySem.W.Frag) (C : Addr) (f : Str) (v : V) (u : Value) : Prop where
  at_ : PySem.W.findIn K (.ref C) f = some (some u)
  rel : RelV v u
  get : PySem.W.specialIn K u "__get__" = some none
  cp : PySem.W.copiedNames.contains f = false
/-- a method: a plain def of the class or of one above it -/
structure Meth (K : PySem.W.Frag) (C : Addr) (m : Str) (f : Addr) : Prop where
  at_ : PySem.W.findIn K (.ref C) m = some (some (.ref f))
  fn : PySem.W.isFn K (.ref f) = true
  kp : PySem.W.keepIn K (.ref f) = true

section
variable {X : Cx} {pins : List (Addr × Obj)} {σ : St} {H : Hp} {s : Shared} {a C dx : Addr} {fs : List (Str × V)} {f : Str} {v : V} {A : Around} {E : Value → Shared → Prop}

theorem getattr_ok {b : Bool} {Q : Value → Shared → Prop} (I : Inv X pins σ H s) (e : H a = some (.ins C dx fs)) (c : Cls X.K C) (n : NoAttr X.K C f) (l : fs.lookup f = some v)
    (h : ∀ u s', Inv X pins σ H s' → RelV v u → Q u s') : wpAny (model X.prog X.w) A (getAttr (.ref a) f b) Q E s := by
  obtain ⟨mA, O, r, _, _, _⟩ := ins_get I.hok e
  obtain ⟨u, hu, ru⟩ := RelO.some_of (v := v) (o := mA f) (by rw [← l]; exact r f)
  exact get_map I.kIn O (c.get f) c.hd n hu (handed_of ru) (h u _ (I.tok _) ru)


theorem getmeth_ok {m : Str} {g : Addr} {pl : Sem Bool} {Q : Value × List Value → Shared → Prop} (I : Inv X pins σ H s) (e : H a = some (.ins C dx fs)) (c : Cls X.K C) (k : Meth X.K C m g) (l : fs.lookup m = none)
    (h : Q (.ref g, [.ref a]) s) : wpAny (model X.prog X.w) A (getMethod (.ref a) m pl) Q E s := by
  obtain ⟨mA, O, r, _, _, _⟩ := ins_get I.hok e
  have hn : mA m = none := RelO.none_of (by rw [← l]; exact r m)
  exact get_meth I.kIn O (c.get m) k.at_ k.fn hn h

theorem setattr_ok {y : V} {u : Value} {Q : Unit → Shared → Prop} (I : Inv X pins σ H s) (e : H a = some (.ins C dx fs)) (c : Cls X.K C) (n : NoAttr X.K C f) (hl : fs.length < 1000) (ry : RelV y u)
    (h : ∀ s', Inv X pins σ (upd H a (.ins C dx (putF f y fs))) s' → Q () s') : wpAny (model X.prog X.w) A (setAttr (.ref a) f u) Q E s := by
  obtain ⟨mA, O, r, wi, _, ho⟩ := ins_get I.hok e
  have hz : (fs.map (·.1)).length ≤ sizeLine := by rw [List.length_map, sizeLine_eq]; omega
  refine set_map I.kIn O c.sa c.po n.taker c.hd wi hz fun h' O' sb => h _ ?_
  have hd : ∃ o, h'.get? dx = some o := let ⟨o, _, _, e', _⟩ := O'.ns; ⟨o, e'⟩
  refine I.write (x := a) (e := dx) (by rw [e]; exact True.intro) (.inr ho) (fun b q hb z => (sb.2 b hb).trans z) hd ?_
  refine ⟨by rw [upd_ne O.ne]; exact ho, ?_, O.ne, O'.obj, _, O'.ns, fun g => ?_, fun g hg => ?_⟩
  · have := length_putF f y fs; omega
  · show RelO ((putF f y fs).lookup g) (if g = f then some u else mA g)
    rw [lookup_putF]
    by_cases q : g = f
    · rw [if_pos q, if_pos q]; exact ry
    · rw [if_neg q, if_neg q]; exact r g
  · by_cases q : g = f
    · rw [q]; exact (keys_putF f y fs).1
    · refine (keys_putF f y fs).2 g (wi g fun z => hg ?_)
      show (if g = f then some u else mA g) = none
      rw [if_neg q]; exact z

/-- a new instance, tracked, without attributes -/
theorem Inv.made (I : Inv X pins σ H s) : Inv X pins σ (upd (upd H s.heap.objs.size (.own (s.heap.objs.size + 1))) (s.heap.objs.size + 1) (.ins C s.heap.objs.size []))
    { s with heap := (s.heap.push PySem.W.emptyDict).push (PySem.W.instObj C s.heap.objs.size) } := by
  have e1 : (s.heap.push PySem.W.emptyDict).get? s.heap.objs.size = some PySem.W.emptyDict := Heap.get?_push_size s.heap rfl
  have e2 : ((s.heap.push PySem.W.emptyDict).push (PySem.W.instObj C s.heap.objs.size)).get? (s.heap.objs.size + 1) = some (PySem.W.instObj C s.heap.objs.size) := by
    have := Heap.get?_push_size (s.heap.push PySem.W.emptyDict) (o := PySem.W.instObj C s.heap.objs.size) rfl
    rwa [Heap.size_push] at this
  have e3 : (s.heap.push PySem.W.emptyDict).Ns s.heap.objs.size (fun _ => none) := ⟨PySem.W.emptyDict, #[], _, e1, rfl, (fun e he => absurd he (by simp)), fun _ => rfl⟩
  have I1 := I.laid (a := s.heap.objs.size) (o := .own (s.heap.objs.size + 1)) (h' := s.heap.push PySem.W.emptyDict) (t' := s.toks) (fun b u q => Heap.get?_push_of_some _ q) (Nat.le_refl _) ⟨_, e1⟩
  refine I1.laid (a := s.heap.objs.size + 1) (o := .ins C s.heap.objs.size []) (t' := s.toks) (fun b u q => Heap.get?_push_of_some _ q) (Nat.le_of_eq (Heap.size_push _ _)) ?_
  have ne : s.heap.objs.size ≠ s.heap.objs.size + 1 := Nat.ne_of_lt (Nat.lt_succ_self _)
  refine ⟨by rw [upd_ne ne, upd_same], Nat.zero_le _, ne, e2, fun _ => none, (Heap.Ns1.of_empty e3).at fun o q => Heap.get?_push_of_some _ q, fun _ => True.intro, fun y hy => absurd rfl hy⟩

/-- e.f where nothing but the object is asked: through attributeBase (super) and the last hold -/
theorem attr_of {prog : Program} {w : World} {env : Env} {e : Expr} {f : Str} {pos : Pos} {s : Shared} {Q : Value → Shared → Prop} (hb : attributeBase e f env (eval e env) = eval e env)
    (h : wpAny (model prog w) A (eval e env) (fun o s₁ => wpAny (model prog w) A (getAttr o f true) Q E s₁) E s) : wpAny (model prog w) A (eval (.Attribute e f pos) env) Q E s :=
  Attribute_any_ h (by rw [arm_eval_Attribute, hb])
end

/-! ### readings and rules -/
/-- e.f, an attribute of the instance -/
def tFld (K : PySem.W.Frag) (ta : TE) (f : Str) : TE := fun σ H Q => ta σ H fun x H1 => ∃ a C dx fs v, x = .ref a ∧ H1 a = some (.ins C dx fs) ∧ Cls K C ∧ NoAttr K C f ∧ fs.lookup f = some v ∧ Q v H1
/-- e.f = value -/
def sFld (K : PySem.W.Frag) (ta tv : TE) (f : Str) : TS := fun D σ H => tv σ H fun y H1 => ta σ H1 fun x H2 => ∃ a C dx fs, x = .ref a ∧ H2 a = some (.ins C dx fs) ∧ Cls K C ∧ NoAttr K C f ∧ fs.length < 1000 ∧
  D.nx σ (upd H2 a (.ins C dx (putF f y fs)))

section
variable {X : Cx} {o e value : Expr} {f : Str} {pos pos' tpos : Pos} {ta tv : TE}
theorem pe_fld (he : PE X e ta) (hb : attributeBase e f X.env (eval e X.env) = eval e X.env) : PE X (.Attribute e f pos) (tFld X.K ta f) := by
  intro pins s σ H Q I h
  refine attr_of hb (thn (he pins s σ H _ I h) fun u s1 ⟨x, H1, I1, rx, a, C, dx, fs, v, ex, ea, c, n, l, q⟩ => ?_)
  subst ex
  obtain rfl : u = Value.ref a := rx
  exact getattr_ok I1 ea c n l fun u' s2 I2 ru => ⟨v, H1, I2, ru, q⟩
theorem ps_fld (ha : PE X o ta) (hv : PE X value tv) (hs : swapsWith value (some (.Attribute o f pos')) pos.line X.env = pure false) : PS X (.Assign [.Attribute o f pos'] value pos) (sFld X.K ta tv f) := by
  intro pins s σ H D I h
  refine plainObj_wpAny_Assign_Attribute (thn (hv pins s σ H _ I h) fun u s1 ⟨y, H1, I1, ry, q⟩ => thn (ha pins s1 σ H1 _ I1 q) fun ov s2 ⟨x, H2, I2, rx, a, C, dx, fs, ex, ea, c, n, l, q2⟩ => ?_) hs
  subst ex
  obtain rfl : ov = Value.ref a := rx
  exact setattr_ok I2 ea c n l ry fun s3 I3 => ⟨σ, _, I3, q2⟩

end

/-! ### isinstance -/
section
variable {X : Cx} {pins : List (Addr × Obj)} {σ : St} {H : Hp} {s : Shared} {A : Around} {E : Value → Shared → Prop} {Q : Value → Shared → Prop} {c : Value} {b : Bool}
/-- the type of a value, as the fragment's deciders take it; for an instance its class -/
inductive TyOf (K : PySem.W.Frag) (H : Hp) : V → Value → Prop where
  | non : TyOf K H .non (.type "NoneType")
  | bl (x : Bool) : TyOf K H (.bl x) (.type "bool")
  | int (i : Int) : TyOf K H (.int i) (.type "int")
  | str (x : Str) : TyOf K H (.str x) (.type "str")
  | flt (x : UInt64) : TyOf K H (.flt x) (.type "float")
  | lst {a : Addr} {xs : List V} (e : H a = some (.lst xs)) : TyOf K H (.ref a) (.type "list")
  | frz {a : Addr} {o : Obj} {xs : List V} (e : H a = some (.frz o (.lst xs))) : TyOf K H (.ref a) (.type "list")
  | tup {a : Addr} {xs : List V} (e : H a = some (.tup xs)) : TyOf K H (.ref a) (.type "tuple")
  | dK {a : Addr} {kvs : List (Key × V)} (e : H a = some (.dK kvs)) : TyOf K H (.ref a) (.type "dict")
  | dT {a : Addr} {kvs : List (List Key × V)} (e : H a = some (.dT kvs)) : TyOf K H (.ref a) (.type "dict")
  | ins {a C dx : Addr} {fs : List (Str × V)} (e : H a = some (.ins C dx fs)) (cl : Cls K C) (ha : PySem.W.findIn K (.ref C) "__class__" = some (some (.builtin "object.__class__")))
      (hn : PySem.W.specialIn K (.builtin "object.__class__") "__get__" = some (some (.builtin "getset_descriptor.__get__"))) (htk : PySem.W.takesIn K (.builtin "object.__class__") = some true)
      (hm : PySem.W.mroIn K C (.type "object") = some true) : TyOf K H (.ref a) (.ref C)
/-- isinstance(x, c) for one class c, a built-in or an own one: kitOne's answer -/
theorem isinst_ok {x : V} {u t : Value} (I : Inv X pins σ H s) (rx : RelV x u) (ty : TyOf X.K H x t) (e : PySem.W.kitOne X.K t c = some b) (h : ∀ tk, Q (.bool b) { s with toks := tk }) :
    wpAny (model X.prog X.w) A (call (.builtin "isinstance") [u, c]) Q E s := by
  cases ty with
  | non => cases (show u = Value.none from rx); exact PySem.W.kia_one PySem.W.kitx_none I.kIn True.intro e (fun z => nomatch z) h
  | bl y => cases (show u = Value.bool y from rx); exact PySem.W.kia_one PySem.W.kitx_bool I.kIn True.intro e (fun z => nomatch z) h
  | int i => obtain ⟨t, q⟩ := (show ∃ t, u = Value.int i t from rx); cases q; exact PySem.W.kia_one PySem.W.kitx_int I.kIn True.intro e (fun z => nomatch z) h
  | str y => obtain ⟨t, q⟩ := (show ∃ t, u = Value.str y t from rx); cases q; exact PySem.W.kia_one PySem.W.kitx_str I.kIn True.intro e (fun z => nomatch z) h
  | flt y => obtain ⟨t, q⟩ := (show ∃ t, u = Value.float y t from rx); cases q; exact PySem.W.kia_one PySem.W.kitx_float I.kIn True.intro e (fun z => nomatch z) h
  | @lst a xs ea =>
    cases (show u = Value.ref a from rx)
    obtain ⟨_, _, n, _, h1⟩ := (show ObjOk X.prog X.w H s.heap a (.lst xs) from I.hok a _ ea)
    exact PySem.W.kia_one PySem.W.kitx_list I.kIn ⟨_, h1, rfl⟩ e (fun z => nomatch z) h
  | @frz a ob xs ea =>
    cases (show u = Value.ref a from rx)
    obtain ⟨_, _, _, n, _, h1⟩ := (show ObjOk X.prog X.w H s.heap a (.frz ob (.lst xs)) from I.hok a _ ea)
    exact PySem.W.kia_one PySem.W.kitx_list I.kIn ⟨_, h1, rfl⟩ e (fun z => nomatch z) h
  | @tup a xs ea =>
    cases (show u = Value.ref a from rx)
    obtain ⟨_, _, _, p⟩ := (show ObjOk X.prog X.w H s.heap a (.tup xs) from I.hok a _ ea)
    obtain ⟨o, h1, h2, _⟩ := p
    exact PySem.W.kia_one PySem.W.kitx_tuple I.kIn ⟨o, h1, h2⟩ e (fun z => nomatch z) h
  | @dK a kvs ea =>
    cases (show u = Value.ref a from rx)
    obtain ⟨_, _, vs, _, p⟩ := (show ObjOk X.prog X.w H s.heap a (.dK kvs) from I.hok a _ ea)
    obtain ⟨o, es, ep, h1, h2, _⟩ := p
    exact PySem.W.kia_one PySem.W.kitx_dict I.kIn ⟨o, h1, h2.1⟩ e (fun z => nomatch z) h
  | @dT a kvs ea =>
    cases (show u = Value.ref a from rx)
    obtain ⟨_, _, xs, _, o, es, ep, h1, h2, _⟩ := (show ObjOk X.prog X.w H s.heap a (.dT kvs) from I.hok a _ ea)
    exact PySem.W.kia_one PySem.W.kitx_dict I.kIn ⟨o, h1, h2.1⟩ e (fun z => nomatch z) h
  | @ins a C dx fs ea cl ha hn htk hm =>
    cases (show u = Value.ref a from rx)
    obtain ⟨mA, O, _⟩ := ins_get I.hok ea
    obtain ⟨od, J, _⟩ := O.look
    exact PySem.W.kia_one (PySem.W.kitx_own (cl.get _) cl.hd ha hn htk hm) I.kIn J e (fun z => nomatch z) h
end
end L2

namespace L2
open PySem PySem.Spec PyProof.Rows

/-! ### room -/
structure Room (k : Nat) (A : Around) : Prop where
  hd : A.handled = none
  dp : A.depth + 3 * k + 5 < recursionLimit
  un : A.units + 16 * k + 200 < cLine
theorem Room.mono {j k : Nat} {A : Around} (r : Room k A) (h : j ≤ k) : Room j A := ⟨r.hd, by have := r.dp; omega, by have := r.un; omega⟩
theorem Room.deeper {k : Nat} {A : Around} (r : Room (k + 1) A) (env : Env) : Room k (A.deeper env) :=
  ⟨r.hd, by have := r.dp; show A.depth + 1 + 3 * k + 5 < _; omega, by have := r.un; show A.units + 3 + 16 * k + 200 < _; omega⟩
theorem Room.in1 {k : Nat} {A : Around} (r : Room (k + 1) A) : Room k A.in1 :=
  ⟨r.hd, by have := r.dp; show A.depth + 3 * k + 5 < _; omega, by have := r.un; show A.units + 1 + 16 * k + 200 < _; omega⟩
theorem make_depth {A : Around} {C : Addr} {us : List Value} {kw : List (Str × Value)} : (A.under (.builtin "type.__call__" ⟨.ref C :: us, kw⟩)).depth = A.depth + 1 := by
  first | rfl | simp [Around.under, Code.weight, Code.isCreation, Code.isGuard, Code.isCaller, Code.frames, Code.isFrame, guardIds]
theorem make_units {A : Around} {C : Addr} {us : List Value} {kw : List (Str × Value)} : (A.under (.builtin "type.__call__" ⟨.ref C :: us, kw⟩)).units = A.units + 1 := by
  first | rfl | simp [Around.under, Code.cUnits, Code.frames, Code.isFrame]
theorem Room.make {k : Nat} {A : Around} (r : Room (k + 1) A) (C : Addr) (us : List Value) (kw : List (Str × Value)) : Room k (A.under (.builtin "type.__call__" ⟨.ref C :: us, kw⟩)) :=
  ⟨r.hd, by have := r.dp; rw [make_depth]; omega, by have := r.un; rw [make_units]; omega⟩
theorem Room.depth {k : Nat} {A : Around} (r : Room k A) : A.depth < recursionLimit := by have := r.dp; omega
theorem Room.units {k : Nat} {A : Around} (r : Room k A) : A.units + 64 < cLine := by have := r.un; omega

/-! ### argument lists and displays -/
def tNil : TA := fun _ H Q => Q [] H
def tCons (ta : TE) (tr : TA) : TA := fun σ H Q => ta σ H fun x H1 => tr σ H1 fun xs H2 => Q (x :: xs) H2
section
variable {X : Cx} {e : Expr} {es : List Expr} {te : TE} {t : TA} {pos : Pos}
theorem pa_nil : PA X [] tNil := fun _ _ _ _ H Q I h => Calls.spliced_nil ⟨[], H, I, .nil, h⟩
theorem pa_cons (ha : PE X e te) (hr : PA X es t) (hs : starEach (e :: es) X.env = (false, eval e X.env) :: starEach es X.env := by rfl) : PA X (e :: es) (tCons te t) := by
  intro pos pins s σ H Q I h
  rw [hs]
  show wpAny _ _ (spliced ((false, eval e X.env) :: backTo pos (starEach es X.env))) _ _ s
  refine Calls.spliced_cons (thn (ha pins s σ H _ I h) fun u s1 ⟨x, H1, I1, r1, q1⟩ => ?_)
  exact thn (hr pos pins s1 σ H1 _ I1 q1) fun us s2 ⟨xs, H2, I2, r2, q2⟩ => ⟨x :: xs, H2, I2, .cons r1 r2, q2⟩

/-- a tuple, a list of written items -/
def tTup (t : TA) : TE := fun σ H Q => t σ H fun xs H1 => xs.length ≤ sizeLine ∧ ∀ p, H1 p = none → Q (.ref p) (upd H1 p (.tup xs))
def tLst (t : TA) : TE := fun σ H Q => t σ H fun xs H1 => xs.length ≤ sizeLine ∧ ∀ p, H1 p = none → Q (.ref p) (upd H1 p (.lst xs))
theorem pe_tup {x1} (h : PA X es t) : PE X (.Tuple es x1 pos) (tTup t) := by
  intro pins s σ H Q I hq
  refine wpAny_Tuple_spliced (thn (h pos pins s σ H _ I hq) fun us s1 ⟨xs, H1, I1, r, z, q⟩ => ⟨by rw [← r.length]; exact z, ?_⟩)
  have hf : H1 s1.heap.objs.size = none := I1.hok.fresh (Nat.le_refl _)
  refine ⟨.ref s1.heap.objs.size, upd H1 s1.heap.objs.size (.tup xs), I1.laid (t' := s1.toks) (fun b u e => Heap.get?_push_of_some _ e) (Nat.le_refl _) ?_, rfl, q _ hf⟩
  exact ⟨z, us, r, ⟨_, Heap.get?_push_size _ rfl, rfl, _, rfl⟩⟩
theorem pe_lst (h : PA X es t) : PE X (.List es pos) (tLst t) := by
  intro pins s σ H Q I hq
  refine wpAny_List_spliced (thn (h pos pins s σ H _ I hq) fun us s1 ⟨xs, H1, I1, r, z, q⟩ => ⟨by rw [← r.length]; exact z, ?_⟩)
  have hf : H1 s1.heap.objs.size = none := I1.hok.fresh (Nat.le_refl _)
  refine ⟨.ref s1.heap.objs.size, upd H1 s1.heap.objs.size (.lst xs), I1.laid (t' := s1.toks) (fun b u e => Heap.get?_push_of_some _ e) (Nat.le_refl _) ?_, rfl, q _ hf⟩
  exact ⟨z, us, 0, r, Heap.get?_push_size _ rfl⟩
end

/-! ### what a def promises -/
/-- a def's promise: the bound arguments in the parameters' order, the heap, the wanted end, the wanted exception -/
abbrev Sp := List V → Hp → VK → XK → Prop
/-- how an exception lies behind a call (file 08 gives it): the callers' frames, abstract heap and state ahead of the call, the wish, the exception, the state -/
abbrev CXT := List Env → Hp → Shared → XK → Value → Shared → Prop

/-- the state at a call -/
structure Env0 (P : Program) (w : World) (K : PySem.W.Frag) (mg : Str → Option Value) (base : Heap) (A : Around) (outer : List Env) (s : Shared) (H : Hp) : Prop where
  frames : A.frames = some outer
  mod : Mod K mg base
  bs : ∀ b o, base.get? b = some o → s.heap.get? b = some o ∧ H b = none
  bsz : base.objs.size ≤ s.heap.objs.size
  funs : s.heap.FunFrames base outer
  frf : ∀ b ∈ frs outer, H b = none
  hok : HOk P w H s.heap
  bare : AllBare s.gens
/-- a call's end -/
def CE (outer : List Env) (P : Program) (w : World) (H : Hp) (s : Shared) (Q : VK) (u : Value) (s' : Shared) : Prop :=
  ∃ v H', s'.os = s.os ∧ AllBare s'.gens ∧ Un (frs outer) [] H H' s.heap s'.heap ∧ HOk P w H' s'.heap ∧ RelV v u ∧ Q v H'
def CR (CX : CXT) (outer : List Env) (P : Program) (w : World) (H : Hp) (s : Shared) (Q : VK) (E : XK) (r : Result) (s' : Shared) : Prop :=
  match r with
  | .ok (.ret u) => CE outer P w H s Q u s'
  | .ok _ => False
  | .error e => CX outer H s E e s'
structure FnOk (P : Program) (w : World) (K : PySem.W.Frag) (mg : Str → Option Value) (base : Heap) (CX : CXT) (k : Nat) (f : Addr) (fd : FuncData) (ps : List Str) (sp : Sp) : Prop where
  len : ∀ vs H Q E, sp vs H Q E → vs.length = ps.length
  run : ∀ (A : Around) (outer : List Env) (s : Shared) (H : Hp) (args : Args) (us : List Value) (vs : List V) (Q : VK) (E : XK), Room k A → Env0 P w K mg base A outer s H → BindsTo s fd args (ps.zip us) → Vals vs us → sp vs H Q E →
    codeAny (model P w) A (.call (.ref f) args) (CR CX outer P w H s Q E) s
theorem FnOk.mono {P : Program} {w : World} {K : PySem.W.Frag} {mg : Str → Option Value} {base : Heap} {CX : CXT} {j k : Nat} {f : Addr} {fd : FuncData} {ps : List Str} {sp : Sp} (F : FnOk P w K mg base CX j f fd ps sp) (h : j ≤ k) :
    FnOk P w K mg base CX k f fd ps sp := ⟨F.len, fun A outer s H args us vs Q E hr => F.run A outer s H args us vs Q E (hr.mono h)⟩

theorem Env0.make {P : Program} {w : World} {K : PySem.W.Frag} {mg : Str → Option Value} {base : Heap} {A : Around} {outer : List Env} {s : Shared} {H : Hp} (e : Env0 P w K mg base A outer s H) (C : Addr) (us : List Value) (kw : List (Str × Value)) :
    Env0 P w K mg base (A.under (.builtin "type.__call__" ⟨.ref C :: us, kw⟩)) outer s H := ⟨by first | exact e.frames | (simpa [Around.under, Code.envs, Code.isFrame, pushEnvs] using e.frames), e.mod, e.bs, e.bsz, e.funs, e.frf, e.hok, e.bare⟩
theorem Env0.in1 {P : Program} {w : World} {K : PySem.W.Frag} {mg : Str → Option Value} {base : Heap} {A : Around} {outer : List Env} {s : Shared} {H : Hp} (e : Env0 P w K mg base A outer s H) :
    Env0 P w K mg base A.in1 outer s H := ⟨e.frames, e.mod, e.bs, e.bsz, e.funs, e.frf, e.hok, e.bare⟩

section
variable {X : Cx} {pins : List (Addr × Obj)} {σ : St} {H : Hp} {s s' : Shared}
/-- from a body: what a callee wants -/
theorem Inv.env0 (I : Inv X pins σ H s) : Env0 X.prog X.w X.K X.mg X.base X.A X.stack s H :=
  ⟨I.ok.frames, I.ok.mod, I.bs, Nat.le_trans I.ok.bsz I.sz, I.stack, I.stkFree, I.hok, I.bare⟩
/-- behind a call -/
theorem Inv.after {Q : VK} {u : Value} (I : Inv X pins σ H s) (h : CE X.stack X.prog X.w H s Q u s') : EP X pins σ Q u s' := by
  obtain ⟨v, H', os, bare, un, hok, r, q⟩ := h
  obtain ⟨hh, g, d, t, os'⟩ := s'
  obtain rfl : os' = s.os := os
  exact ⟨v, H', I.call (h' := hh) (g' := g) (d' := d) (t' := t) (ch := []) un hok bare (fun b z => absurd z (by simp)), r, q⟩
end

/-! ### calls -/
/-- f(..): the written arguments, then the defaults dvs; E: what is wanted of an exception -/
def tCall (sp : Sp) (dvs : List V) (E : XK) (t : TA) : TE := fun σ H Q => t σ H fun vs H1 => sp (vs ++ dvs) H1 Q E
/-- o.m(..) of an instance of the class at C -/
def tMeth (C : Addr) (m : Str) (sp : Sp) (dvs : List V) (E : XK) (ta : TE) (t : TA) : TE := fun σ H Q => ta σ H fun x H1 => ∃ a dx fs, x = .ref a ∧ H1 a = some (.ins C dx fs) ∧ fs.lookup m = none ∧
  t σ H1 fun vs H2 => sp (x :: (vs ++ dvs)) H2 Q E
/-- C(..): a new instance and its dict, then __init__ -/
def tMake (C : Addr) (sp : Sp) (dvs : List V) (E : XK) (t : TA) : TE := fun σ H Q => t σ H fun vs H1 => ∀ x dx, H1 x = none → H1 dx = none → dx ≠ x →
  sp (.ref x :: (vs ++ dvs)) (upd (upd H1 dx (.own x)) x (.ins C dx [])) (fun v H2 => v = .non ∧ Q (.ref x) H2) E

/-- how the parameters are bound: us the positional arguments, kw the keywords' values by name, ds the defaults that fill up -/
def Binds (K : PySem.W.Frag) (fd : FuncData) (ps : List Str) (ds : List Value) : Prop :=
  ∀ (s : Shared) (us : List Value), K.In s.heap → (us ++ ds).length = ps.length → BindsTo s fd ⟨us, []⟩ (ps.zip (us ++ ds))
/-- every parameter is given -/
theorem Binds.all {K : PySem.W.Frag} {fd : FuncData} {ps : List Str} (h : ∀ us : List Value, us.length = ps.length → bindArgs fd ⟨us, []⟩ = pure (ps.zip us)) : Binds K fd ps [] := fun s us _ hl => by
  rw [List.append_nil] at hl ⊢
  exact .of_eq (h us hl)

/-- an exception of a callee reaches what this body wants of exceptions -/
def Passes (CX : CXT) (X : Cx) (E : XK) : Prop := ∀ (pins : List (Addr × Obj)) (σ : St) (H : Hp) (s : Shared) (e : Value) (s' : Shared), Inv X pins σ H s → CX X.stack H s E e s' → X.xe e s'

section
variable {X : Cx} {CX : CXT} {k : Nat} {f C : Addr} {fd : FuncData} {ps : List Str} {sp : Sp} {dvs : List V} {ds : List Value} {E : XK} {x m : Str} {p pos apos : Pos} {e o : Expr} {es : List Expr} {ta : TE} {t : TA}

/-- the callee runs -/
theorem run_fn {pins : List (Addr × Obj)} {σ : St} {H : Hp} {s : Shared} {Q : VK} {us : List Value} {vs : List V} (F : FnOk X.prog X.w X.K X.mg X.base CX k f fd ps sp) (hr : Room k X.A) (hb : Binds X.K fd ps ds) (hd : Vals dvs ds) (hx : Passes CX X E)
    (I : Inv X pins σ H s) (r : Vals vs us) (h : sp (vs ++ dvs) H Q E) : wpAny (model X.prog X.w) X.A (call (.ref f) us) (EP X pins σ Q) X.xe s := by
  have r2 : Vals (vs ++ dvs) (us ++ ds) := r.append hd
  have hl : (us ++ ds).length = ps.length := by rw [← r2.length]; exact F.len _ _ _ _ h
  refine wpAny_call (codeAny_mono (F.run X.A X.stack s H ⟨us, []⟩ (us ++ ds) (vs ++ dvs) Q E hr I.env0 (hb s us I.kIn hl) r2 h) fun r s' hq => ?_)
  cases r with
  | error e => exact hx pins σ H s e s' I hq
  | ok fl =>
    cases fl with
    | ret u => exact I.after hq
    | next => exact False.elim hq
    | brk => exact False.elim hq
    | cont => exact False.elim hq

theorem pe_call (F : FnOk X.prog X.w X.K X.mg X.base CX k f fd ps sp) (hr : Room k X.A) (hg : Gl X x) (hm : X.mg x = some (.ref f)) (hk : PySem.W.keepIn X.K (.ref f) = true) (hb : Binds X.K fd ps ds) (hd : Vals dvs ds) (hx : Passes CX X E)
    (ha : PA X (e :: es) t) (hdb : (x == ("__debug__" : Str)) = false := by decide) (he : starEach (e :: es) X.env = (false, eval e X.env) :: starEach es X.env := by rfl) (hpl : (backTo pos (starEach es X.env)).any (·.1) = false := by rfl) :
    PE X (.Call (.Name x p) (e :: es) [] pos) (tCall sp dvs E t) := by
  intro pins s σ H Q I h
  refine wpAny_Call_Name_kw (ld_glob I hg hm ?_ hdb)
  refine PySem.W.callWith_K (h₀ := X.base) I.ok.mod.kin hk (thn (ha pos pins s σ H _ I h) fun us s1 ⟨vs, H1, I1, r, q⟩ => ⟨I1.kIn, ?_⟩) he hpl
  exact run_fn F hr hb hd hx I1 r q
theorem pe_call0 (F : FnOk X.prog X.w X.K X.mg X.base CX k f fd ps sp) (hr : Room k X.A) (hg : Gl X x) (hm : X.mg x = some (.ref f)) (hk : PySem.W.keepIn X.K (.ref f) = true) (hb : Binds X.K fd ps ds) (hd : Vals dvs ds) (hx : Passes CX X E)
    (hdb : (x == ("__debug__" : Str)) = false := by decide) : PE X (.Call (.Name x p) [] [] pos) (tCall sp dvs E tNil) := by
  intro pins s σ H Q I h
  refine wpAny_Call_Name_kw (ld_glob I hg hm ?_ hdb)
  exact PySem.W.callWith_K0 I.kIn hk (run_fn (us := []) F hr hb hd hx I .nil h)

/-- o.m(e, ..) -/
theorem pe_meth {pl : Sem Bool} (he : PE X o ta) (c : Cls X.K C) (hm : Meth X.K C m f) (F : FnOk X.prog X.w X.K X.mg X.base CX k f fd ps sp) (hr : Room k X.A) (hb : Binds X.K fd ps ds) (hd : Vals dvs ds) (hx : Passes CX X E) (ha : PA X (e :: es) t)
    (hst : starEach (e :: es) X.env = (false, eval e X.env) :: starEach es X.env := by rfl) (hpl : (backTo pos (starEach es X.env)).any (·.1) = false := by rfl)
    (ht : eval (.Call (.Attribute o m apos) (e :: es) [] pos) X.env = (do
      let ov ← eval o X.env
      standAt apos.atName
      let (f, first) ← holding [ov] (getMethod ov m pl)
      callWith pos f first (backTo pos (starEach (e :: es) X.env)) (backToKw pos (keywordEach [] X.env))) := by rfl) :
    PE X (.Call (.Attribute o m apos) (e :: es) [] pos) (tMeth C m sp dvs E ta t) := by
  intro pins s σ H Q I h
  refine PySem.W.methodCall_KW (pl := pl) (thn (he pins s σ H _ I h) fun u s1 ⟨x, H1, I1, rx, a, dx, fs, ex, ea, l, q⟩ => ?_) ht
  subst ex
  obtain rfl : u = Value.ref a := rx
  refine getmeth_ok I1 ea c hm l ?_
  refine PySem.W.callWith_K (first := [.ref a]) (h₀ := X.base) I.ok.mod.kin hm.kp (thn (ha pos pins s1 σ H1 _ I1 q) fun us s2 ⟨vs, H2, I2, r, q2⟩ => ⟨I2.kIn, ?_⟩) hst hpl
  exact run_fn (us := .ref a :: us) (vs := .ref a :: vs) F hr hb hd hx I2 (.cons rfl r) q2
/-- o.m() -/
theorem pe_meth0 {pl : Sem Bool} (he : PE X o ta) (c : Cls X.K C) (hm : Meth X.K C m f) (F : FnOk X.prog X.w X.K X.mg X.base CX k f fd ps sp) (hr : Room k X.A) (hb : Binds X.K fd ps ds) (hd : Vals dvs ds) (hx : Passes CX X E)
    (ht : eval (.Call (.Attribute o m apos) [] [] pos) X.env = (do
      let ov ← eval o X.env
      standAt apos.atName
      let (f, first) ← holding [ov] (getMethod ov m pl)
      callWith pos f first (backTo pos (starEach [] X.env)) (backToKw pos (keywordEach [] X.env))) := by rfl) :
    PE X (.Call (.Attribute o m apos) [] [] pos) (tMeth C m sp dvs E ta tNil) := by
  intro pins s σ H Q I h
  refine PySem.W.methodCall_KW (pl := pl) (thn (he pins s σ H _ I h) fun u s1 ⟨x, H1, I1, rx, a, dx, fs, ex, ea, l, q⟩ => ?_) ht
  subst ex
  obtain rfl : u = Value.ref a := rx
  refine getmeth_ok I1 ea c hm l ?_
  exact PySem.W.callWith_K0 (first := [.ref a]) I1.kIn hm.kp (run_fn (us := [.ref a]) (vs := [.ref a]) F hr hb hd hx I1 (.cons rfl .nil) q)

/-- what a class must have to be made -/
structure Mk (K : PySem.W.Frag) (C f : Addr) : Prop where
  makes : PySem.W.makesIn K C = true
  init : PySem.W.findIn K (.ref C) "__init__" = some (some (.ref f))
  fn : PySem.W.isFn K (.ref f) = true
  kp : PySem.W.keepIn K (.ref C) = true

theorem run_make {pins : List (Addr × Obj)} {σ : St} {H : Hp} {s : Shared} {Q : VK} {us : List Value} {vs : List V} (M : Mk X.K C f) (F : FnOk X.prog X.w X.K X.mg X.base CX k f fd ps sp) (hr : Room (k + 1) X.A) (hb : Binds X.K fd ps ds) (hd : Vals dvs ds)
    (hx : Passes CX X E) (I : Inv X pins σ H s) (r : Vals vs us)
    (h : ∀ x dx, H x = none → H dx = none → dx ≠ x → sp (.ref x :: (vs ++ dvs)) (upd (upd H dx (.own x)) x (.ins C dx [])) (fun v H2 => v = .non ∧ Q (.ref x) H2) E) :
    wpAny (model X.prog X.w) X.A (call (.ref C) us) (EP X pins σ Q) X.xe s := by
  have hq := h (s.heap.objs.size + 1) s.heap.objs.size (I.hok.fresh (Nat.le_succ _)) (I.hok.fresh (Nat.le_refl _)) (Nat.ne_of_lt (Nat.lt_succ_self _))
  have I2 := Inv.made (C := C) I
  have r2 : Vals (V.ref (s.heap.objs.size + 1) :: (vs ++ dvs)) (Value.ref (s.heap.objs.size + 1) :: (us ++ ds)) := .cons rfl (r.append hd)
  have hl : (Value.ref (s.heap.objs.size + 1) :: us ++ ds).length = ps.length := by
    have e := r2.length
    rw [F.len _ _ _ _ hq] at e
    exact e.symm
  refine wpAny_call (make_map (f := f) I.kIn M.makes M.init (beq_iff_eq.mp M.fn) (codeAny_mono (F.run _ X.stack _ _ ⟨Value.ref (s.heap.objs.size + 1) :: us, []⟩ (Value.ref (s.heap.objs.size + 1) :: (us ++ ds)) _ _ E (hr.make C us [])
    (I2.env0.make C us []) (hb _ (Value.ref (s.heap.objs.size + 1) :: us) I2.kIn hl) r2 hq) fun r s' hq' => ?_))
  cases r with
  | error e => exact hx pins σ _ _ e s' I2 hq'
  | ok fl =>
    cases fl with
    | ret u =>
      obtain ⟨v, H', I3, rv, ev, q3⟩ := I2.after hq'
      subst ev
      exact ⟨rv, ⟨V.ref (s.heap.objs.size + 1), H', I3, rfl, q3⟩⟩
    | next => exact False.elim hq'
    | brk => exact False.elim hq'
    | cont => exact False.elim hq'
theorem pe_make (M : Mk X.K C f) (F : FnOk X.prog X.w X.K X.mg X.base CX k f fd ps sp) (hr : Room (k + 1) X.A) (hg : Gl X x) (hm : X.mg x = some (.ref C)) (hb : Binds X.K fd ps ds) (hd : Vals dvs ds) (hx : Passes CX X E)
    (ha : PA X (e :: es) t) (hdb : (x == ("__debug__" : Str)) = false := by decide) (he : starEach (e :: es) X.env = (false, eval e X.env) :: starEach es X.env := by rfl) (hpl : (backTo pos (starEach es X.env)).any (·.1) = false := by rfl) :
    PE X (.Call (.Name x p) (e :: es) [] pos) (tMake C sp dvs E t) := by
  intro pins s σ H Q I h
  refine wpAny_Call_Name_kw (ld_glob I hg hm ?_ hdb)
  refine PySem.W.callWith_K (h₀ := X.base) I.ok.mod.kin M.kp (thn (ha pos pins s σ H _ I h) fun us s1 ⟨vs, H1, I1, r, q⟩ => ⟨I1.kIn, ?_⟩) he hpl
  exact run_make M F hr hb hd hx I1 r q
theorem pe_make0 (M : Mk X.K C f) (F : FnOk X.prog X.w X.K X.mg X.base CX k f fd ps sp) (hr : Room (k + 1) X.A) (hg : Gl X x) (hm : X.mg x = some (.ref C)) (hb : Binds X.K fd ps ds) (hd : Vals dvs ds) (hx : Passes CX X E)
    (hdb : (x == ("__debug__" : Str)) = false := by decide) : PE X (.Call (.Name x p) [] [] pos) (tMake C sp dvs E tNil) := by
  intro pins s σ H Q I h
  refine wpAny_Call_Name_kw (ld_glob I hg hm ?_ hdb)
  exact PySem.W.callWith_K0 I.kIn M.kp (run_make (us := []) M F hr hb hd hx I .nil h)
end

/-! ### keywords -/
section
variable {X : Cx} {CX : CXT} {k : Nat} {f C : Addr} {fd : FuncData} {ps ks : List Str} {sp : Sp} {E : XK} {x m : Str} {p pos apos kpos : Pos} {e o : Expr} {es : List Expr} {kws : List Keyword} {te ta : TE} {t tk : TA} {nm : Option Str}

/-- how a call with keywords binds: g puts the positional values us and the keywords' values ws (names ks) in the parameters' order, defaults among them -/
structure KBinds (K : PySem.W.Frag) (fd : FuncData) (ps ks : List Str) (g : List Value → List Value → List Value) (gV : List V → List V → List V) : Prop where
  to : ∀ (s : Shared) (us ws : List Value), K.In s.heap → (g us ws).length = ps.length → BindsTo s fd ⟨us, ks.zip ws⟩ (ps.zip (g us ws))
  rel : ∀ {vs : List V} {us : List Value} {zs : List V} {ws : List Value}, Vals vs us → Vals zs ws → Vals (gV vs zs) (g us ws)
variable {g : List Value → List Value → List Value} {gV : List V → List V → List V}
end

/-! ### a def's body keeps its promise -/
/-- names: the parameters first -/
structure FnScope (N P : List Str) (sc : Scope) : Prop where
  kind : sc.kind = .function
  co : sc.isCoroutine = false
  gen : sc.isGenerator = false
  nd : N.Nodup
  pre : N.take P.length = P
  par : ∀ x ∈ P, sc.names.lookup x = some .local ∨ sc.names.lookup x = some .cell
  nofree : ∀ y ∈ sc.names, y.2 ≠ .free

theorem bindL_out {kindOf : Str → Option NameKind} {x : Str} : ∀ {binds : List (Str × Value)} {m : Str → Option Value}, (∀ v, (x, v) ∉ binds) → bindL kindOf binds m x = m x
  | [], _, _ => rfl
  | (n, v) :: r, m, h => by
    unfold bindL
    rw [bindL_out fun w hw => h w (List.mem_cons_of_mem _ hw)]
    split
    · have : x ≠ n := by rintro rfl; exact h v List.mem_cons_self
      simp [this]
    · rfl
theorem bindC_out {kindOf : Str → Option NameKind} {x : Str} : ∀ {binds : List (Str × Value)} {m : Str → Option Value}, (∀ v, (x, v) ∉ binds) → bindC kindOf binds m x = m x
  | [], _, _ => rfl
  | (n, v) :: r, m, h => by
    unfold bindC
    rw [bindC_out fun w hw => h w (List.mem_cons_of_mem _ hw)]
    split
    · rfl
    · have : x ≠ n := by rintro rfl; exact h v List.mem_cons_self
      simp [this]
theorem bindL_get {kindOf : Str → Option NameKind} {x : Str} {v : Value} : ∀ {P : List Str} {vs : List Value} {i : Nat} {m : Str → Option Value}, P.Nodup → P[i]? = some x → vs[i]? = some v → kindOf x = some .local →
    bindL kindOf (P.zip vs) m x = some v
  | [], _, _, _, _, h, _, _ => by simp at h
  | _ :: _, [], _, _, _, _, h, _ => by simp at h
  | p :: P, w :: vs, 0, m, nd, h1, h2, hk => by
    simp at h1 h2; subst h1; subst h2
    show bindL kindOf ((p, w) :: P.zip vs) m p = _
    unfold bindL
    rw [bindL_out fun v hv => (List.nodup_cons.mp nd).1 (List.of_mem_zip hv).1, if_pos hk]
    simp
  | p :: P, w :: vs, i + 1, m, nd, h1, h2, hk => by
    show bindL kindOf ((p, w) :: P.zip vs) m x = _
    unfold bindL
    exact bindL_get (i := i) (List.nodup_cons.mp nd).2 (by simpa using h1) (by simpa using h2) hk
theorem bindC_get {kindOf : Str → Option NameKind} {x : Str} {v : Value} : ∀ {P : List Str} {vs : List Value} {i : Nat} {m : Str → Option Value}, P.Nodup → P[i]? = some x → vs[i]? = some v → kindOf x ≠ some .local →
    bindC kindOf (P.zip vs) m x = some v
  | [], _, _, _, _, h, _, _ => by simp at h
  | _ :: _, [], _, _, _, _, h, _ => by simp at h
  | p :: P, w :: vs, 0, m, nd, h1, h2, hk => by
    simp at h1 h2; subst h1; subst h2
    show bindC kindOf ((p, w) :: P.zip vs) m p = _
    unfold bindC
    rw [bindC_out fun v hv => (List.nodup_cons.mp nd).1 (List.of_mem_zip hv).1, if_neg hk]
    simp
  | p :: P, w :: vs, i + 1, m, nd, h1, h2, hk => by
    show bindC kindOf ((p, w) :: P.zip vs) m x = _
    unfold bindC
    exact bindC_get (i := i) (List.nodup_cons.mp nd).2 (by simpa using h1) (by simpa using h2) hk

/-- the names' values at the entry -/
def start (N : List Str) (vs : List V) : St := vs.map some ++ List.replicate (N.length - vs.length) none

/-- the context of a def's body, at its entry; an exception leaves the frame, then lies as CX says -/
def cxOf (CX : CXT) (P : Program) (w : World) (K : PySem.W.Frag) (mg : Str → Option Value) (base : Heap) (N : List Str) (qual : Str) (scope : Scope) (f : Addr) (cd : Value) (A : Around) (outer : List Env) (s : Shared) (H : Hp) (E : XK) : Cx where
  prog := P
  w := w
  K := K
  mg := mg
  base := base
  A := A.deeper (envOfC qual scope s.heap.objs.size f cd)
  N := N
  s₀ := s
  H₀ := H
  env := envOfC qual scope s.heap.objs.size f cd
  outer := outer
  stack := envOfC qual scope s.heap.objs.size f cd :: outer
  ex := []
  calm := true
  fn := fun _ => true
  pn := []
  xe := fun e s' => wpAny (model P w) (A.deeper (envOfC qual scope s.heap.objs.size f cd)) (leaving (envOfC qual scope s.heap.objs.size f cd) e) (fun _ s'' => CX outer H s E e s'') (fun e' s'' => CX outer H s E e' s'') s'

theorem cell_has {sc : Scope} {n : Nat} {x : Str} (h : sc.names.lookup x = some .cell) : ∃ c, (cellsFrom n sc.names []).lookup x = some c := by
  have q := PySem.W.cellsFrom_some sc.names n [] (.inl h)
  exact Option.isSome_iff_exists.mp q

theorem inv_start {CX : CXT} {P : Program} {w : World} {K : PySem.W.Frag} {mg : Str → Option Value} {base : Heap} {N ps : List Str} {qual : Str} {scope : Scope} {f : Addr} {cd : Value} {A : Around} {outer : List Env} {s s1 : Shared} {H : Hp} {E : XK} {us : List Value} {vs : List V}
    (S : FnScope N ps scope) (hd : A.handled = none) (e0 : Env0 P w K mg base A outer s H) (hl : vs.length = ps.length) (r : Vals vs us)
    (x : InCallC s s.heap.objs.size (bindL (envOfC qual scope s.heap.objs.size f cd).kindOf (ps.zip us) fun _ => none) (cellsFrom (s.heap.objs.size + 1) scope.names []) (bindC (envOfC qual scope s.heap.objs.size f cd).kindOf (ps.zip us) fun _ => none) s1) :
    Inv (cxOf CX P w K mg base N qual scope f cd A outer s H E) [] (start N vs) H s1 := by
  have hpl : ps.length ≤ N.length := by have := congrArg List.length S.pre; rw [List.length_take] at this; omega
  obtain ⟨h1, tk, rfl, hk⟩ := x.done
  have noA : ∀ b : Addr, b ∉ (cxOf CX P w K mg base N qual scope f cd A outer s H E).ex := fun b z => absurd (show b ∈ ([] : List Addr) from z) (by simp)
  refine ⟨⟨e0.mod, S.kind, rfl, rfl, Nat.le_refl _, fun y z c h1 h2 => ?_, fun y hy => ?_, fun y c _ h => ?_, fun _ => hd, Around.frames_deeper e0.frames, .inr ⟨rfl, rfl⟩, fun b z => absurd z (noA b), e0.bs, e0.bsz, fun b _ _ => noA b, fun b z => absurd z (noA b), e0.funs, e0.frf⟩,
    rfl, e0.bare, Un.kept hk, ⟨_, x.toInCall.ns, fun i y v h1 h2 h3 => ?_⟩, fun y c h => ⟨_, x.cell y c h⟩, e0.hok.fresh (Nat.le_refl _), fun y c h => ?_, fun p hp => absurd (show p ∈ ([] : List (Addr × Obj)) from hp) (by simp), e0.hok.kept hk, ?_⟩
  · exact name_of_addr x.apart (PySem.mem_of_lookup h1) (PySem.mem_of_lookup h2)
  · have hy : scope.names.lookup y = some .cell ∨ scope.names.lookup y = some .free := hy
    rcases hy with hy | hy
    · exact cell_has hy
    · exact absurd rfl (S.nofree _ (PySem.mem_of_lookup hy))
  · exact Nat.le_of_lt (x.above y c (PySem.mem_of_lookup h))
  · have hi : i < vs.length := by
      unfold start at h2
      by_cases hi : i < vs.length
      · exact hi
      · rw [List.getElem?_append_right (by simpa using hi)] at h2
        rw [List.getElem?_replicate] at h2
        split at h2 <;> cases h2
    have ha : vs[i]? = some v := by
      unfold start at h2
      rw [List.getElem?_append_left (by simpa using hi), List.getElem?_map] at h2
      cases e : vs[i]? with
      | none => rw [e] at h2; cases h2
      | some a => rw [e] at h2; cases h2; rfl
    obtain ⟨u, hu, rv⟩ := r.get ha
    have hp : ps[i]? = some y := by
      rw [← S.pre, List.getElem?_take_of_lt (by omega)]; exact h1
    have ndP : ps.Nodup := by rw [← S.pre]; exact S.nd.sublist (List.take_sublist _ _)
    refine ⟨u, rv, ?_⟩
    rcases S.par y (List.mem_of_getElem? hp) with k | k
    · exact .inl ⟨k, bindL_get ndP hp hu k⟩
    · obtain ⟨c, e⟩ := cell_has (n := s.heap.objs.size + 1) k
      refine .inr ⟨.inl k, c, e, ?_⟩
      have q := x.cell y c e
      rw [bindC_get ndP hp hu (by show scope.names.lookup y ≠ _; rw [k]; decide)] at q
      exact q
  · exact e0.hok.fresh (Nat.le_of_lt (x.above y c (PySem.mem_of_lookup h)))
  · unfold start
    show _ = N.length
    rw [List.length_append, List.length_map, List.length_replicate]
    omega

/-- THE RULE: a def (or a method) of the text, by its body. The body's reading t is chosen for each entry; it is run at the parameters' values -/
theorem fn_of {CX : CXT} {P : Program} {w : World} {K : PySem.W.Frag} {mg : Str → Option Value} {base : Heap} {k : Nat} {f : Addr} {name qual : Str} {params : Arguments} {body : List Stmt} {scope : Scope} {dV kV doc pm cdv ct oc : Value} {an od : Option Addr}
    {osl : Array (Option Value)} {N ps : List Str} {sp : Sp} (lk : K.lookup f = some ⟨oc, od, .func (PySem.W.fnOf name qual params body scope dV kV doc pm an cdv ct), osl⟩) (hcd : PySem.W.codeIn K cdv qual = true) (S : FnScope N ps scope)
    (len : ∀ vs H Q E, sp vs H Q E → vs.length = ps.length)
    (hbody : ∀ (A : Around) (outer : List Env) (s : Shared) (H : Hp) (vs : List V) (Q : VK) (E : XK), Room k (A.deeper (envOfC qual scope s.heap.objs.size f cdv)) → sp vs H Q E →
      ∃ t, PSs (cxOf CX P w K mg base N qual scope f cdv A outer s H E) body t ∧ t { nx := fun _ H' => Q .non H', rt := Q } (start N vs) H) :
    FnOk P w K mg base CX (k + 1) f (PySem.W.fnOf name qual params body scope dV kV doc pm an cdv ct) ps sp := by
  refine ⟨len, fun A outer s H args us vs Q E hr e0 hb r hsp => ?_⟩
  have hl := len _ _ _ _ hsp
  have KX : K.In s.heap := e0.mod.kin.keeps fun b o e => (e0.bs b o e).1
  have lim : s.heap.NoLimit := e0.mod.nolimit.keeps fun b o e => (e0.bs b o e).1
  have hkind : ∀ y ∈ ps.zip us, scope.names.lookup y.1 = some .local ∨ (scope.names.lookup y.1 = some .cell ∧ ((cellsFrom (s.heap.objs.size + 1) scope.names []).lookup y.1).isSome = true) := fun ⟨n, v⟩ hy => by
    rcases S.par n (List.of_mem_zip hy).1 with q | q
    · exact .inl q
    · exact .inr ⟨q, PySem.W.cellsFrom_some _ _ _ (.inl q)⟩
  refine codeAny_call_function hr.depth (KX _ _ lk) rfl S.co S.gen rfl (PySem.W.codeRec_of KX hcd) (hb _ _ _ _ ?_)
  refine wpAny_newFunctionEnv_cells S.kind hkind fun env he s1 x => ?_
  subst he
  refine ⟨lim.keeps x.toInCall.keep, codeAny_func ?_⟩
  obtain ⟨t, ht, hq⟩ := hbody A outer s H vs Q E (hr.deeper _) hsp
  have I : Inv (cxOf CX P w K mg base N qual scope f cdv A outer s H E) [] (start N vs) H s1 := inv_start S hr.hd e0 hl r x
  refine wpAny_mono (ht [] s1 (start N vs) H _ I hq) (fun fl s' hs => ?_) fun e s' hs => hs
  have fin : ∀ {σ' : St} {H' : Hp} {v : V} {u : Value}, Inv (cxOf CX P w K mg base N qual scope f cdv A outer s H E) [] σ' H' s' → RelV v u → Q v H' → CE outer P w H s Q u s' :=
    fun {σ' H' v u} J rv q => ⟨v, H', J.os, J.bare, J.base, J.hok, rv, q⟩
  cases fl with
  | ret u =>
    obtain ⟨v, σ', H', J, rv, q⟩ := hs
    exact fin J rv q
  | next =>
    obtain ⟨σ', H', J, q⟩ := hs
    exact fin (v := V.non) (u := Value.none) J rfl q
  | brk =>
    obtain ⟨_, _, _, q⟩ := hs
    exact False.elim q
  | cont =>
    obtain ⟨_, _, _, q⟩ := hs
    exact False.elim q
end L2

namespace L2
open PySem PySem.Spec PyProof.Rows
section
variable {X : Cx} {x : Str} {p pos : Pos} {e : Expr} {es : List Expr} {t : TA} {id T : String} {r : List V → Hp → VK → Prop}

def tCB (r : List V → Hp → VK → Prop) (t : TA) : TE := fun σ H Q => t σ H fun vs H1 => r vs H1 Q
/-- f(e, ..), f a built-in function -/
theorem pe_callB (hc : CallR X (.builtin id) r) (hg : Gl X x) (hm : X.mg x = none) (hv : bootBuiltins x = some (.builtin id)) (ha : PA X (e :: es) t) (hn : x ≠ "__name__" := by decide) (hdb : (x == ("__debug__" : Str)) = false := by decide)
    (he : starEach (e :: es) X.env = (false, eval e X.env) :: starEach es X.env := by rfl) (hpl : (backTo pos (starEach es X.env)).any (·.1) = false := by rfl) : PE X (.Call (.Name x p) (e :: es) [] pos) (tCB r t) := by
  intro pins s σ H Q I h
  refine wpAny_Call_Name_kw (ld_blt I hg hm hv ?_ hn hdb)
  exact PyProof.Rows.callWith_builtin1 (thn (ha pos pins s σ H _ I h) fun us s1 ⟨vs, H1, I1, r1, q1⟩ => hc pins s1 σ H1 vs us Q I1 r1 q1) he hpl
/-- T(e, ..), T a built-in type -/
theorem pe_callTy (hc : CallR X (.type T) r) (hg : Gl X x) (hm : X.mg x = none) (hv : bootBuiltins x = some (.type T)) (ha : PA X (e :: es) t) (hn : x ≠ "__name__" := by decide) (hdb : (x == ("__debug__" : Str)) = false := by decide)
    (he : starEach (e :: es) X.env = (false, eval e X.env) :: starEach es X.env := by rfl) (hpl : (backTo pos (starEach es X.env)).any (·.1) = false := by rfl) : PE X (.Call (.Name x p) (e :: es) [] pos) (tCB r t) := by
  intro pins s σ H Q I h
  refine wpAny_Call_Name_kw (ld_blt I hg hm hv ?_ hn hdb)
  exact PyProof.Rows.callWith_type1 (thn (ha pos pins s σ H _ I h) fun us s1 ⟨vs, H1, I1, r1, q1⟩ => hc pins s1 σ H1 vs us Q I1 r1 q1) he hpl
end
end L2

namespace HT
open PySem PyProof.Rows



section
open PySem.SeqAt
open PySem.AutoSeq1 (wpAny_loadPart')
open PySem.MeetsSeq PySem.MeetsSeq2 PySem.MeetsSeq3

end

section
variable {prog : Program} {w : World} {A : Around} {E : Value → Shared → Prop} {s : Shared}



/-! ### t[a:b], not the whole -/
/-- a slice's bound as a place among n (d where it is left out) -/
def sIx (n d : Nat) : Option Int → Nat
  | none => d
  | some v => if v < 0 then (v + (n : Int)).toNat else min v.toNat n
theorem sIx_none (n d : Nat) : sIx n d none = d := rfl
theorem sIx_nat (n d k : Nat) : sIx n d (some (k : Int)) = min k n := by
  show (if (k : Int) < 0 then ((k : Int) + (n : Int)).toNat else min (k : Int).toNat n) = min k n
  rw [if_neg (by omega), Int.toNat_natCast]

end
end HT

namespace L2
open PySem PySem.Spec PyProof.Rows

/-! ### the parts of a slice -/
abbrev TO := St → Hp → (Option Int → Hp → Prop) → Prop
/-- a slice's part (left out, or an int) -/
def PO (X : Cx) (e : Option Expr) (t : TO) : Prop :=
  ∀ (pins : List (Addr × Obj)) (s : Shared) (σ : St) (H : Hp) (Q : Option Int → Hp → Prop), Inv X pins σ H s → t σ H Q →
    wpAny (model X.prog X.w) X.A (evalPart e X.env) (fun u s' => ∃ o H', Inv X pins σ H' s' ∧ IsPart u o ∧ Q o H') X.xe s
def tNoPart : TO := fun _ H Q => Q none H
def tPart (t : TE) : TO := fun σ H Q => t σ H fun x H1 => ∃ i, x = .int i ∧ Q (some i) H1


section
variable {X : Cx} {e : Expr} {te : TE} {lo hi : Option Expr} {tl th : TO} {pos p2 : Pos}

theorem po_none : PO X none tNoPart := by
  intro pins s σ H Q I h
  rw [evalPart_none]
  exact wpAny_pure ⟨none, H, I, .none, h⟩
theorem po_some (h : PE X e te) : PO X (some e) (tPart te) := by
  intro pins s σ H Q I hw
  rw [evalPart_some]
  refine thn (h pins s σ H _ I hw) fun u s1 ⟨x, H1, I1, r1, q1⟩ => ?_
  obtain ⟨i, rfl, q⟩ := q1
  obtain ⟨t, rfl⟩ := r1
  exact ⟨some i, H1, I1, .int i t, q⟩

/-- what a slice of a value is, by values: the slice object stands at sl -/
def SlR (X : Cx) (r : V → Option Int → Option Int → Hp → VK → Prop) : Prop :=
  ∀ (pins : List (Addr × Obj)) (s : Shared) (σ : St) (H : Hp) (x : V) (v vl vu : Value) (lo hi : Option Int) (sl : Addr) (Q : VK), Inv X pins σ H s → RelV x v → s.heap.IsSliceOf sl vl vu .none → IsPart vl lo → IsPart vu hi → r x lo hi H Q →
    ∃ T id, typeLookup (.type T) "__getitem__" = pure (some (.builtin id)) ∧ s.TypeIs v T ∧ wpAny (model X.prog X.w) X.A (getItem v (.ref sl)) (EP X pins σ Q) X.xe s
theorem SlR.or {r r' : V → Option Int → Option Int → Hp → VK → Prop} (h : SlR X r) (h' : SlR X r') : SlR X (fun x lo hi H Q => r x lo hi H Q ∨ r' x lo hi H Q) := by
  intro pins s σ H x v vl vu lo hi sl Q I rx hs pl pu q
  rcases q with q | q
  · exact h pins s σ H x v vl vu lo hi sl Q I rx hs pl pu q
  · exact h' pins s σ H x v vl vu lo hi sl Q I rx hs pl pu q
def tSl (r : V → Option Int → Option Int → Hp → VK → Prop) (te : TE) (tl th : TO) : TE := fun σ H Q => te σ H fun x H1 => tl σ H1 fun l H2 => th σ H2 fun u H3 => r x l u H3 Q
/-- a[lo:hi], any a -/
theorem pe_slice {r : V → Option Int → Option Int → Hp → VK → Prop} (hr : SlR X r) (he : PE X e te) (hl : PO X lo tl) (hu : PO X hi th) : PE X (.Subscript e (.Slice lo hi none p2) pos) (tSl r te tl th) := by
  intro pins s σ H Q I h
  refine Subscript_ (thn (he pins s σ H _ I h) fun v s1 ⟨x, H1, I1, r1, q1⟩ => ?_)
  refine wpAny_Slice (thn (hl pins s1 σ H1 _ I1 q1) fun vl s2 ⟨l, H2, I2, pl, q2⟩ => thn (hu pins s2 σ H2 _ I2 q2) fun vu s3 ⟨u, H3, I3, pu, q3⟩ => ?_)
  rw [evalPart_none]
  refine wpAny_pure ?_
  have I4 : Inv X pins σ H3 { s3 with heap := s3.heap.push { cls := .type "slice", data := .fields #[vl, vu, .none] } } := I3.kept (t' := s3.toks) fun b ob q => Heap.get?_push_of_some _ q
  obtain ⟨T, id, hT, ht, hg⟩ := hr pins { s3 with heap := s3.heap.push { cls := .type "slice", data := .fields #[vl, vu, .none] } } σ H3 x v vl vu l u s3.heap.objs.size Q I4 r1 (Heap.IsSliceOf.new ..) pl pu q3
  show wpAny (model X.prog X.w) X.A (subscriptTail e (.Slice lo hi none p2) v (.ref s3.heap.objs.size)) (EP X pins σ Q) X.xe { s3 with heap := s3.heap.push { cls := .type "slice", data := .fields #[vl, vu, .none] } }
  exact tail_any (ops := [.ref s3.heap.objs.size, v]) ht hT hg (by with_unfolding_all rfl)

/-- the items of xs[lo:hi] -/
def cutV (xs : List V) (lo hi : Option Int) : List V := (xs.drop (HT.sIx xs.length 0 lo)).take (HT.sIx xs.length xs.length hi - HT.sIx xs.length 0 lo)
theorem cutV_length (xs : List V) (lo hi : Option Int) : (cutV xs lo hi).length ≤ xs.length := by
  unfold cutV
  rw [List.length_take, List.length_drop]
  omega

/-! ### t < u, t + u -/
end
end L2

namespace L2
open PySem PySem.Spec PyProof.Rows

/-! ### places -/
/-- the place that an index of any sign means -/
def ixN (n : Nat) (i : Int) : Option Nat := if 0 ≤ i then (if i < n then some i.toNat else none) else if -(n : Int) ≤ i then some (i + n).toNat else none
def atI {α : Type} (xs : List α) (i : Int) : Option α := (ixN xs.length i).bind fun j => xs[j]?
theorem ixN_seq {n : Nat} {i : Int} {j : Nat} (h : ixN n i = some j) : seqIndex? i n = some j ∧ j < n ∧ -(n : Int) ≤ i ∧ i < n := by
  unfold ixN at h
  by_cases h0 : 0 ≤ i
  · rw [if_pos h0] at h
    by_cases h1 : i < n
    · rw [if_pos h1] at h
      have e : i.toNat = j := Option.some.inj h
      exact ⟨by rw [seqIndex_of h0 h1, e], by omega, by omega, h1⟩
    · rw [if_neg h1] at h; cases h
  · rw [if_neg h0] at h
    by_cases h1 : -(n : Int) ≤ i
    · rw [if_pos h1] at h
      have e : (i + n).toNat = j := Option.some.inj h
      exact ⟨by rw [seqIndex_neg (by omega) h1, e], by omega, h1, by omega⟩
    · rw [if_neg h1] at h; cases h
theorem atI_get {α : Type} {xs : List α} {i : Int} {v : α} (h : atI xs i = some v) : ∃ j, seqIndex? i xs.length = some j ∧ xs[j]? = some v ∧ j < xs.length ∧ -(xs.length : Int) ≤ i ∧ i < xs.length := by
  unfold atI at h
  cases e : ixN xs.length i with
  | none => rw [e] at h; cases h
  | some j =>
    rw [e] at h
    obtain ⟨h1, h2, h3, h4⟩ := ixN_seq e
    exact ⟨j, h1, h, h2, h3, h4⟩
theorem atI_nat {α : Type} {xs : List α} {j : Nat} {v : α} (h : xs[j]? = some v) : atI xs (j : Int) = some v := by
  have hj : j < xs.length := (List.getElem?_eq_some_iff.mp h).1
  have e : ixN xs.length (j : Int) = some j := by
    unfold ixN
    rw [if_pos (by omega), if_pos (by omega)]; simp
  unfold atI; rw [e]; exact h

/-! ### what may be subscripted -/
/-- what stands as an index of a plain subscript -/
def PlainIx (b : Expr) : Prop := ∀ o i, subscripted b false o i = operate [o, i] (getItem o i)
/-- a subscript by values -/
def IxR (X : Cx) (r : R2) : Prop :=
  ∀ (value slice : Expr) (pins : List (Addr × Obj)) (s : Shared) (σ : St) (H : Hp) (x y : V) (v u : Value) (Q : VK), Inv X pins σ H s → RelV x v → RelV y u → r x y H Q →
    subscripted slice false v u = operate [v, u] (getItem v u) → wpAny (model X.prog X.w) X.A (subscriptTail value slice v u) (EP X pins σ Q) X.xe s
/-- a call of a builtin's method by values: the receiver, the arguments -/
def MtR (X : Cx) (id : String) (r : V → List V → Hp → VK → Prop) : Prop :=
  ∀ (pins : List (Addr × Obj)) (s : Shared) (σ : St) (H : Hp) (x : V) (xs : List V) (v : Value) (us : List Value) (Q : VK), Inv X pins σ H s → RelV x v → Vals xs us → r x xs H Q →
    wpAny (model X.prog X.w) X.A (call (.builtin id) (v :: us)) (EP X pins σ Q) X.xe s
section
variable {X : Cx} {a b : Expr} {ta tb : TE} {pos : Pos}
theorem IxR.or {r r' : R2} (h : IxR X r) (h' : IxR X r') : IxR X (fun x y H Q => r x y H Q ∨ r' x y H Q) := by
  intro value slice pins s σ H x y v u Q I rx ry q hs
  rcases q with q | q
  · exact h value slice pins s σ H x y v u Q I rx ry q hs
  · exact h' value slice pins s σ H x y v u Q I rx ry q hs
theorem MtR.or {id : String} {r r' : V → List V → Hp → VK → Prop} (h : MtR X id r) (h' : MtR X id r') : MtR X id (fun x xs H Q => r x xs H Q ∨ r' x xs H Q) := by
  intro pins s σ H x xs v us Q I rx rs q
  rcases q with q | q
  · exact h pins s σ H x xs v us Q I rx rs q
  · exact h' pins s σ H x xs v us Q I rx rs q
/-- a[b] -/
theorem pe_ix {r : R2} (hr : IxR X r) (ha : PE X a ta) (hb : PE X b tb) (hs : PlainIx b) : PE X (.Subscript a b pos) (tOp r ta tb) := by
  intro pins s σ H Q I h
  exact Subscript_ (binT ha hb I h fun v u s2 x y H2 I2 rx ry q => hr a b pins s2 σ H2 x y v u Q I2 rx ry q (hs _ _))

def rIxL (K : PySem.W.Frag) : R2 := fun x y H Q => ∃ p xs i v, x = .ref p ∧ y = .int i ∧ SqL K H p xs ∧ atI xs i = some v ∧ Q v H
def rIxT (K : PySem.W.Frag) : R2 := fun x y H Q => ∃ p xs i v, x = .ref p ∧ y = .int i ∧ SqT K H p xs ∧ atI xs i = some v ∧ Q v H
def rIxS : R2 := fun x y H Q => ∃ z i c, x = .str z ∧ y = .int i ∧ z.length ≤ sizeLine ∧ atI z.cps.toList i = some c ∧ Q (.str ⟨#[c]⟩) H
theorem ix_list : IxR X (rIxL X.K) := by
  intro value slice pins s σ H x y v u Q I rx ry h hs
  obtain ⟨p, xs, i, z, rfl, rfl, hq, he, q⟩ := h
  cases rx
  obtain ⟨t, rfl⟩ := ry
  obtain ⟨its, r, pl, hz⟩ := I.list hq
  obtain ⟨j, h1, h2, h3, h4, h5⟩ := atI_get he
  obtain ⟨w, ew, rw'⟩ := r.get h2
  have hl := r.length
  have hn := line63
  have fin : EP X pins σ Q w s := ⟨z, H, I, rw', q⟩
  by_cases h0 : 0 ≤ i
  · have hj : i.toNat = j := by
      rw [seqIndex_of h0 h5] at h1
      exact Option.some.inj h1
    exact item_listR pl.isList h0 (by omega) (by rw [hj]; simpa using ew) fin hs
  · have hj : (i + (its.toArray.size : Int)).toNat = j := by
      rw [seqIndex_neg (by omega) h4] at h1
      rw [List.size_toArray, ← hl]
      exact Option.some.inj h1
    exact subscriptTail_builtinR (x := w) pl.isList.typeIs slot_list_getitem.lookup
      (wpAny_getItem_list_neg (Q := fun r s' => r = w ∧ EP X pins σ Q r s') pl.isList (by omega) (by rw [List.size_toArray] <;> omega) (by omega) (by rw [hj]; simpa using ew) ⟨rfl, fin⟩) hs
theorem ix_tup : IxR X (rIxT X.K) := by
  intro value slice pins s σ H x y v u Q I rx ry h hs
  obtain ⟨p, xs, i, z, rfl, rfl, hq, he, q⟩ := h
  cases rx
  obtain ⟨t, rfl⟩ := ry
  obtain ⟨its, r, pl, hz⟩ := I.tuple hq
  obtain ⟨j, h1, h2, h3, h4, h5⟩ := atI_get he
  obtain ⟨w, ew, rw'⟩ := r.get h2
  have hl := r.length
  have hn := line63
  have fin : EP X pins σ Q w s := ⟨z, H, I, rw', q⟩
  exact subscriptTail_builtinR (x := w) pl.typeIs slot_tuple_getitem.lookup
    (getItem_tuple (j := j) (Q := fun r s' => r = w ∧ EP X pins σ Q r s') pl (by omega) (by omega) (by rw [List.size_toArray, ← hl]; exact h1) (by simpa using ew) ⟨rfl, fin⟩) hs
theorem ix_str : IxR X rIxS := by
  intro value slice pins s σ H x y v u Q I rx ry h hs
  obtain ⟨z, i, c, rfl, rfl, hz, he, q⟩ := h
  obtain ⟨t, rfl⟩ := rx
  obtain ⟨t', rfl⟩ := ry
  obtain ⟨j, h1, h2, h3, h4, h5⟩ := atI_get he
  have hl : z.cps.toList.length = z.length := by simp [Str.length]
  rw [hl] at h1 h4 h5
  have hn := line63
  exact tail_any (typeIs_str s z t) slot_str_getitem.lookup (getItem_str (c := c) (by
    have e1 : decide (i < -(2 ^ 63 : Int)) = false := decide_eq_false (by omega)
    have e2 : decide (i ≥ 2 ^ 63) = false := decide_eq_false (by omega)
    rw [e1, e2, Bool.or_false]) (by rw [h1]; simpa using h2) ⟨.str ⟨#[c]⟩, H, I.tok _, ⟨_, rfl⟩, q⟩) hs
/-- list, tuple or str -/
def rIx (K : PySem.W.Frag) : R2 := fun x y H Q => rIxL K x y H Q ∨ rIxT K x y H Q ∨ rIxS x y H Q
theorem ix_seq : IxR X (rIx X.K) := ix_list.or (ix_tup.or ix_str)

/-! ### xs[i] = v, any sign -/
theorem Inv.lst {pins : List (Addr × Obj)} {σ : St} {H : Hp} {s : Shared} {p : Addr} {xs : List V} (I : Inv X pins σ H s) (h : H p = some (.lst xs)) :
    ∃ (its : List Value) (n : Nat), Vals xs its ∧ s.heap.get? p = some { cls := .type "list", data := .seq its.toArray n } ∧ xs.length ≤ sizeLine := by
  obtain ⟨z, its, n, r, e⟩ := I.hok p _ h
  exact ⟨its, n, r, e, z⟩

/-! ### slices -/
theorem slice_bounds (lo hi : Option Int) (n : Nat) : (sliceBounds lo hi none n).1 = ((HT.sIx n 0 lo : Nat) : Int) ∧ (sliceBounds lo hi none n).2.1 = ((HT.sIx n n hi : Nat) : Int) ∧ (sliceBounds lo hi none n).2.2 = 1 := by
  refine ⟨?_, ?_, rfl⟩
  · cases lo with
    | none => simp [sliceBounds, HT.sIx]
    | some i =>
      simp only [sliceBounds, HT.sIx, Option.getD_none, show (1 : Int) > 0 by decide, if_true]
      by_cases h : i < 0
      · simp only [h, if_true] <;> omega
      · simp only [h, if_false] <;> omega
  · cases hi with
    | none => simp [sliceBounds, HT.sIx]
    | some i =>
      simp only [sliceBounds, HT.sIx, Option.getD_none, show (1 : Int) > 0 by decide, if_true]
      by_cases h : i < 0
      · simp only [h, if_true] <;> omega
      · simp only [h, if_false] <;> omega
theorem slicePick_cut (its : List Value) (lo hi : Option Int) : slicePick its.toArray lo hi none = ((its.drop (HT.sIx its.length 0 lo)).take (HT.sIx its.length its.length hi - HT.sIx its.length 0 lo)).toArray := by
  obtain ⟨h1, h2, h3⟩ := slice_bounds lo hi its.toArray.size
  unfold slicePick
  rw [h1, h2, h3]
  simp only [sliceRange_one, pick_run, List.size_toArray] <;> rfl
/-- xs[lo:hi] of a list: a new list -/
def rSlL (K : PySem.W.Frag) : V → Option Int → Option Int → Hp → VK → Prop := fun x lo hi H Q => ∃ a xs, x = .ref a ∧ SqL K H a xs ∧ ∀ p, H p = none → Q (.ref p) (upd H p (.lst (cutV xs lo hi)))
theorem sl_list : SlR X (rSlL X.K) := by
  intro pins s σ H x v vl vu lo hi sl Q I rx hs pl pu h
  obtain ⟨a, xs, rfl, hx, q⟩ := h
  cases rx
  obtain ⟨its, r, ht, hz⟩ := I.list hx
  have hlen := r.length
  refine ⟨"list", _, slot_list_getitem.lookup, ht.isList.typeIs, ?_⟩
  refine wpAny_getItem_list_slice ht.isList hs pl pu .none (by simp) ?_ (by rw [List.size_toArray] <;> omega)
  rw [slicePick_cut, ← hlen]
  refine ⟨.ref s.heap.objs.size, _, I.laid (t' := s.toks) (o := .lst (cutV xs lo hi)) (fun b ob q => Heap.get?_push_of_some _ q) (Nat.le_refl _) ?_, rfl, q _ (I.hok.fresh (Nat.le_refl _))⟩
  exact ⟨Nat.le_trans (cutV_length xs lo hi) hz, _, 0, (r.drop (HT.sIx xs.length 0 lo)).take (HT.sIx xs.length xs.length hi - HT.sIx xs.length 0 lo), Heap.get?_push_size _ rfl⟩

/-! ### in, not in: flat items -/

/-! ### len, list(x), tuple(x) of any list or tuple that is read -/
theorem call_len_seq : CallR X (.builtin "len") (fun xs H Q => ∃ p ys, xs = [.ref p] ∧ (SqL X.K H p ys ∨ SqT X.K H p ys) ∧ Q (.int ys.length) H) := by
  intro pins s σ H xs us Q I r h
  obtain ⟨p, ys, rfl, hq, q⟩ := h
  obtain ⟨u, rfl, rx⟩ := vals1 r
  cases rx
  have hn := line63
  rcases hq with hq | hq
  · obtain ⟨its, r', pl, hz⟩ := I.list hq
    have hlen := r'.length
    exact Calls.call_len_list pl.isList (by simp only [List.size_toArray] <;> omega) ⟨.int ys.length, H, I.tok _, ⟨s.toks + 1, by rw [List.size_toArray, hlen]⟩, q⟩
  · obtain ⟨its, r', pl, hz⟩ := I.tuple hq
    have hlen := r'.length
    exact len_tuple pl (by simp only [List.size_toArray] <;> omega) ⟨.int ys.length, H, I.tok _, ⟨s.toks + 1, by rw [List.size_toArray, hlen]⟩, q⟩
theorem CallR.or {f : Value} {r r' : List V → Hp → VK → Prop} (h : CallR X f r) (h' : CallR X f r') : CallR X f (fun xs H Q => r xs H Q ∨ r' xs H Q) := by
  intro pins s σ H xs us Q I rs q
  rcases q with q | q
  · exact h pins s σ H xs us Q I rs q
  · exact h' pins s σ H xs us Q I rs q
theorem call_list_of : CallR X (.type "list") (fun xs H Q => ∃ p ys, xs = [.ref p] ∧ (SqL X.K H p ys ∨ SqT X.K H p ys) ∧ ∀ l, H l = none → Q (.ref l) (upd H l (.lst ys))) := by
  intro pins s σ H xs us Q I r h
  obtain ⟨p, ys, rfl, hq, q⟩ := h
  obtain ⟨u, rfl, rx⟩ := vals1 r
  cases rx
  have fin : ∀ (its : List Value), Vals ys its → ys.length ≤ sizeLine → ∀ (h' : Heap) (c' : Nat), (∀ b o', s.heap.get? b = some o' → h'.get? b = some o') →
      h'.get? s.heap.objs.size = some { cls := .type "list", dict := none, data := .seq its.toArray c', slots := #[] } → EP X pins σ Q (.ref s.heap.objs.size) { s with heap := h' } := fun its r' hz h' c' kp e =>
    ⟨.ref s.heap.objs.size, _, I.laid (t' := s.toks) kp (Nat.le_refl _) (show ObjOk X.prog X.w _ h' _ (.lst ys) from ⟨hz, its, c', r', e⟩), rfl, q _ (I.hok.fresh (Nat.le_refl _))⟩
  rcases hq with hq | hq
  · obtain ⟨its, r', pl, hz⟩ := I.list hq
    have hlen := r'.length
    obtain ⟨o, ho, hc, n, hd⟩ := pl.isList
    exact call_list_seq p (.inl rfl) ho hc hd (fun h' c' kp e => fin its r' hz h' c' kp e) (by simp only [List.size_toArray] <;> omega)
  · obtain ⟨its, r', pl, hz⟩ := I.tuple hq
    have hlen := r'.length
    obtain ⟨o, ho, hc, n, hd⟩ := pl
    exact call_list_seq p (.inr rfl) ho hc hd (fun h' c' kp e => fin its r' hz h' c' kp e) (by simp only [List.size_toArray] <;> omega)

/-! ### the call of a builtin's method: o.m(..) -/
/-- the value is of that builtin type -/
def tyV (K : PySem.W.Frag) (T : String) (x : V) (H : Hp) : Prop := match x with
  | .str _ => T = "str"
  | .int _ => T = "int"
  | .ref p => (T = "list" ∧ ∃ xs, SqL K H p xs) ∨ (T = "tuple" ∧ ∃ o, K.lookup p = some o ∧ o.cls = .type "tuple" ∧ o.dict = none) ∨
      (T = "dict" ∧ ((∃ kvs, H p = some (.dK kvs)) ∨ ∃ kvs, H p = some (.dT kvs))) ∨ (T = "set" ∧ ∃ S n, H p = some (.set S n))
  | _ => False
theorem tyV_is {pins : List (Addr × Obj)} {σ : St} {H : Hp} {s : Shared} {T : String} {x : V} {v : Value} (I : Inv X pins σ H s) (r : RelV x v) (ty : tyV X.K T x H) :
    s.TypeIs v T ∧ ∀ a, v = .ref a → ∃ ob, s.heap.get? a = some ob ∧ ob.dict = none := by
  cases x with
  | str z =>
    obtain ⟨t, rfl⟩ := r
    cases (show T = "str" from ty)
    exact ⟨typeIs_str s z t, fun _ e => nomatch e⟩
  | int i =>
    obtain ⟨t, rfl⟩ := r
    cases (show T = "int" from ty)
    exact ⟨typeIs_int s i t, fun _ e => nomatch e⟩
  | ref p =>
    cases r
    rcases ty with ⟨rfl, xs, hq⟩ | ⟨rfl, o, hk, hc, hd⟩ | ⟨rfl, hk⟩ | ⟨rfl, S, n, hk⟩
    · obtain ⟨its, _, pl, _⟩ := I.list hq
      refine ⟨pl.isList.typeIs, fun a e => ?_⟩
      cases e
      obtain ⟨o, n, e, c, hd, _⟩ := pl
      exact ⟨o, e, hd⟩
    · refine ⟨⟨o, I.kIn p o hk, hc⟩, fun a e => ?_⟩
      cases e
      exact ⟨o, I.kIn _ o hk, hd⟩
    · have z : ∃ o, s.heap.get? p = some o ∧ o.ExactDict := by
        rcases hk with ⟨kvs, hk⟩ | ⟨kvs, hk⟩
        · obtain ⟨_, _, _, _, o, _, _, e, ex, _⟩ := I.hok p _ hk
          exact ⟨o, e, ex⟩
        · obtain ⟨_, _, _, _, o, _, _, e, ex, _⟩ := I.hok p _ hk
          exact ⟨o, e, ex⟩
      obtain ⟨o, e, ex⟩ := z
      refine ⟨⟨o, e, ex.1⟩, fun a e2 => ?_⟩
      cases e2
      exact ⟨o, e, ex.2.1⟩
    · obtain ⟨o, _, _, _, e, ex, _⟩ := I.hok p _ hk
      refine ⟨⟨o, e, ex.1⟩, fun a e2 => ?_⟩
      cases e2
      exact ⟨o, e, ex.2.1⟩
  | _ => exact False.elim ty
def tBM0 (K : PySem.W.Frag) (T : String) (r : V → List V → Hp → VK → Prop) (to : TE) : TE := fun σ H Q => to σ H fun x H1 => tyV K T x H1 ∧ r x [] H1 Q
def tBM (K : PySem.W.Frag) (T : String) (r : V → List V → Hp → VK → Prop) (to : TE) (t : TA) : TE := fun σ H Q => to σ H fun x H1 => tyV K T x H1 ∧ t σ H1 fun xs H2 => r x xs H2 Q
variable {o e : Expr} {es : List Expr} {to : TE} {t : TA} {name : Str} {apos cpos : Pos} {T id : String} {r : V → List V → Hp → VK → Prop}
theorem pe_bm0 (pa : PlainAttrs T) (slot : Slot T name id) (hty : typeOf (.builtin id) = pure (.type "method_descriptor")) (hm : MtR X id r) (ho : PE X o to)
    (hbase : attributeBase o name X.env (eval o X.env) = eval o X.env := by rfl) (hline : (apos.endLine == cpos.line) = true := by rfl) : PE X (.Call (.Attribute o name apos) [] [] cpos) (tBM0 X.K T r to) := by
  intro pins s σ H Q I h
  refine wpAny_Call_method0_late hbase hline (thn (ho pins s σ H _ I h) fun v s1 ⟨x, H1, I1, r1, ty, q1⟩ => ?_)
  obtain ⟨h1, h2⟩ := tyV_is I1 r1 ty
  exact ⟨T, id, pa, slot, hty, h1, h2, Calls.callWith_builtin rfl (PySem.evalArgs_none (hm pins s1 σ H1 x [] v [] Q I1 r1 .nil q1))⟩
theorem pe_bm (pa : PlainAttrs T) (slot : Slot T name id) (hty : typeOf (.builtin id) = pure (.type "method_descriptor")) (hm : MtR X id r) (ho : PE X o to) (ha : PA X (e :: es) t)
    (hbase : attributeBase o name X.env (eval o X.env) = eval o X.env := by rfl)
    (hfew : ((backTo cpos (starEach (e :: es) X.env)).all (fun x => !x.1) && (backToKw cpos (keywordEach [] X.env)).all (fun x => x.1.isSome)
      && decide ((e :: es).length + ([] : List Keyword).length + (if ([] : List Keyword).isEmpty then 0 else 1) < 30)) = true := by rfl)
    (hline : (apos.endLine == cpos.line) = true := by rfl) (hs : starEach (e :: es) X.env = (false, eval e X.env) :: starEach es X.env := by rfl) (hplain : (backTo cpos (starEach es X.env)).any (·.1) = false := by rfl) :
    PE X (.Call (.Attribute o name apos) (e :: es) [] cpos) (tBM X.K T r to t) := by
  intro pins s σ H Q I h
  refine wpAny_Call_method_late hbase hfew hline rfl (thn (ho pins s σ H _ I h) fun v s1 ⟨x, H1, I1, r1, ty, q1⟩ => ?_)
  obtain ⟨h1, h2⟩ := tyV_is I1 r1 ty
  refine ⟨T, id, pa, slot, hty, h1, h2, ?_⟩
  have hA := ha cpos pins s1 σ H1 _ I1 q1
  rw [hs] at hA ⊢
  refine Calls.callWith_builtin (by show (false || (backTo cpos (starEach es X.env)).any (·.1)) = false; rw [hplain] <;> rfl) (Calls.evalArgs_plain ?_)
  exact thn hA fun us s2 ⟨vs, H2, I2, r2, q2⟩ => hm pins s2 σ H2 x vs v us Q I2 r1 r2 q2
/- xs.append(e), list.index on a module's tuple .. are MtR facts of 06m -/
end
end L2

namespace L2
open PySem PySem.Spec PyProof.Rows

def MtM (X : Cx) (id : String) (r : V → List V → Hp → VK → Prop) : Prop :=
  ∀ (pins : List (Addr × Obj)) (s : Shared) (σ : St) (H : Hp) (x : V) (xs : List V) (v : Value) (us : List Value) (Q : VK), Inv X pins σ H s → RelV x v → Vals xs us → r x xs H Q →
    wpAny (model X.prog X.w) X.A (call (.builtin id) (v :: us)) (EP X pins σ Q) X.xe s

/-! ### lists of values -/
theorem Vals.one : ∀ {x : V} {us : List Value}, Vals [x] us → ∃ u, us = [u] ∧ RelV x u
  | _, _, .cons r .nil => ⟨_, rfl, r⟩
theorem Vals.two : ∀ {x y : V} {us : List Value}, Vals [x, y] us → ∃ u v, us = [u, v] ∧ RelV x u ∧ RelV y v
  | _, _, _, .cons r (.cons q .nil) => ⟨_, _, rfl, r, q⟩
theorem Vals.zero : ∀ {us : List Value}, Vals [] us → us = []
  | _, .nil => rfl

section
variable {X : Cx} {pins : List (Addr × Obj)} {σ : St} {H : Hp} {s : Shared} {l b : Addr} {xs ys zs : List V}

/-! ### the two steps: a tracked list is rewritten, a new list is laid -/
theorem Inv.lset {its its' : List Value} {n : Nat} {f : Array Value → Array Value} {t' : Nat} (I : Inv X pins σ H s) (hH : H l = some (.lst xs))
    (e : s.heap.get? l = some { cls := .type "list", data := .seq its.toArray n }) (hf : f its.toArray = its'.toArray) (hv : Vals ys its') (hz : ys.length ≤ sizeLine) :
    Inv X pins σ (upd H l (.lst ys)) { s with heap := s.heap.update l (Obj.mapSeq f), toks := t' } := by
  have q := PySem.IsL.update e f
  rw [hf] at q
  refine I.write (x := l) (e := l) (by rw [hH]; exact trivial) (.inl rfl) (fun b' u hb hu => (Heap.get?_update_other s.heap (Obj.mapSeq f) (Ne.symm hb)).trans hu) ⟨_, q⟩ ?_
  exact ⟨hz, its', _, hv, q⟩
theorem Inv.lnew {its : List Value} {t' : Nat} (I : Inv X pins σ H s) (hv : Vals ys its) (hz : ys.length ≤ sizeLine) :
    Inv X pins σ (upd H s.heap.objs.size (.lst ys)) { s with heap := s.heap.push { cls := .type "list", data := .seq its.toArray }, toks := t' } :=
  I.laid (fun _ _ q => Heap.get?_push_of_some _ q) (Nat.le_refl _) ⟨hz, its, 0, hv, Heap.get?_push_size _ rfl⟩
theorem Inv.fresh (I : Inv X pins σ H s) : H s.heap.objs.size = none := I.hok.fresh (Nat.le_refl _)
theorem Inv.lstM (I : Inv X pins σ H s) (hH : H l = some (.lst xs)) : xs.length ≤ sizeLine ∧ ∃ (its : List Value) (n : Nat), Vals xs its ∧ xs.length = its.length ∧ s.heap.get? l = some { cls := .type "list", data := .seq its.toArray n } := by
  obtain ⟨z, its, n, r, e⟩ := I.hok l _ hH
  exact ⟨z, its, n, r, r.length, e⟩

end

section
variable {X : Cx}

/-! ### methods -/
def rAppend : V → List V → Hp → VK → Prop := fun x vs H Q => ∃ l xs y, x = .ref l ∧ vs = [y] ∧ H l = some (.lst xs) ∧ xs.length < sizeLine ∧ Q .non (upd H l (.lst (xs ++ [y])))
theorem mt_append : MtM X "list.append" rAppend := by
  intro pins s σ H x vs v us Q I rx rv h
  obtain ⟨l, xs, y, rfl, rfl, hH, hz, q⟩ := h
  cases rx
  obtain ⟨u, rfl, ru⟩ := rv.one
  obtain ⟨z, its, n, r, hl, e⟩ := I.lstM hH
  refine call_meets F.slot_list_append ⟨_, e, rfl⟩ F.entry_list_append (F.args_list_append_2 _ _) (PySem.list_append l its.toArray n u (by rw [List.size_toArray]; omega)) ⟨e, ?_⟩
  refine ⟨.non, _, I.lset (its' := its ++ [u]) hH e (by simp) (r.append (.cons ru .nil)) ?_, rfl, q⟩
  rw [List.length_append, List.length_singleton]
  omega





def rClear : V → List V → Hp → VK → Prop := fun x vs H Q => ∃ l xs, x = .ref l ∧ vs = [] ∧ H l = some (.lst xs) ∧ Q .non (upd H l (.lst []))
theorem mt_clear : MtM X "list.clear" rClear := by
  intro pins s σ H x vs v us Q I rx rv h
  obtain ⟨l, xs, rfl, rfl, hH, q⟩ := h
  cases rx
  have hus := rv.zero
  subst hus
  obtain ⟨z, its, n, r, hl, e⟩ := I.lstM hH
  refine call_meets F.slot_list_clear ⟨_, e, rfl⟩ F.entry_list_clear (F.args_list_clear_1 _) (AutoSeq1.list_clear_list_0 l its.toArray n (by rw [List.size_toArray]; omega)) ⟨e, ?_⟩
  exact ⟨.non, _, I.lset (its' := []) (ys := []) hH e rfl .nil (Nat.zero_le _), rfl, q⟩

/-! ### list + list, list += list, list * int -/
def rCat : R2 := fun x y H Q => ∃ l b xs zs, x = .ref l ∧ y = .ref b ∧ H l = some (.lst xs) ∧ H b = some (.lst zs) ∧ xs.length + zs.length ≤ sizeLine ∧ ∀ p, H p = none → Q (.ref p) (upd H p (.lst (xs ++ zs)))
theorem op_cat : OpR X (binaryOp .Add) rCat := by
  intro pins s σ H x y v u Q I rx ry h
  obtain ⟨l, b, xs, zs, rfl, rfl, hH, hB, hz, q⟩ := h
  cases rx
  cases ry
  obtain ⟨z, its, n, r, hl, e⟩ := I.lstM hH
  obtain ⟨z2, its2, n2, r2, hl2, e2⟩ := I.lstM hB
  refine PySem.P.add_list e e2 ?_ (by rw [List.size_toArray, List.size_toArray]; omega)
  have ea : its.toArray ++ its2.toArray = (its ++ its2).toArray := by simp
  rw [ea]
  exact ⟨.ref _, _, I.lnew (t' := s.toks) (r.append r2) (by rw [List.length_append]; omega), rfl, q _ I.fresh⟩

/-! ### del xs[i] -/
end

/-! ### xs[a:b] = ys -/
section
variable {prog : Program} {w : World} {A : Around} {E : Value → Shared → Prop} {s : Shared}
set_option maxRecDepth 100000 in
end

section
variable {X : Cx}
end
end L2


namespace L2
open PySem PySem.Spec PyProof.Rows

/-! ### lists of pairs as tables -/
section
variable {κ : Type} [DecidableEq κ]
def valV (kvs : List (κ × V)) (k : κ) : Option V := (kvs.find? fun kv => decide (kv.1 = k)).map (·.2)
/-- in its place, or at the end -/
def putK (kvs : List (κ × V)) (k : κ) (v : V) : List (κ × V) :=
  if (kvs.any fun kv => decide (kv.1 = k)) = true then kvs.map (fun kv => if kv.1 = k then (kv.1, v) else kv) else kvs ++ [(k, v)]
def dropK (kvs : List (κ × V)) (k : κ) : List (κ × V) := kvs.filter fun kv => decide (kv.1 ≠ k)

theorem valV_pos {p : κ × V} {r : List (κ × V)} {k : κ} (e : p.1 = k) : valV (p :: r) k = some p.2 := by simp [valV, List.find?_cons, e]
theorem valV_neg {p : κ × V} {r : List (κ × V)} {k : κ} (e : ¬ p.1 = k) : valV (p :: r) k = valV r k := by simp [valV, List.find?_cons, e]
theorem valV_any (k : κ) : ∀ kvs : List (κ × V), (kvs.any fun kv => decide (kv.1 = k)) = (valV kvs k).isSome
  | [] => rfl
  | p :: r => by
    rw [List.any_cons]
    by_cases e : p.1 = k
    · simp only [valV_pos e, decide_eq_true e, Bool.true_or, Option.isSome_some]
    · rw [valV_neg e, decide_eq_false e, Bool.false_or]; exact valV_any k r
theorem length_putK (kvs : List (κ × V)) (k : κ) (v : V) : (putK kvs k v).length ≤ kvs.length + 1 := by
  unfold putK
  split
  · rw [List.length_map]; omega
  · rw [List.length_append, List.length_cons, List.length_nil]; omega
theorem putK_new {kvs : List (κ × V)} {k : κ} (v : V) (h : valV kvs k = none) : putK kvs k v = kvs ++ [(k, v)] := by
  unfold putK
  rw [valV_any, h]
  exact if_neg (by decide)

theorem RelO.isSome_eq {o : Option V} {u : Option Value} (r : RelO o u) : o.isSome = u.isSome := by
  cases o with
  | none => cases u with
    | none => rfl
    | some _ => exact (show False from r).elim
  | some _ => cases u with
    | none => exact (show False from r).elim
    | some _ => rfl
theorem RelO.getD {o : Option V} {u : Option Value} {d : V} {d' : Value} (r : RelO o u) (rd : RelV d d') : RelV (o.getD d) (u.getD d') := by
  cases o with
  | none => cases u with
    | none => exact rd
    | some _ => exact (show False from r).elim
  | some _ => cases u with
    | none => exact (show False from r).elim
    | some _ => exact r

/-- raw tables of the same keys -/
theorem KV.val {kvs : List (κ × V)} {vs : List (κ × Value)} (r : KV kvs vs) (k : κ) : RelO (valV kvs k) (valueAt vs k) := by
  unfold KV at r
  induction r with
  | nil => exact True.intro
  | @cons p q ps qs h t ih =>
    obtain ⟨h1, h2⟩ := h
    by_cases e : p.1 = k
    · have e' : q.1 = k := h1.symm.trans e
      have b : valueAt (q :: qs) k = some q.2 := by simp [valueAt, List.find?_cons, e']
      rw [valV_pos e, b]; exact h2
    · have e' : ¬ q.1 = k := fun z => e (h1.trans z)
      have b : valueAt (q :: qs) k = valueAt qs k := by simp [valueAt, List.find?_cons, e']
      rw [valV_neg e, b]; exact ih
theorem KV.any {kvs : List (κ × V)} {vs : List (κ × Value)} (r : KV kvs vs) (k : κ) : (kvs.any fun kv => decide (kv.1 = k)) = vs.any fun kv => decide (kv.1 = k) := by
  unfold KV at r
  induction r with
  | nil => rfl
  | cons h t ih => rw [List.any_cons, List.any_cons, ih, h.1]
theorem KV.repl {kvs : List (κ × V)} {vs : List (κ × Value)} (r : KV kvs vs) (k : κ) {y : V} {u : Value} (ry : RelV y u) :
    KV (kvs.map fun kv => if kv.1 = k then (kv.1, y) else kv) (vs.map fun kv => if kv.1 = k then (kv.1, u) else kv) := by
  unfold KV at r ⊢
  induction r with
  | nil => exact .nil
  | @cons p q ps qs h t ih =>
    rw [List.map_cons, List.map_cons]
    refine .cons ?_ ih
    obtain ⟨h1, h2⟩ := h
    by_cases e : p.1 = k
    · rw [if_pos e, if_pos (h1.symm.trans e)]; exact ⟨h1, ry⟩
    · rw [if_neg e, if_neg (fun z => e (h1.trans z))]; exact ⟨h1, h2⟩
theorem KV.put {kvs : List (κ × V)} {vs : List (κ × Value)} (r : KV kvs vs) (k : κ) {y : V} {u : Value} (ry : RelV y u) : KV (putK kvs k y) (stored vs k u) := by
  unfold putK stored
  rw [r.any k]
  by_cases e : (vs.any fun kv => decide (kv.1 = k)) = true
  · rw [if_pos e, if_pos e]; exact r.repl k ry
  · rw [if_neg e, if_neg e]; exact Paired.snoc r ⟨rfl, ry⟩
theorem KV.drop {kvs : List (κ × V)} {vs : List (κ × Value)} (r : KV kvs vs) (k : κ) : KV (dropK kvs k) (without vs k) := by
  unfold KV at r ⊢
  unfold dropK without
  induction r with
  | nil => exact .nil
  | @cons p q ps qs h t ih =>
    obtain ⟨h1, h2⟩ := h
    rw [List.filter_cons, List.filter_cons]
    by_cases e : p.1 = k
    · have a : ¬ decide (p.1 ≠ k) = true := by simp [e]
      have b : ¬ decide (q.1 ≠ k) = true := by simp [h1.symm.trans e]
      rw [if_neg a, if_neg b]; exact ih
    · have e' : ¬ q.1 = k := fun z => e (h1.trans z)
      have a : decide (p.1 ≠ k) = true := by simp [e]
      have b : decide (q.1 ≠ k) = true := by simp [e']
      rw [if_pos a, if_pos b]; exact .cons ⟨h1, h2⟩ ih
theorem KV.keys {kvs : List (κ × V)} {vs : List (κ × Value)} (r : KV kvs vs) : kvs.map (·.1) = vs.map (·.1) := by
  unfold KV at r
  induction r with
  | nil => rfl
  | cons h t ih => rw [List.map_cons, List.map_cons, ih, h.1]
theorem KV.length {kvs : List (κ × V)} {vs : List (κ × Value)} (r : KV kvs vs) : kvs.length = vs.length := Paired.length r
theorem dropK_le (kvs : List (κ × V)) (k : κ) : (dropK kvs k).length ≤ kvs.length := List.length_filter_le _ _
end


/-! ### a tracked dict, its keys ints and texts or tuples of these -/
theorem kV_is {P : Program} {w : World} {k : Key} {u : Value} (r : RelV (kV k) u) : (mixKind P w).is k u = true := by
  cases k with
  | inl i => obtain ⟨t, e⟩ := (show ∃ t, u = Value.int i t from r); subst e; exact mixKind_int P w i t
  | inr x => obtain ⟨t, e⟩ := (show ∃ t, u = Value.str x t from r); subst e; exact mixKind_str P w x t
theorem items_are {P : Program} {w : World} : ∀ {ks : List Key} {us : List Value}, Vals (ks.map kV) us → ItemsAre (mixKind P w) ks us
  | [], _, r => by rw [List.map_nil] at r; cases r; exact .nil
  | k :: ks, _, r => by
    rw [List.map_cons] at r
    cases r with
    | cons h t => exact .cons (kV_is h) (items_are t)

/-- raw entries of a dict with tuple keys -/
abbrev KT (H : Hp) : List (List Key × V) → List (List Key × Addr × Value) → Prop := Paired fun p q => p.1 = q.1 ∧ H q.2.1 = some (.tup (p.1.map kV)) ∧ RelV p.2 q.2.2
theorem KT.val {H : Hp} {kvs : List (List Key × V)} {xs : List (List Key × Addr × Value)} (r : KT H kvs xs) (k : List Key) : RelO (valV kvs k) ((atKey xs k).map (·.2)) := by
  induction r with
  | nil => exact True.intro
  | @cons p q ps qs h t ih =>
    obtain ⟨h1, _, h2⟩ := h
    by_cases e : p.1 = k
    · have e' : q.1 = k := h1.symm.trans e
      have b : atKey (q :: qs) k = some q.2 := by simp [atKey, List.find?_cons, e']
      rw [valV_pos e, b]; exact h2
    · have e' : ¬ q.1 = k := fun z => e (h1.trans z)
      have b : atKey (q :: qs) k = atKey qs k := by simp [atKey, List.find?_cons, e']
      rw [valV_neg e, b]; exact ih
theorem KT.repl {H : Hp} {kvs : List (List Key × V)} {xs : List (List Key × Addr × Value)} (r : KT H kvs xs) (k : List Key) {y : V} {u : Value} (ry : RelV y u) :
    KT H (kvs.map fun kv => if kv.1 = k then (kv.1, y) else kv) (xs.map (putAt k u)) := by
  induction r with
  | nil => exact .nil
  | @cons p q ps qs h t ih =>
    rw [List.map_cons, List.map_cons]
    refine .cons ?_ ih
    obtain ⟨h1, h2, h3⟩ := h
    unfold putAt
    by_cases e : p.1 = k
    · rw [if_pos e, if_pos (h1.symm.trans e)]; exact ⟨h1, h2, ry⟩
    · rw [if_neg e, if_neg (fun z => e (h1.trans z))]; exact ⟨h1, h2, h3⟩
theorem KT.put {H : Hp} {kvs : List (List Key × V)} {xs : List (List Key × Addr × Value)} (r : KT H kvs xs) (k : List Key) {b : Addr} {y : V} {u : Value} (hb : H b = some (.tup (k.map kV))) (ry : RelV y u) :
    KT H (putK kvs k y) (storedH xs k b u) := by
  have e : (kvs.any fun kv => decide (kv.1 = k)) = (atKey xs k).isSome := by
    rw [valV_any, (r.val k).isSome_eq, Option.isSome_map]
  unfold putK storedH
  rw [e]
  by_cases q : (atKey xs k).isSome = true
  · rw [if_pos q, if_pos q]; exact r.repl k ry
  · rw [if_neg q, if_neg q]; exact Paired.snoc r ⟨rfl, hb, ry⟩
theorem KT.keeps {H H' : Hp} {kvs : List (List Key × V)} {xs : List (List Key × Addr × Value)} (r : KT H kvs xs) (ht : ∀ b ys, H b = some (.tup ys) → H' b = some (.tup ys)) : KT H' kvs xs :=
  Paired.mapP r fun _ _ z => ⟨z.1, ht _ _ z.2.1, z.2.2⟩

section
variable {P : Program} {w : World} {H : Hp} {h : Heap} {a : Addr}
theorem rd_of {u : HO} (ok : HOk P w H h) (e : Rd H a u) : ObjOk P w H h a u := e.ok ok
theorem dk_rd {kvs : List (Key × V)} (ok : HOk P w H h) (e : Rd H a (.dK kvs)) : kvs.length ≤ sizeLine ∧ (a == sysModules) = false ∧ ∃ vs, KV kvs vs ∧ h.DictOf (mixKind P w) a vs :=
  show ObjOk P w H h a (.dK kvs) from rd_of ok e
theorem dk_of {kvs : List (Key × V)} (ok : HOk P w H h) (e : H a = some (.dK kvs)) : kvs.length ≤ sizeLine ∧ (a == sysModules) = false ∧ ∃ vs, KV kvs vs ∧ h.DictOf (mixKind P w) a vs := dk_rd ok (.inl e)
/-- a tracked tuple of ints and texts is a key -/
theorem key_of {ks : List Key} (ok : HOk P w H h) (e : H a = some (.tup (ks.map kV))) : (tupleKind (mixKind P w)).is h ks a := by
  obtain ⟨_, its, r, o, h1, h2, n, h3⟩ := (show ObjOk P w H h a (.tup (ks.map kV)) from ok a _ e)
  exact ⟨o, its.toArray, n, h1, h2, h3, by simpa using items_are r⟩
theorem dt_rd {kvs : List (List Key × V)} (ok : HOk P w H h) (e : Rd H a (.dT kvs)) : kvs.length ≤ sizeLine ∧ (a == sysModules) = false ∧
    ∃ xs, KT H kvs xs ∧ h.DictOfH (tupleKind (mixKind P w)) a xs := by
  obtain ⟨z, y, xs, r, o, es, ep, h1, h2, h3, h4, h5⟩ := (show ObjOk P w H h a (.dT kvs) from rd_of ok e)
  refine ⟨z, y, xs, r, o, es, ep, h1, h2, h3, h4, fun x hx => ?_, h5⟩
  have all : ∀ {l : List (List Key × V)} {m : List (List Key × Addr × Value)}, KT H l m → ∀ x ∈ m, (tupleKind (mixKind P w)).is h x.1 x.2.1 := by
    intro l m q
    induction q with
    | nil => intro x hx; exact nomatch hx
    | @cons p q ps qs hq t ih =>
      intro x hx
      rcases List.mem_cons.mp hx with e | hx
      · subst e
        exact key_of ok (by rw [← hq.1]; exact hq.2.1)
      · exact ih x hx
  exact all r x hx
theorem dt_of {kvs : List (List Key × V)} (ok : HOk P w H h) (e : H a = some (.dT kvs)) : kvs.length ≤ sizeLine ∧ (a == sysModules) = false ∧
    ∃ xs, KT H kvs xs ∧ h.DictOfH (tupleKind (mixKind P w)) a xs := dt_rd ok (.inl e)
end

/-- what the dict at a holds at the key y -/
def DGet (H : Hp) (a : Addr) (y : V) (r : Option V) : Prop :=
  (∃ kvs k, Rd H a (.dK kvs) ∧ y = kV k ∧ r = valV kvs k) ∨ ∃ kvs k b, Rd H a (.dT kvs) ∧ y = .ref b ∧ H b = some (.tup (k.map kV)) ∧ r = valV kvs k
/-- the heap behind a[y] = v -/
def DPut (H : Hp) (a : Addr) (y v : V) (H' : Hp) : Prop :=
  (∃ kvs k, H a = some (.dK kvs) ∧ y = kV k ∧ kvs.length < sizeLine ∧ H' = upd H a (.dK (putK kvs k v))) ∨
  ∃ kvs k b, H a = some (.dT kvs) ∧ y = .ref b ∧ H b = some (.tup (k.map kV)) ∧ kvs.length < sizeLine ∧ H' = upd H a (.dT (putK kvs k v))
theorem DGet.k {H : Hp} {a : Addr} {kvs : List (Key × V)} {k : Key} (e : H a = some (.dK kvs)) : DGet H a (kV k) (valV kvs k) := .inl ⟨kvs, k, .inl e, rfl, rfl⟩
theorem DGet.t {H : Hp} {a b : Addr} {kvs : List (List Key × V)} {k : List Key} (e : H a = some (.dT kvs)) (eb : H b = some (.tup (k.map kV))) : DGet H a (.ref b) (valV kvs k) := .inr ⟨kvs, k, b, .inl e, rfl, eb, rfl⟩
theorem DPut.k {H : Hp} {a : Addr} {kvs : List (Key × V)} {k : Key} {v : V} (e : H a = some (.dK kvs)) (hl : kvs.length < sizeLine) : DPut H a (kV k) v (upd H a (.dK (putK kvs k v))) := .inl ⟨kvs, k, e, rfl, hl, rfl⟩
theorem DPut.t {H : Hp} {a b : Addr} {kvs : List (List Key × V)} {k : List Key} {v : V} (e : H a = some (.dT kvs)) (eb : H b = some (.tup (k.map kV))) (hl : kvs.length < sizeLine) :
    DPut H a (.ref b) v (upd H a (.dT (putK kvs k v))) := .inr ⟨kvs, k, b, e, rfl, eb, hl, rfl⟩


section
variable {X : Cx} {pins : List (Addr × Obj)} {σ : St} {H : Hp} {s : Shared} {a : Addr} {y v : V} {u r : Value} {o : Option V} {A : Around} {E : Value → Shared → Prop}

theorem Inv.big (I : Inv X pins σ H s) : sysModules < s.heap.objs.size := by
  have h : mainGlobals < s.heap.objs.size := (I.mod.glob.keeps I.bk).lt
  exact Nat.lt_trans (by decide) h

/-- a dict's object is replaced -/
theorem d_write {h' : Heap} {t' : Nat} {ob : HO} (I : Inv X pins σ H s) (mu : Mut (H a)) (hs : Heap.SameBut a s.heap h') (he : ∃ q, h'.get? a = some q) (new : ObjOk X.prog X.w (upd H a ob) h' a ob) :
    Inv X pins σ (upd H a ob) { s with heap := h', toks := t' } :=
  I.write (x := a) (e := a) mu (.inl rfl) (fun b q hb z => (hs.2 b hb).trans z) he new
theorem dk_new {P : Program} {w : World} {H' : Hp} {h' : Heap} {kvs : List (Key × V)} {vs : List (Key × Value)} (z : kvs.length ≤ sizeLine) (hd : (a == sysModules) = false) (rel : KV kvs vs) (dd : h'.DictOf (mixKind P w) a vs) :
    ObjOk P w H' h' a (.dK kvs) := ⟨z, hd, vs, rel, dd⟩
/-- d[y] = v -/
theorem d_setItem {H' : Hp} {Q : Unit → Shared → Prop} (hu : A.units + 1 < cLine) (I : Inv X pins σ H s) (g : DPut H a y v H') (ry : RelV y u) (rv : RelV v r) (h : ∀ s', Inv X pins σ H' s' → Q () s') :
    wpAny (model X.prog X.w) A (setItem (.ref a) u r) Q E s := by
  rcases g with ⟨kvs, k, e, ey, l, eH⟩ | ⟨kvs, k, b, e, ey, eb, l, eH⟩
  · subst ey eH
    obtain ⟨z, hd, vs, rel, dd⟩ := dk_of I.hok e
    have hz : vs.length ≤ sizeLine := by rw [← rel.length]; exact z
    have hl : (putK kvs k v).length ≤ sizeLine := by have := length_putK kvs k v; omega
    refine wpAny_setItem_pairs (hsz := hz) (kV_is ry) dd fun h' dd' hs => h _ ?_
    have he : ∃ q, h'.get? a = some q := let ⟨q, _, _, hq, _⟩ := dd'; ⟨q, hq⟩
    exact d_write I (by rw [e]; exact True.intro) hs he (dk_new hl hd (rel.put k rv) dd')
  · subst ey eH
    cases (show u = Value.ref b from ry)
    obtain ⟨z, hd, xs, rel, dd⟩ := dt_of I.hok e
    have hz : xs.length ≤ sizeLine := by rw [← Paired.length rel]; exact z
    have hl : (putK kvs k v).length ≤ sizeLine := by have := length_putK kvs k v; omega
    refine wpAny_setItem_heap (hsz := hz) (tupleKind_room_in1 hu) (key_of I.hok eb) dd fun h' dd' hs => h _ ?_
    obtain ⟨q, es, ep, hq, h2, h3, h4, _, h5⟩ := dd'
    refine d_write I (by rw [e]; exact True.intro) hs ⟨q, hq⟩ ⟨hl, hd, _, (rel.put k eb rv).keeps fun c ys ec => ?_, q, es, ep, hq, h2, h3, h4, h5⟩
    rw [upd_ne (ne_of ec e (fun z => nomatch z))]
    exact ec
end

section
variable {X : Cx} {pins : List (Addr × Obj)} {σ : St} {H : Hp} {s : Shared} {a : Addr} {kvs : List (Key × V)} {k : Key} {u : Value} {A : Around} {E : Value → Shared → Prop}
/-- d.pop(k[, x]), there -/
theorem d_pop {v : V} {more : List Value} {Q : Value → Shared → Prop} (I : Inv X pins σ H s) (e : H a = some (.dK kvs)) (ry : RelV (kV k) u) (l : valV kvs k = some v) (hm : more = [] ∨ ∃ x, more = [x])
    (h : ∀ w' s', Inv X pins σ (upd H a (.dK (dropK kvs k))) s' → RelV v w' → Q w' s') : wpAny (model X.prog X.w) A (call (.builtin "dict.pop") (.ref a :: u :: more)) Q E s := by
  obtain ⟨z, hd, vs, rel, dd⟩ := dk_of I.hok e
  obtain ⟨w', hw, rw'⟩ := RelO.some_of (v := v) (o := valueAt vs k) (by rw [← l]; exact rel.val k)
  have hp : (keyPart u).isSome = true := by
    cases k with
    | inl i => obtain ⟨t, q⟩ := (show ∃ t, u = Value.int i t from ry); subst q; rfl
    | inr x => obtain ⟨t, q⟩ := (show ∃ t, u = Value.str x t from ry); subst q; rfl
  have ha : argsOk "dict.pop" ⟨.ref a :: u :: more, []⟩ := by
    rcases hm with q | ⟨x, q⟩
    · subst q; exact PySem.F.args_dict_pop_2 _ _
    · subst q; exact PySem.F.args_dict_pop_3 _ _ _
  refine call_meetsIn PySem.F.slot_dict_pop dd.typeIs PySem.F.entry_dict_pop ha (meets_dict_pop_there (mixKind X.prog X.w) a (kV_is ry) more hm hp)
    ⟨vs, w', dd, by rw [← rel.length]; exact z, hw, fun h' dd' hs => h w' _ ?_ rw'⟩
  have he : ∃ q, h'.get? a = some q := let ⟨q, _, _, hq, _⟩ := dd'; ⟨q, hq⟩
  exact d_write I (by rw [e]; exact True.intro) hs he (dk_new (Nat.le_trans (dropK_le kvs k) z) hd (rel.drop k) dd')
/-- d.pop(k, x), not there -/
theorem d_popD {r : Value} {Q : Value → Shared → Prop} (I : Inv X pins σ H s) (e : H a = some (.dK kvs)) (ry : RelV (kV k) u) (l : valV kvs k = none) (h : ∀ s', Inv X pins σ H s' → Q r s') :
    wpAny (model X.prog X.w) A (call (.builtin "dict.pop") [.ref a, u, r]) Q E s := by
  obtain ⟨z, hd, vs, rel, dd⟩ := dk_of I.hok e
  have hn : valueAt vs k = none := RelO.none_of (by rw [← l]; exact rel.val k)
  have hp : (keyPart u).isSome = true := by
    cases k with
    | inl i => obtain ⟨t, q⟩ := (show ∃ t, u = Value.int i t from ry); subst q; rfl
    | inr x => obtain ⟨t, q⟩ := (show ∃ t, u = Value.str x t from ry); subst q; rfl
  exact call_meetsIn PySem.F.slot_dict_pop dd.typeIs PySem.F.entry_dict_pop (PySem.F.args_dict_pop_3 _ _ _) (meets_dict_pop_default (mixKind X.prog X.w) a (kV_is ry) hd hp r) ⟨vs, dd, hn, h _ (I.tok _)⟩
end


/-! ### readings and rules -/


/-- d[y] = v -/
def sDPut (td ty tv : TE) : TS := fun D σ H => tv σ H fun v H1 => td σ H1 fun x H2 => ty σ H2 fun y H3 => ∃ a H4, x = .ref a ∧ DPut H3 a y v H4 ∧ D.nx σ H4

section
variable {X : Cx} {o i e value : Expr} {pos pos' tpos : Pos} {td ty tv : TE}
theorem ps_dput (hu : X.A.units + 1 < cLine) (ho : PE X o td) (hi : PE X i ty) (hv : PE X value tv) (hs : swapsWith value (some (.Subscript o i pos')) pos.line X.env = pure false) :
    PS X (.Assign [.Subscript o i pos'] value pos) (sDPut td ty tv) := by
  intro pins s σ H D I h
  refine wpAny_Assign_Subscript (thn (hv pins s σ H _ I h) fun r s1 ⟨v, H1, I1, rv, q1⟩ => thn (ho pins s1 σ H1 _ I1 q1) fun u s2 ⟨x, H2, I2, rx, q2⟩ => thn (hi pins s2 σ H2 _ I2 q2) fun iv s3 ⟨y, H3, I3, ry, a, H4, ex, g, q3⟩ => ?_) hs
  subst ex
  obtain rfl : u = Value.ref a := rx
  exact d_setItem hu I3 g ry rv fun s4 I4 => ⟨σ, H4, I4, q3⟩
end


/-! ### displays -/
theorem dk_empty {P : Program} {w : World} {H : Hp} (h : Heap) (hb : sysModules < h.objs.size) : ObjOk P w H (h.push { cls := .type "dict", data := .dict #[] }) h.objs.size (.dK []) :=
  ⟨Nat.zero_le _, beq_eq_false_iff_ne.mpr (Ne.symm (Nat.ne_of_lt hb)), [], .nil, Heap.DictOf.new h⟩
/-- {}, to be a dict of the kind that is wanted -/
def tDNewK : TE := fun _ H Q => ∀ p, H p = none → Q (.ref p) (upd H p (.dK []))
section
variable {X : Cx} {pos : Pos}
theorem pe_dnewK : PE X (.Dict [] [] pos) tDNewK := fun pins s σ H Q I h =>
  wpAny_Dict_empty ⟨.ref s.heap.objs.size, _, I.laid (a := s.heap.objs.size) (o := .dK []) (t' := s.toks) (fun _ _ q => Heap.get?_push_of_some _ q) (Nat.le_refl _) (dk_empty s.heap I.big), rfl, h _ (I.hok.fresh (Nat.le_refl _))⟩
end




/-! ### methods -/
/-- a method call o.m(e) of a built-in, with one argument: what must be seen of the text -/
structure M1 (X : Cx) (o : Expr) (m : Str) (apos : Pos) (e : Expr) (cpos : Pos) : Prop where
  base : attributeBase o m X.env (eval o X.env) = eval o X.env
  few : ((backTo cpos (starEach [e] X.env)).all (fun x => !x.1) && (backToKw cpos (keywordEach [] X.env)).all (fun x => x.1.isSome)
    && decide (([e] : List Expr).length + ([] : List Keyword).length + (if ([] : List Keyword).isEmpty then 0 else 1) < 30)) = true
  line : (apos.endLine == cpos.line) = true
  trees : backTo cpos (starEach [e] X.env) = [(false, eval e X.env)]
structure M2 (X : Cx) (o : Expr) (m : Str) (apos : Pos) (e f : Expr) (cpos : Pos) : Prop where
  base : attributeBase o m X.env (eval o X.env) = eval o X.env
  few : ((backTo cpos (starEach [e, f] X.env)).all (fun x => !x.1) && (backToKw cpos (keywordEach [] X.env)).all (fun x => x.1.isSome)
    && decide (([e, f] : List Expr).length + ([] : List Keyword).length + (if ([] : List Keyword).isEmpty then 0 else 1) < 30)) = true
  line : (apos.endLine == cpos.line) = true
  trees : backTo cpos (starEach [e, f] X.env) = [(false, eval e X.env), (false, eval f X.env)]

/-- a is a dict, whatever its keys -/
def IsD (H : Hp) (a : Addr) : Prop := (∃ kvs, Rd H a (.dK kvs)) ∨ ∃ kvs, Rd H a (.dT kvs)
theorem isD_at {X : Cx} {pins : List (Addr × Obj)} {σ : St} {H : Hp} {s : Shared} {a : Addr} (I : Inv X pins σ H s) (d : IsD H a) :
    s.TypeIs (.ref a) "dict" ∧ (∀ b, Value.ref a = .ref b → ∃ ob, s.heap.get? b = some ob ∧ ob.dict = none) ∧ (a == sysModules) = false := by
  rcases d with ⟨kvs, e⟩ | ⟨kvs, e⟩
  · obtain ⟨_, hd, vs, _, dd⟩ := dk_rd I.hok e
    refine ⟨dd.typeIs, fun b q => ?_, hd⟩
    cases q
    obtain ⟨ob, _, _, h1, h2, _⟩ := dd
    exact ⟨ob, h1, h2.2.1⟩
  · obtain ⟨_, hd, xs, _, dd⟩ := dt_rd I.hok e
    refine ⟨dd.typeIs, fun b q => ?_, hd⟩
    cases q
    obtain ⟨ob, _, _, h1, h2, _⟩ := dd
    exact ⟨ob, h1, h2.2.1⟩

section
variable {X : Cx} {pins : List (Addr × Obj)} {σ : St} {H : Hp} {s : Shared} {a : Addr} {y d : V} {u r : Value} {o : Option V} {A : Around} {E : Value → Shared → Prop}
end

def tDPop2 (td ty tx : TE) : TE := fun σ H Q => td σ H fun x H1 => ∃ a, x = .ref a ∧ IsD H1 a ∧ ty σ H1 fun y H2 => tx σ H2 fun z H3 => ∃ kvs k, H3 a = some (.dK kvs) ∧ y = kV k ∧
  (∀ v, valV kvs k = some v → Q v (upd H3 a (.dK (dropK kvs k)))) ∧ (valV kvs k = none → Q z H3)
section
variable {X : Cx} {o e f : Expr} {apos cpos : Pos} {td ty tx : TE}
theorem pe_dpop2 (ho : PE X o td) (he : PE X e ty) (hf : PE X f tx) (m : M2 X o "pop" apos e f cpos) : PE X (.Call (.Attribute o "pop" apos) [e, f] [] cpos) (tDPop2 td ty tx) := by
  intro pins s σ H Q I h
  refine wpAny_Call_method m.base m.few m.line PySem.F.plainAttrs_dict PySem.F.slot_dict_pop PySem.F.type_dict_pop (thn (ho pins s σ H _ I h) fun u s1 ⟨x, H1, I1, rx, a, ex, d, q1⟩ => ?_)
  subst ex
  obtain rfl : u = Value.ref a := rx
  obtain ⟨t1, t2, _⟩ := isD_at I1 d
  refine ⟨t1, t2, ?_⟩
  rw [m.trees]
  refine Calls.callWith_builtin rfl (Calls.evalArgs_plain (Calls.spliced_cons (thn (he pins s1 σ H1 _ I1 q1) fun iv s2 ⟨y, H2, I2, ry, q2⟩ =>
    Calls.spliced_cons (thn (hf pins s2 σ H2 _ I2 q2) fun fv s3 ⟨z, H3, I3, rz, kvs, k, ea, ey, q3, q4⟩ => Calls.spliced_nil ?_))))
  subst ey
  cases l : valV kvs k with
  | some v => exact d_pop I3 ea ry l (.inr ⟨fv, rfl⟩) fun w' s4 I4 rw' => ⟨v, _, I4, rw', q3 v l⟩
  | none => exact d_popD I3 ea ry l fun s4 I4 => ⟨z, H3, I4, rz, q4 l⟩
end

/-! ### dict(d): a copy -/
section
variable {X : Cx} {pins : List (Addr × Obj)} {σ : St} {H : Hp} {s : Shared} {a : Addr} {kvs : List (Key × V)} {A : Around} {E : Value → Shared → Prop}
end


section
variable {X : Cx} {pins : List (Addr × Obj)} {σ : St} {H : Hp} {s : Shared} {a : Addr} {y : V} {u : Value} {A : Around} {E : Value → Shared → Prop}
end
end L2

namespace Att
open PySem PySem.W PySem.Calls PyProof.Rows

/-! ### the script -/
theorem ints_of_wellAll {P : Params} {h : Heap} : ∀ (ns : List Int) (vs : List Value), WellAll P h vs (ns.map WData.int) → IntsAre vs ns := by
  intro ns
  induction ns with
  | nil =>
    intro vs w
    rw [List.map_nil] at w
    cases w
    exact .nil
  | cons n ns ih =>
    intro vs w
    rw [List.map_cons] at w
    cases w with
    | cons a b =>
      cases a
      exact .cons _ _ (ih _ b)

theorem script_of {l : OpenLaw} {n : Nat} (hn : l.most = some n) {P : Params} {h : Heap} {args : List WData} {vals : List Value}
    (hpre : l.row.toRowW.claim.pre args = true) (hwl : WellAll P h vals args) :
    ∃ a vs ns, vals = [Value.ref a] ∧ args = [WData.list (ns.map WData.int)] ∧ h.get? a = some { cls := .type "list", data := .seq vs.toArray } ∧ IntsAre vs ns ∧ ns.length ≤ n := by
  have hsh : WShape.hasAll [] args [.list .int] = true := (pre_splitW hpre).1
  have hc : l.pre.holds [] { args := args } = true := (pre_splitW hpre).2
  obtain ⟨d, r, rfl, h1, h2⟩ := hasAllW_cons hsh
  obtain rfl := hasAllW_nil h2
  obtain ⟨xs, rfl, h3⟩ := hasW_list h1
  obtain ⟨ns, rfl⟩ := items_int h3
  have hlen : ns.length ≤ n := by
    unfold OpenLaw.pre at hc
    have h4 : (WTm.not (.lt (.lit (.int (n : Int))) (.len (.arg 0)))).holds [] { args := [.list (ns.map .int)] } = true := by
      have h4 := (holds_andW hc).1
      rw [hn] at h4
      exact h4
    have h5 := condW_of h4 (w_not (w_lt w_lit (w_len_list (w_arg rfl))))
    rw [List.length_map] at h5
    refine Nat.le_of_not_lt fun q => ?_
    have q' : (n : Int) < ((ns.length : Nat) : Int) := by omega
    first
      | (rw [decide_eq_true q'] at h5; exact absurd h5 (by decide))
      | (simp at h5; omega)
  cases hwl with
  | cons w1 w2 =>
    cases w2
    cases w1 with
    | list ho hall => exact ⟨_, _, ns, rfl, rfl, ho, ints_of_wellAll ns _ hall, hlen⟩

theorem post_true (l : OpenLaw) (args : List WData) : l.row.toRowW.claim.post args (.bool true) args = true :=
  postW_of (r := l.row.toRowW) (X := (true == true))
    (show WShape.has [] (.bool true) .bool = true by first | rfl | decide | simp [WShape.has, WShape.arms, WShape.armsAll])
    (show (WTm.eq .res (.lit (.bool true))).value [] { args := args, res := some (.bool true), after := args } = some (.bool (true == true)) from w_eq_bool (w_res rfl) w_lit) rfl

/-! ### the attachment: holds_open's last premise (the goal 'hc' behind k_head) from a wpAny of the law's body -/

/-- the same from a codeAny of the CALL (for a layer whose function contracts speak of calls) -/
theorem attach_call {l : OpenLaw} {n : Nat} {q : Program} {loose : List Str} {XP : (Str → Option Value) → Heap → Prop} {YP : World → Heap → Prop} {d : DefRec}
    (hn : l.most = some n) (hdf : d.params.defaults = [])
    (call : ∀ (w : World) (s₀ s₁ : Shared) (mg mb : Str → Option Value) (fa : Addr) (o : Obj) (pm cd doc : Value) (a : Addr) (vs : List Value) (ns : List Int),
      Ground q loose [] XP w s₀ mg mb s₁.heap → YP w s₁.heap →
      s₁.heap.get? fa = some o → o.data = .func (docDef d.name d.params d.body d.scope pm cd doc) → s₁.heap.CodeRec cd d.name → mg d.name = some (.ref fa) →
      s₁.heap.get? a = some { cls := .type "list", data := .seq vs.toArray } → IntsAre vs ns → ns.length ≤ n → s₁.gens = #[] →
      codeAny (model l.prog w) callerA (.call (.ref fa) ⟨[.ref a], []⟩) (fun r s' => r = .ok (.ret (.bool true)) ∧ OldK s₁.heap s'.heap ∧ s'.os = s₁.os ∧ AllBare s'.gens) s₁) :
    WalkO q loose XP YP l.row.toRowW d [] (fun f vs => PySem.call f vs) := by
  intro w s₀ s₁ mg mb G Y fa o pm cd doc dV kV ho hd hcd hD hmg hg args vals as hpre hlay hrd hwl hlo
  obtain rfl : dV = .none := Dflts.none hD hdf
  obtain rfl : kV = .none := Dflts.noKw hD
  obtain ⟨a, vs, ns, rfl, rfl, hobj, hints, hlen⟩ := script_of hn hpre hwl
  refine enter_call (codeAny_mono (call w s₀ s₁ mg mb fa o pm cd doc a vs ns G Y ho (fd_plain hd) hcd hmg hobj hints hlen hg) fun r s' hq => ?_)
  obtain ⟨rfl, h2, h3, h4⟩ := hq
  exact ⟨.inl ⟨.bool true, .bool true, [], rfl, fun _ => rfl, .bool true, post_true l _, fun _ => ⟨List.Pairwise.nil, fun _ hm => (nomatch hm)⟩⟩, h2, h3, h4⟩


/-! ### rules over ANY heap (no ledger) from facts about the written part K: the library's own take a ledger (News) for what they write -/
section
variable {prog : Program} {w : World} {A : Around} {E : Value → Shared → Prop} {s : Shared} {K : Frag}





/-! the whole heap as the ledger: makes every rule that writes through a ledger a rule over any heap -/
def ledger (h : Heap) (L d : Addr) : List (Addr × Obj) := (List.range h.objs.size).filterMap fun a => if a = L ∨ a = d then none else (h.get? a).map fun o => (a, o)

end
end Att

namespace L2
open PySem PySem.Spec PyProof.Rows

theorem vals_ints : ∀ {vs : List Value} {ns : List Int}, IntsAre vs ns → Vals (ns.map V.int) vs
  | _, _, .nil => .nil
  | _, _, .cons n t h => .cons ⟨t, rfl⟩ (vals_ints h)

/-- nothing is tracked but the script, known to the object (or it is an object of the module) -/
def Only (H : Hp) : Prop := ∀ b, H b = none ∨ ∃ o xs, H b = some (.frz o (.lst xs))

/-- THE HEAD: the law's promise, at the heap behind the top. F, the promise of the law's def, may use that base is part of the heap (so K.In base, base.Ns mainGlobals mg stand in Mod) -/
theorem law_call {P : Program} {w : World} {K : PySem.W.Frag} {mg mb : Str → Option Value} {CX : CXT} {k : Nat} {fa a : Addr} {fd : FuncData} {x : Str} {sp : Sp} {s₁ : Shared} {vs : List Value} {ns : List Int}
    (KX : K.In s₁.heap) (hns : s₁.heap.Ns mainGlobals mg) (hb : s₁.heap.Ns builtinsNs mb) (hbb : ∀ x : Str, x ≠ "__name__" → mb x = bootBuiltins x) (hlim : s₁.heap.NoLimit) (hg : s₁.gens = #[])
    (ha : s₁.heap.get? a = some { cls := .type "list", data := .seq vs.toArray }) (hi : IntsAre vs ns) (hl : ns.length ≤ sizeLine) (hr : Room k callerA)
    (F : ∀ base : Heap, K.In base → base.Ns mainGlobals mg → FnOk P w K mg base CX k fa fd [x] sp) (hbind : ∀ (s : Shared) (u : Value), BindsTo s fd ⟨[u], []⟩ [(x, u)])
    (hsp : ∀ H : Hp, Only H → SqL K H a (ns.map V.int) → sp [.ref a] H (fun v _ => v = .bl true) fun _ _ _ => False)
    (hCX : ∀ H e s', CX [] H s₁ (fun _ _ _ => False) e s' → False) :
    codeAny (model P w) callerA (.call (.ref fa) ⟨[.ref a], []⟩) (fun r s' => r = .ok (.ret (.bool true)) ∧ OldK s₁.heap s'.heap ∧ s'.os = s₁.os ∧ AllBare s'.gens) s₁ := by
  have rv := vals_ints hi
  have lenV := hi.length
  -- from an abstract heap in which nothing but the script may be tracked
  have core : ∀ H : Hp, Only H → SqL K H a (ns.map V.int) → HOk P w H s₁.heap → (∀ b, H b ≠ none → b = a) → (H a ≠ none → K.lookup a = none) →
      codeAny (model P w) callerA (.call (.ref fa) ⟨[.ref a], []⟩) (fun r s' => r = .ok (.ret (.bool true)) ∧ OldK s₁.heap s'.heap ∧ s'.os = s₁.os ∧ AllBare s'.gens) s₁ := by
    intro H hO hS hok hA hK
    have base_of : ∀ {b : Addr} {o : Obj}, s₁.heap.get? b = some o → H b = none → (hidT s₁.heap H).get? b = some o := fun e n => hidT_get e n
    have noA : ∀ {b : Addr} {o : Obj} {es : Array DictEntry} {ep : Nat}, s₁.heap.get? b = some o → o.data = .dict es ep → H b = none := fun {b o es ep} e d => by
      cases q : H b with
      | none => rfl
      | some u =>
        have e' : b = a := hA b (by rw [q]; simp)
        subst e'
        rw [ha] at e; cases e
        have d' : Data.seq vs.toArray _ = Data.dict es ep := d
        cases d'
    have nsK : ∀ {b : Addr} {m : Str → Option Value}, s₁.heap.Ns b m → (hidT s₁.heap H).Ns b m := fun {b m} ⟨o, es, ep, e, d, r⟩ => ⟨o, es, ep, base_of e (noA e d), d, r⟩
    have hKb : K.In (hidT s₁.heap H) := fun b o e => base_of (KX b o e) (by
      cases q : H b with
      | none => rfl
      | some u =>
        have e' : b = a := hA b (by rw [q]; simp)
        subst e'
        rw [hK (by rw [q]; simp)] at e; cases e)
    have hM : Mod K mg (hidT s₁.heap H) := ⟨hKb, nsK hns, ⟨mb, nsK hb, hbb⟩, let ⟨mc, h1, h2⟩ := hlim; ⟨mc, nsK h1, h2⟩⟩
    have e0 : Env0 P w K mg (hidT s₁.heap H) callerA [] s₁ H := ⟨rfl, hM, fun b o e => of_hidT e, Nat.le_of_eq (hidT_size _ _), trivial, fun b hb => absurd (show b ∈ ([] : List Addr) from hb) (by simp), hok, .of_eq hg⟩
    refine codeAny_mono ((F _ hKb (nsK hns)).run callerA [] s₁ H ⟨[.ref a], []⟩ [.ref a] [.ref a] _ _ hr e0 (hbind s₁ (.ref a)) (.cons rfl .nil) (hsp H hO hS)) fun r s' h => ?_
    cases r with
    | error e => exact (hCX H e s' h).elim
    | ok fl =>
      cases fl with
      | next => exact False.elim h
      | brk => exact False.elim h
      | cont => exact False.elim h
      | ret u =>
        obtain ⟨v, H', os, bare, un, hok', r', q⟩ := h
        have q' : v = .bl true := q
        subst q'
        obtain rfl : u = Value.bool true := r'
        refine ⟨rfl, OldK.of_keep fun b o e => ?_, os, bare⟩
        cases q : H b with
        | none => exact un.keep b o e q (by intro z; exact absurd (show b ∈ ([] : List Addr) from z) (by simp)) (by simp)
        | some u =>
          rcases hO b with z | ⟨ob, xs, z⟩
          · rw [q] at z; cases z
          · have z2 := un.frzs b ob _ z
            obtain ⟨e1, _⟩ := hok b _ z
            obtain ⟨e2, _⟩ := hok' b _ z2
            rw [e] at e1; cases e1
            exact e2
  cases hk : K.lookup a with
  | some o =>
    -- the script is one of the module's own objects
    have e := KX a o hk
    rw [ha] at e
    cases e
    refine core (fun _ => none) (fun _ => .inl rfl) (.inr ⟨_, vs.toArray, _, hk, rfl, rfl, rfl, by rw [List.size_toArray, lenV]; exact hl, by simpa using rv⟩) (fun b u z => by have z' : (none : Option HO) = some u := z; cases z') (fun b z => absurd rfl z) fun z => absurd rfl z
  | none =>
    refine core (fun b => if b = a then some (.frz { cls := .type "list", data := .seq vs.toArray } (.lst (ns.map V.int))) else none) (fun b => ?_) (.inl (.inr ⟨{ cls := .type "list", data := .seq vs.toArray }, if_pos rfl⟩)) (fun b u z => ?_) (fun b z => ?_) fun _ => hk
    · by_cases hb : b = a
      · exact .inr ⟨_, _, if_pos hb⟩
      · exact .inl (if_neg hb)
    · by_cases hb : b = a
      · have z' := (if_pos hb).symm.trans z
        cases z'
        subst hb
        exact ⟨ha, by rw [List.length_map]; exact hl, vs, _, rv, ha⟩
      · have z' := (if_neg hb).symm.trans z
        cases z'
    · by_cases hb : b = a
      · exact hb
      · exact absurd (if_neg hb) z
end L2

namespace L2
open PySem PySem.Spec PyProof.Rows


/-- the goal that k_head leaves (case hc), from the law's promise. F gives the function object fd (K's own) once, then the promise over every base -/
theorem walk_of {l : PySem.W.OpenLaw} {n k : Nat} {q : Program} {loose : List Str} {XP : (Str → Option Value) → Heap → Prop} {YP : World → Heap → Prop} {d : DefRec} {K : Params → PySem.W.Frag} {CX : World → CXT} {sp : World → Sp} {x : Str}
    (hn : l.most = some n) (hn2 : n ≤ sizeLine) (hdf : d.params.defaults = []) (hr : Room k callerA)
    (hY : ∀ (w : World) (h : Heap), YP w h → (K w.params).In h)
    (F : ∀ (w : World) (mg : Str → Option Value) (fa : Addr) (h : Heap), (K w.params).In h → h.Ns mainGlobals mg → mg d.name = some (.ref fa) →
      ∃ fd : FuncData, (∀ (s : Shared) (u : Value), BindsTo s fd ⟨[u], []⟩ [(x, u)]) ∧
        ∀ base : Heap, (K w.params).In base → base.Ns mainGlobals mg → FnOk l.prog w (K w.params) mg base (CX w) k fa fd [x] (sp w))
    (hsp : ∀ (w : World) (H : Hp) (a : Addr) (ns : List Int), ns.length ≤ n → Only H → SqL (K w.params) H a (ns.map V.int) → sp w [.ref a] H (fun v _ => v = .bl true) fun _ _ _ => False)
    (hCX : ∀ (w : World) (H : Hp) (s : Shared) (e : Value) (s' : Shared), CX w [] H s (fun _ _ _ => False) e s' → False) :
    PySem.W.WalkO q loose XP YP l.row.toRowW d [] (fun f vs => PySem.call f vs) := by
  refine Att.attach_call hn hdf fun w s₀ s₁ mg mb fa o pm cd doc a vs ns G Y ho hd hcd hmg hobj hints hlen hg => ?_
  have KX := hY w _ Y
  obtain ⟨fd, hb, hF⟩ := F w mg fa _ KX G.T.g hmg
  exact law_call KX G.T.g G.T.b G.T.builtins G.T.nolimit hg hobj hints (Nat.le_trans hlen hn2) hr hF hb (fun H hO hS => hsp w H a ns hlen hO hS) fun H e s' => hCX w H s₁ e s'
end L2

/- THE LAST THEOREM (shape; LID, My.* are yours):
   My.Adr: a structure of the addresses that your layer names (classes, functions); My.Txt K t: a structure (Prop) of the equations over K;
   My.txt_mk : {K} {implicit addresses ..} (e1 : nsIn K mainGlobals "law" = some (some (.ref f))) (e2 : K.lookup f = some ⟨oc, od, .func (fnOf "law" "law" params body scope dV kV doc pm an cdv ct), sl⟩) (e3 : codeIn K cdv "law" = true) .. : ∃ t, My.Txt K t

set_option maxRecDepth 100000 in
set_option maxHeartbeats 0 in
(the tactic k_is has no namespace: write k_is) -/

/-! SHORT WORDS over the layer: a def of the text, its body, what a loop and a test want. -/
namespace L2
open PySem PySem.Spec PyProof.Rows

/-! ### the text by places -/
/-- the j-th statement of a class's body -/
def inClass (s : Stmt) (j : Nat) : Stmt := match s with
  | .ClassDef _ _ _ body _ _ _ _ _ _ _ => body.getD j (.Pass ⟨0, 0, 0, 0⟩)
  | _ => .Pass ⟨0, 0, 0, 0⟩
def defArgs (s : Stmt) : Arguments := match s with
  | .FunctionDef _ a _ _ _ _ _ _ _ _ => a
  | _ => { posonlyargs := [], args := [], vararg := none, kwonlyargs := [], kw_defaults := [], kwarg := none, defaults := [] }
def defBody (s : Stmt) : List Stmt := match s with
  | .FunctionDef _ _ b _ _ _ _ _ _ _ => b
  | _ => []
def defScope (s : Stmt) : Scope := match s with
  | .FunctionDef _ _ _ _ _ _ sc _ _ _ => sc
  | _ => { kind := .function, names := [], isGenerator := false, isCoroutine := false }

/-! ### no exception leaves a def -/
abbrev CX0 : CXT := fun _ _ _ _ _ _ => False
abbrev E0 : XK := fun _ _ _ => False
theorem pass0 {X : Cx} : Passes CX0 X E0 := fun _ _ _ _ _ _ _ h => h.elim

/-! ### a def (or method) of the text as it stands behind the top -/
structure Fun (K : PySem.W.Frag) (x qual : Str) (st : Stmt) (f : Addr) (fd : FuncData) : Prop where
  ex : ∃ (oc : Value) (od : Option Addr) (kV doc pm : Value) (an : Option Addr) (cdv ct : Value) (osl : Array (Option Value)),
    fd = PySem.W.fnOf x qual (defArgs st) (defBody st) (defScope st) .none kV doc pm an cdv ct ∧ K.lookup f = some ⟨oc, od, .func fd, osl⟩ ∧ PySem.W.codeIn K cdv qual = true
  kp : PySem.W.keepIn K (.ref f) = true
section
variable {P : Program} {w : World} {K : PySem.W.Frag} {mg : Str → Option Value} {base : Heap}
/-- THE RULE for a def: its body as a term of rules, and the reading of that term -/
theorem Fun.ok {x qual : Str} {st : Stmt} {f : Addr} {fd : FuncData} {N ps : List Str} {k : Nat} {sp : Sp} (F : Fun K x qual st f fd) (S : FnScope N ps (defScope st)) (len : ∀ vs H Q E, sp vs H Q E → vs.length = ps.length)
    (hbody : ∀ (cdv : Value) (A : Around) (outer : List Env) (s : Shared) (H : Hp) (vs : List V) (Q : VK) (E : XK), Room k (A.deeper (envOfC qual (defScope st) s.heap.objs.size f cdv)) → sp vs H Q E →
      ∃ t, PSs (cxOf CX0 P w K mg base N qual (defScope st) f cdv A outer s H E).nox (defBody st) t ∧ t { nx := fun _ H' => Q .non H', rt := Q } (start N vs) H) : FnOk P w K mg base CX0 (k + 1) f fd ps sp := by
  obtain ⟨oc, od, kV, doc, pm, an, cdv, ct, osl, rfl, lk, hcd⟩ := F.ex
  refine fn_of lk hcd S len fun A outer s H vs Q E hr hsp => ?_
  obtain ⟨t, h, q⟩ := hbody cdv A outer s H vs Q E hr hsp
  exact ⟨t, h.nox, q⟩
/-- how its arguments bind (no defaults): h is «fun _ _ _ _ _ _ us hl => match us, hl with | [_, _], _ => rfl», one _ a parameter -/
theorem Fun.binds {x qual : Str} {st : Stmt} {f : Addr} {fd : FuncData} {ps : List Str} (F : Fun K x qual st f fd)
    (h : ∀ (kV doc pm : Value) (an : Option Addr) (cdv ct : Value) (us : List Value), us.length = ps.length → bindArgs (PySem.W.fnOf x qual (defArgs st) (defBody st) (defScope st) .none kV doc pm an cdv ct) ⟨us, []⟩ = pure (ps.zip us)) : Binds K fd ps [] := by
  obtain ⟨oc, od, kV, doc, pm, an, cdv, ct, osl, rfl, lk, hcd⟩ := F.ex
  exact .all (h kV doc pm an cdv ct)
theorem fun_mk {x qual : Str} {st : Stmt} {f : Addr} {oc : Value} {od an : Option Addr} {osl : Array (Option Value)} {kV doc pm cdv ct : Value} (l : K.lookup f = some ⟨oc, od, .func (PySem.W.fnOf x qual (defArgs st) (defBody st) (defScope st) .none kV doc pm an cdv ct), osl⟩)
    (c : PySem.W.codeIn K cdv qual = true) (k : PySem.W.keepIn K (.ref f) = true) : Fun K x qual st f (PySem.W.fnOf x qual (defArgs st) (defBody st) (defScope st) .none kV doc pm an cdv ct) := ⟨⟨oc, od, kV, doc, pm, an, cdv, ct, osl, rfl, l, c⟩, k⟩
end
theorem hu_of {A : Around} {k : Nat} (hr : Room k A) : A.units + 1 < cLine := Nat.lt_of_le_of_lt (Nat.add_le_add_left (by decide : 1 ≤ 64) _) hr.units
theorem small1000 {n : Nat} (h : n ≤ 1000) : n < sizeLine := Nat.lt_of_le_of_lt h (by decide)

/-! ### expressions in short: the name that stands in the i-th slot -/
section
variable {X : Cx}
theorem pv (i : Nat) {x : Str} {pos : Pos} (hN : X.N[i]? = some x := by rfl) (hv : Vis X.env.scope x := by first | exact Or.inl rfl | exact Or.inr (Or.inl rfl) | exact Or.inr (Or.inr rfl)) (hd : (x == ("__debug__" : Str)) = false := by decide)
    (hcd : (x == ("__classdict__" : Str)) = false := by decide) : PE X (.Name x pos) (tVar i) := pe_var hN hv hd hcd
end

/-! ### tests -/
theorem iteF {A B : Prop} (h : B) : if false = true then A else B := by
  rw [if_neg Bool.false_ne_true]
  exact h
theorem iteT {A B : Prop} (h : A) : if true = true then A else B := by
  rw [if_pos rfl]
  exact h
theorem iteNS {c A B : Prop} [Decidable c] (hc : c) (h : B) : if (!decide c) = true then A else B := by
  rw [decide_eq_true hc]
  exact iteF h

/-! ### heaps -/
/-- all that was tracked is as it was -/
def Same (H H' : Hp) : Prop := ∀ b o, H b = some o → H' b = some o
theorem Same.refl (H : Hp) : Same H H := fun _ _ h => h
theorem Same.trans {H H1 H2 : Hp} (a : Same H H1) (b : Same H1 H2) : Same H H2 := fun c o h => b c o (a c o h)
theorem Same.free {H H' : Hp} (e : Same H H') {l : Addr} (h : H' l = Option.none) : H l = Option.none := by
  cases q : H l with
  | none => rfl
  | some o =>
    rw [e l o q] at h
    cases h
theorem Same.seq {K : PySem.W.Frag} {H H' : Hp} {a : Addr} {xs : List V} (e : Same H H') (h : SqL K H a xs) : SqL K H' a xs := by
  rcases h with (h | ⟨o, h⟩) | h
  · exact .inl (.inl (e _ _ h))
  · exact .inl (.inr ⟨o, e _ _ h⟩)
  · exact .inr h

/-! ### a dict's pairs: keys that differ -/
section
variable {κ : Type} [DecidableEq κ]
theorem valV_not {kvs : List (κ × V)} {k : κ} (h : valV kvs k = none) : ¬ k ∈ kvs.map (·.1) := by
  intro m
  obtain ⟨p, hp, e⟩ := List.mem_map.mp m
  have q : (kvs.any fun kv => decide (kv.1 = k)) = true := List.any_eq_true.mpr ⟨p, hp, decide_eq_true e⟩
  rw [valV_any, h] at q
  exact absurd q (by simp)
theorem valV_in {kvs : List (κ × V)} {k : κ} {v : V} (h : valV kvs k = some v) : k ∈ kvs.map (·.1) := by
  have q : (kvs.any fun kv => decide (kv.1 = k)) = true := by
    rw [valV_any, h]
    all_goals rfl
  obtain ⟨p, hp, e⟩ := List.any_eq_true.mp q
  exact List.mem_map.mpr ⟨p, hp, of_decide_eq_true e⟩
theorem dropK_neg {p : κ × V} {r : List (κ × V)} {k : κ} (e : ¬ p.1 = k) : dropK (p :: r) k = p :: dropK r k := by
  unfold dropK
  rw [List.filter_cons, if_pos (by simp [e])]
theorem dropK_no : ∀ {kvs : List (κ × V)} {k : κ}, ¬ k ∈ kvs.map (·.1) → dropK kvs k = kvs
  | [], _, _ => rfl
  | p :: r, k, h => by
    have h' : ¬ k ∈ r.map (·.1) := fun m => by
      obtain ⟨q, hq, e⟩ := List.mem_map.mp m
      exact h (List.mem_map.mpr ⟨q, List.mem_cons.mpr (Or.inr hq), e⟩)
    rw [dropK_neg fun e => h (List.mem_map.mpr ⟨p, List.mem_cons.mpr (Or.inl rfl), e⟩), dropK_no h']
end
end L2


section
set_option maxHeartbeats 4000000
namespace L2
open PySem PySem.Spec PyProof.Rows

theorem closure_go (env : Env) : ∀ (names : List (Str × NameKind)) (cs : List (Str × Addr)), (∀ x ∈ names, x.2 = .free → ∃ c, env.cells.lookup x.1 = some c) → (∀ x c, cs.lookup x = some c → env.cells.lookup x = some c) →
    ∃ cl, (forIn names cs fun (x : Str × NameKind) (r : List (Str × Addr)) => match x with
      | (name, kind) => if (kind == NameKind.free) = true then (do let c ← cellOf env name; pure (ForInStep.yield ((name, c) :: r))) else (pure (ForInStep.yield r) : Sem (ForInStep (List (Str × Addr))))) = (pure cl : Sem (List (Str × Addr))) ∧
      (∀ x c, cl.lookup x = some c → env.cells.lookup x = some c) ∧ (∀ x, ((∃ c, cs.lookup x = some c) ∨ (x, NameKind.free) ∈ names) → ∃ c, cl.lookup x = some c) := by
  intro names
  induction names with
  | nil => intro cs _ h; exact ⟨cs, by simp, h, fun x hx => hx.elim id (fun z => nomatch z)⟩
  | cons p r ih =>
    intro cs hf h
    obtain ⟨name, kind⟩ := p
    by_cases hk : kind = .free
    · subst hk
      obtain ⟨c, hc⟩ := hf _ List.mem_cons_self rfl
      have hc' : env.cells.lookup name = some c := hc
      have e : cellOf env name = pure c := by unfold cellOf; rw [hc']
      obtain ⟨cl, h1, h2, h3⟩ := ih ((name, c) :: cs) (fun x hx => hf x (List.mem_cons_of_mem _ hx)) (fun x c' hx => by
        rw [List.lookup_cons] at hx
        split at hx
        · rename_i hb
          have : x = name := by simpa using hb
          subst this
          cases hx; exact hc'
        · exact h x c' hx)
      refine ⟨cl, ?_, h2, fun x hx => h3 x ?_⟩
      · rw [List.forIn_cons]
        simp only [beq_self_eq_true, if_true, e, pure_bind]
        exact h1
      · rcases hx with ⟨c', hx⟩ | hx
        · by_cases q : x = name
          · subst q; exact .inl ⟨c, by simp⟩
          · exact .inl ⟨c', by rw [List.lookup_cons, show (x == name) = false from beq_eq_false_iff_ne.mpr q]; exact hx⟩
        · rcases List.mem_cons.mp hx with z | z
          · cases z; exact .inl ⟨c, by simp⟩
          · exact .inr z
    · obtain ⟨cl, h1, h2, h3⟩ := ih cs (fun x hx => hf x (List.mem_cons_of_mem _ hx)) h
      refine ⟨cl, ?_, h2, fun x hx => h3 x ?_⟩
      · rw [List.forIn_cons]
        have hb : (kind == NameKind.free) = false := by simpa using hk
        simp only [hb, Bool.false_eq_true, if_false, pure_bind]
        exact h1
      · rcases hx with hx | hx
        · exact .inl hx
        · rcases List.mem_cons.mp hx with z | z
          · cases z; exact absurd rfl hk
          · exact .inr z
theorem closure_has (scope : Scope) (env : Env) (hf : ∀ x ∈ scope.names, x.2 = .free → ∃ c, env.cells.lookup x.1 = some c) :
    ∃ cl, closureFor scope env = pure cl ∧ (∀ x c, cl.lookup x = some c → env.cells.lookup x = some c) ∧ (∀ x, (x, NameKind.free) ∈ scope.names → ∃ c, cl.lookup x = some c) := by
  obtain ⟨cl, h1, h2, h3⟩ := closure_go env scope.names [] hf (fun x c h => by simp at h)
  refine ⟨cl, ?_, h2, fun x hx => h3 x (.inr hx)⟩
  unfold closureFor
  have e : ∀ (t : Sem (List (Str × Addr))), t = pure cl → (t >>= fun cs => pure cs) = pure cl := fun t ht => by rw [ht, pure_bind]
  exact e _ h1


theorem compLoop_any {prog : Program} {w : World} {A : Around} {R : Result → Shared → Prop} {s : Shared} {elt target iter : Expr} {ifs : List Expr} {scope : Scope} {pos : Pos} {it acc : Value} {env : Env} (I : Nat → Shared → Prop)
    (turn : ∀ n s, I n s → wpAny (model prog w) A (pyNext it) (fun r s₁ => match r with
      | none => R (.ok .next) s₁
      | some v => wpAny (model prog w) A (letOwnedTupleGo target it v) (fun _ s₁' => wpAny (model prog w) A (assign target env v) (fun _ s₂ =>
          wpAny (model prog w) A (forIn ifs true fun c r => if r = true then do let ok ← isTrue c env (eval c env); pure (ForInStep.yield ok) else pure (ForInStep.yield r)) (fun ok s₃ =>
            if ok = true then wpAny (model prog w) A (eval elt env) (fun x s₄ =>
              wpAny (model prog w) A (call (.builtin "list.append") [acc, x]) (fun _ s₅ => ∃ m, m < n ∧ I m s₅) (fun _ _ => False) s₄) (fun _ _ => False) s₃
            else ∃ m, m < n ∧ I m s₃) (fun _ _ => False) s₂) (fun _ _ => False) s₁') (fun _ _ => False) s₁) (fun _ _ => False) s)
    (n : Nat) (h : I n s) :
    codeAny (model prog w) A (.compLoop (.ListComp elt [⟨target, iter, ifs, 0⟩] scope pos) 0 it acc env) R s := by
  refine codeAny_loop rfl I (fun n s hI => ?_) n h
  show wpAny _ A ((compTurn (.ListComp elt [⟨target, iter, ifs, 0⟩] scope pos) 0 it acc env).onRaise (fun x => do noteFrame x env; theTreesLotGoes x)) _ _ s
  refine wpAny_noted ?_
  rw [compTurn_list]
  refine wpAny_bind (wpAny_standAt (wpAny_bind (wpAny_mono (turn n s hI) (fun r s₁ h₁ => ?_) fun _ _ h' => h'.elim)))
  cases r with
  | none => exact wpAny_pure h₁
  | some v =>
    refine wpAny_bind (wpAny_mono h₁ (fun _ s₁' h₁' => ?_) fun _ _ h' => h'.elim)
    refine wpAny_bind (wpAny_mono h₁' (fun _ s₂ h₂ => wpAny_bind (wpAny_mono h₂ (fun ok s₃ h₃ => ?_) fun _ _ h' => h'.elim)) fun _ _ h' => h'.elim)
    cases ok with
    | false => exact wpAny_pure ⟨rfl, h₃⟩
    | true =>
      exact wpAny_bind (wpAny_bind (wpAny_mono h₃ (fun x s₄ h₄ => wpAny_bind (wpAny_mono h₄ (fun _ s₅ h₅ => wpAny_pure (wpAny_pure ⟨rfl, h₅⟩)) fun _ _ h' => h'.elim)) fun _ _ h' => h'.elim))

/-- the context of a comprehension's block: the names of the def keep their slots, the block's own stand behind them -/
def cxComp (X : Cx) (scope : Scope) (own : List Str) (cl : List (Str × Addr)) (C : Addr) (s : Shared) (H : Hp) (fp : List Addr) : Cx :=
  { X with N := X.N ++ own, s₀ := s, H₀ := H, env := compEnvC scope cl C X.env, outer := X.stack, ex := fp, fn := fun _ => false, pn := [], xe := fun _ _ => False }

/-- the tests of a clause -/
def PTs (X : Cx) (ifs : List Expr) (t : TT) : Prop :=
  ∀ (pins : List (Addr × Obj)) (s : Shared) (σ : St) (H : Hp) (Q : Bool → Hp → Prop), Inv X pins σ H s → t σ H Q →
    wpAny (model X.prog X.w) X.A (forIn ifs true fun c r => if r = true then do let ok ← isTrue c X.env (eval c X.env); pure (ForInStep.yield ok) else pure (ForInStep.yield r)) (TP X pins σ Q) X.xe s
def tYes : TT := fun _ H Q => Q true H
theorem pts_nil {X : Cx} : PTs X [] tYes := fun _ _ _ H _ I h => wpAny_tests_nil ⟨H, I, h⟩
theorem pts_one {X : Cx} {c : Expr} {t : TT} (h : PT X c t) : PTs X [c] t := fun pins s σ H Q I q => wpAny_tests_one (h pins s σ H Q I q)

/-- what a comprehension's scope must be -/
structure LcScope (X : Cx) (scope : Scope) (own : List Str) : Prop where
  kind : scope.kind = .function
  cell : ∀ y ∈ scope.names, y.2 ≠ .cell
  names : ∀ y ∈ scope.names, y.2 = .local → scope.names.lookup y.1 = some .local
  free : ∀ y ∈ scope.names, y.2 = .free → X.env.kindOf y.1 = some .cell ∨ X.env.kindOf y.1 = some .free
  loc : ∀ y ∈ scope.names, y.2 = .local → y.1 ∉ X.N

theorem vis_relabel {scope : Scope} {env : Env} {x : Str} : ∀ {names : List (Str × NameKind)}, (∀ y ∈ names, y.2 ≠ NameKind.cell) →
    ∀ k, (names.map fun (n, k) => if (k == NameKind.free && env.scope.kind == .function && env.kindOf n == some .cell) then (n, NameKind.cell) else (n, k)).lookup x = some k →
      (k = .cell → (x, NameKind.free) ∈ names) ∧ (k = .free → (x, NameKind.free) ∈ names) ∧ (k = .local → (x, NameKind.local) ∈ names)
  | [], _, k, h => by simp at h
  | (n, k0) :: r, hc, k, h => by
    have ih := vis_relabel (scope := scope) (env := env) (x := x) (names := r) (fun y hy => hc y (List.mem_cons_of_mem _ hy))
    have h : List.lookup x ((if (k0 == NameKind.free && env.scope.kind == .function && env.kindOf n == some .cell) = true then (n, NameKind.cell) else (n, k0)) :: _) = some k := h
    cases hx : x == n with
    | true =>
      have e : x = n := by simpa using hx
      subst e
      by_cases hb : (k0 == NameKind.free && env.scope.kind == .function && env.kindOf x == some .cell) = true
      · have e0 : k0 = NameKind.free := by
          simp only [Bool.and_eq_true] at hb
          simpa using hb.1.1
        rw [if_pos hb] at h
        simp only [List.lookup_cons, hx] at h
        have ek : NameKind.cell = k := Option.some.inj h
        clear h
        subst ek
        rw [e0]
        exact ⟨fun _ => List.mem_cons_self, fun z => (nomatch z), fun z => (nomatch z)⟩
      · rw [if_neg hb] at h
        simp only [List.lookup_cons, hx] at h
        cases h
        exact ⟨fun z => absurd z (hc _ List.mem_cons_self), fun z => by subst z; exact List.mem_cons_self, fun z => by subst z; exact List.mem_cons_self⟩
    | false =>
      have h' : List.lookup x (r.map fun (n, k) => if (k == NameKind.free && env.scope.kind == .function && env.kindOf n == some .cell) then (n, NameKind.cell) else (n, k)) = some k := by
        by_cases hb : (k0 == NameKind.free && env.scope.kind == .function && env.kindOf n == some .cell) = true
        · rw [if_pos hb] at h
          simp only [List.lookup_cons, hx] at h
          exact h
        · rw [if_neg hb] at h
          simp only [List.lookup_cons, hx] at h
          exact h
      obtain ⟨a, b, c⟩ := ih k h'
      exact ⟨fun z => List.mem_cons_of_mem _ (a z), fun z => List.mem_cons_of_mem _ (b z), fun z => List.mem_cons_of_mem _ (c z)⟩

def lcOk (scope : Scope) (en : List (Str × NameKind)) (N : List Str) : Bool :=
  (match scope.kind with | .function => true | _ => false) && scope.names.all fun y => match y.2 with
    | .cell => false
    | .local => (match scope.names.lookup y.1 with | some .local => true | _ => false) && !N.contains y.1
    | .free => (match en.lookup y.1 with | some .cell => true | some .free => true | _ => false)
    | _ => true
theorem LcScope.of {X : Cx} {scope : Scope} {own : List Str} (h : lcOk scope X.env.scope.names X.N = true) : LcScope X scope own := by
  unfold lcOk at h
  obtain ⟨h1, h2⟩ := (Bool.and_eq_true _ _).mp h
  have h2 := List.all_eq_true.mp h2
  refine ⟨?_, fun y hy e => ?_, fun y hy e => ?_, fun y hy e => ?_, fun y hy e => ?_⟩
  · revert h1; cases scope.kind <;> simp
  · have := h2 y hy
    simp [e] at this
  · have := h2 y hy
    simp only [e, Bool.and_eq_true] at this
    have z := this.1
    revert z
    cases q : scope.names.lookup y.1 with
    | none => simp
    | some k => cases k <;> simp
  · have := h2 y hy
    simp only [e] at this
    show X.env.scope.names.lookup y.1 = some .cell ∨ X.env.scope.names.lookup y.1 = some .free
    revert this
    cases q : X.env.scope.names.lookup y.1 with
    | none => simp
    | some k => cases k <;> simp
  · have := h2 y hy
    simp only [e, Bool.and_eq_true] at this
    simpa using this.2

section
variable {X : Cx} {pins : List (Addr × Obj)} {σ : St} {H : Hp} {s : Shared}
/-- the block's start -/
theorem comp_start {scope : Scope} {own : List Str} {cl : List (Str × Addr)} {C : Addr} {fp : List Addr} {h1 : Heap} {tk : Nat} {m : Str → Option Value} (S : LcScope X scope own)
    (c1 : ∀ x c, cl.lookup x = some c → X.env.cells.lookup x = some c) (c2 : ∀ x, (x, NameKind.free) ∈ scope.names → ∃ c, cl.lookup x = some c)
    (I : Inv X pins σ H s) (hf : ∀ b ∈ fp, FpOk X pins H b) (ho : ∀ b ∈ fp, ∃ o, s.heap.get? b = some o) (hC : C = s.heap.objs.size) (hn : h1.Ns C m) (k : ∀ b o, s.heap.get? b = some o → h1.get? b = some o) :
    Inv (cxComp X scope own cl C s H fp) [] (σ ++ List.replicate own.length none) H { s with heap := h1, toks := tk } := by
  subst hC
  have e0 := I.env0
  refine ⟨⟨e0.mod, S.kind, I.ok.glob, I.ok.blt, Nat.le_refl _, fun x y c h1 h2 => I.ok.inj x y c (c1 x c h1) (c1 y c h2), fun x hx => ?_, fun x c h _ => absurd h Bool.false_ne_true, I.ok.hd, I.ok.frames, .inl rfl, fun b hb => ⟨?_, fun x c h z => ?_⟩, e0.bs, e0.bsz, fun b o e hb => ?_, fun b hb z => ?_, e0.funs, e0.frf⟩,
    rfl, I.bare, Un.kept k, ⟨m, hn, fun i x v e1 e2 e3 => ?_⟩, fun x c h => ?_, I.hok.fresh (Nat.le_refl _), fun x c h => I.freeC x c (c1 x c h), fun p hp => absurd (show p ∈ ([] : List (Addr × Obj)) from hp) (by simp), I.hok.kept k, ?_⟩
  · have hx : (relabel scope X.env).names.lookup x = some .cell ∨ (relabel scope X.env).names.lookup x = some .free := hx
    rcases hx with hx | hx
    · exact c2 x ((vis_relabel (scope := scope) S.cell _ hx).1 rfl)
    · exact c2 x ((vis_relabel (scope := scope) S.cell _ hx).2.1 rfl)
  · obtain ⟨o, e⟩ := ho b hb
    exact Nat.ne_of_lt (Heap.lt_size e)
  · exact (hf b hb).2.2.2.2.1 x c (c1 x c h) z
  · obtain ⟨_, _, _, f3, _⟩ := hf b hb
    rcases f3 with z | z
    · exact I.ok.noex b o e z
    · exact absurd (Nat.lt_of_lt_of_le (Heap.lt_size (I.ok.bs b o e).1) z) (Nat.lt_irrefl _)
  · obtain ⟨_, f1, f2, _⟩ := hf b hb
    rcases List.mem_cons.mp (I.stkSub b z) with q | q
    · exact f1 q
    · exact f2 q
  · have hi : i < σ.length := by
      by_cases hi : i < σ.length
      · exact hi
      · rw [List.getElem?_append_right (by omega), List.getElem?_replicate] at e2
        split at e2 <;> cases e2
    rw [List.getElem?_append_left hi] at e2
    have e1 : X.N[i]? = some x := by
      have hl : i < X.N.length := by rw [← I.len]; exact hi
      rw [← e1]
      show X.N[i]? = (X.N ++ own)[i]?
      rw [List.getElem?_append_left hl]
    have e3 : (relabel scope X.env).names.lookup x = some .local ∨ (relabel scope X.env).names.lookup x = some .cell ∨ (relabel scope X.env).names.lookup x = some .free := e3
    have fr : (x, NameKind.free) ∈ scope.names := by
      rcases e3 with z | z | z
      · exact absurd (List.mem_of_getElem? e1) (S.loc _ ((vis_relabel (scope := scope) S.cell _ z).2.2 rfl) rfl)
      · exact (vis_relabel (scope := scope) S.cell _ z).1 rfl
      · exact (vis_relabel (scope := scope) S.cell _ z).2.1 rfl
    have kk := S.free _ fr rfl
    have vs : Vis X.env.scope x := by
      rcases kk with z | z
      · exact .inr (.inl z)
      · exact .inr (.inr z)
    obtain ⟨m0, hn0, hl0⟩ := I.loc
    obtain ⟨u, r, l⟩ := hl0 i x v e1 e2 vs
    refine ⟨u, r, ?_⟩
    have k2 : X.env.kindOf x = some .cell ∨ X.env.kindOf x = some .free := kk
    rcases l with ⟨l, _⟩ | ⟨_, c, hc, hce⟩
    · rcases k2 with z | z
      · rw [z] at l; cases l
      · rw [z] at l; cases l
    · obtain ⟨c', hc'⟩ := c2 x fr
      have : c' = c := Option.some.inj ((c1 x c' hc').symm.trans hc)
      subst this
      refine .inr ⟨?_, c', hc', ?_⟩
      · rcases e3 with z | z | z
        · exact absurd (List.mem_of_getElem? e1) (S.loc _ ((vis_relabel (scope := scope) S.cell _ z).2.2 rfl) rfl)
        · exact .inl z
        · exact .inr z
      · obtain ⟨o, ho', hd⟩ := hce
        exact ⟨o, k _ _ ho', hd⟩
  · obtain ⟨v, o, ho', hd⟩ := I.cell x c (c1 x c h)
    exact ⟨v, o, k _ _ ho', hd⟩
  · show (σ ++ List.replicate own.length none).length = (X.N ++ own).length
    rw [List.length_append, List.length_append, List.length_replicate, I.len]

/-- the loop of a comprehension -/
def LcW (J : It) (D : Addr) (n : Nat) (g : TG) (tc : TT) (te : TE) (σ : St) (Qd : Addr → Hp → Prop) (H1 : Hp) : Prop :=
  ∃ W : Nat → Nat → Hp → Prop, (∃ m, W 0 m (upd H1 D (.lst []))) ∧
    ∀ i m H, W i m H → (J.stop i H ∧ Qd D H) ∨ (J.go i H ∧ ∃ N : Hp → Prop, (∀ H', N H' → ∃ m', m' < m ∧ W (i + 1) m' H') ∧ ∀ x H', J.yld i H x H' → g x (σ ++ List.replicate n none) H' fun σ2 H2 => (∀ (j : Nat) v, (σ ++ List.replicate n none)[j]? = some (some v) → σ2[j]? = some (some v)) ∧ tc σ2 H2 fun b H3 =>
      if b = true then te σ2 H3 fun y H4 => ∃ ys, H4 D = some (.lst ys) ∧ ys.length < sizeLine ∧ N (upd H4 D (.lst (ys ++ [y]))) else N H3)
/-- the reading of a list comprehension of one clause; n: how many names of its own it has -/
def tLcR (n : Nat) (wi : TI) (g : TG) (tc : TT) (te : TE) (σ : St) (H : Hp) (Qd : Addr → Hp → Prop) : Prop := wi σ H fun J H1 => ∀ D, H1 D = none → LcW J D n g tc te σ Qd H1

theorem comp_run {elt iter tg : Expr} {ifs : List Expr} {scope : Scope} {pos cpos : Pos} {own : List Str} {wi : TI} {g : TG} {tc : TT} {te : TE} {use : Option (Value → Sem Unit)} {Q : Value → Shared → Prop} {Qd : Addr → Hp → Prop}
    (hc : X.calm = true) (S : LcScope X scope own) (hi : PI X tg iter wi)
    (hb : ∀ cl C s H fp, PG (cxComp X scope own cl C s H fp) tg g ∧ PTs (cxComp X scope own cl C s H fp) ifs tc ∧ PE (cxComp X scope own cl C s H fp) elt te)
    (hs : ∀ x, foldedSetIterable iter X.env x = pure x)
    (I : Inv X pins σ H s) (h : tLcR own.length wi g tc te σ H Qd)
    (hpost : ∀ D C H' s' m, Inv X pins σ H' s' → FpOk X pins H' C → s'.heap.Ns C m → Qd D H' → compPost (model X.prog X.w) X.A X.xe use Q (.ref D) C (.ok .next) s') :
    wpAny (model X.prog X.w) X.A (comprehension (.ListComp elt [⟨tg, iter, ifs, 0⟩] scope pos) scope X.env cpos (newList []) false (eval iter X.env) use) Q X.xe s := by
  have hf : ∀ x ∈ scope.names, x.2 = .free → ∃ c, X.env.cells.lookup x.1 = some c := fun x hx e => I.ok.has x.1 (S.free x hx e)
  obtain ⟨cl, hcl, c1, c2⟩ := closure_has scope X.env hf
  refine wpAny_comprehension_free (g := ⟨tg, iter, ifs, 0⟩) rfl hs hcl S.kind S.names (thn (hi pins s σ H _ I h) fun v s1 h1 => thn h1 fun itv s2 h2 => ?_)
  obtain ⟨it, fp, tn, J, H2, rfl, I2, T, st2, f2, q2⟩ := h2
  refine wpAny_newObj_type (hd := by size_fits) (wpAny_newFunctionEnv S.cell (by intro y hy; simp at hy) (fun h₁ hns₁ hsb₁ => ?_) S.kind)
  dsimp only at hns₁ hsb₁ ⊢
  have hD := I2.fresh
  obtain ⟨W, ⟨m0, w0⟩, turn⟩ := q2 _ hD
  have I3 : Inv X pins σ (upd H2 s2.heap.objs.size (.lst [])) { s2 with heap := s2.heap.push { cls := .type "list", data := .seq ([] : List Value).toArray }, toks := s2.toks } := I2.lnew .nil (Nat.zero_le _)
  generalize hs3 : ({ s2 with heap := s2.heap.push { cls := .type "list", data := .seq ([] : List Value).toArray }, toks := s2.toks } : Shared) = s3 at I3
  have e3 : s3.heap = s2.heap.push { cls := .type "list", data := .seq ([] : List Value).toArray } := by rw [← hs3]
  have k3 : ∀ b o, s2.heap.get? b = some o → s3.heap.get? b = some o := fun b o e => by rw [e3]; exact Heap.get?_push_of_some _ e
  have hC : (s2.heap.push { cls := .type "list", data := .seq ([] : List Value).toArray }).objs.size = s3.heap.objs.size := by rw [e3]
  have k4 : ∀ b o, s3.heap.get? b = some o → h₁.get? b = some o := fun b o e => by
    have hb : b ≠ s3.heap.objs.size := Nat.ne_of_lt (Heap.lt_size e)
    refine (hsb₁.2 b (by rw [hC]; exact hb)).trans ?_
    rw [e3] at e
    exact Heap.get?_push_of_some _ e
  have nD : ∀ b ∈ fp, b ≠ s2.heap.objs.size := fun b hb => by
    obtain ⟨o, e, _⟩ := T.obj _ _ st2 b hb
    exact Nat.ne_of_lt (Heap.lt_size e)
  have f3 : ∀ b ∈ fp, FpOk X pins (upd H2 s2.heap.objs.size (.lst [])) b := fun b hb => by
    obtain ⟨g0, g1⟩ := f2 b hb
    exact ⟨by rw [upd_ne (nD b hb)]; exact g0, g1⟩
  have o3 : ∀ b ∈ fp, ∃ o, s3.heap.get? b = some o := fun b hb => by
    obtain ⟨o, e, _⟩ := T.obj _ _ st2 b hb
    exact ⟨o, k3 b o e⟩
  have hgen : s3.gens = s2.gens ∧ s3.os = s2.os ∧ s3.drawn = s2.drawn ∧ s3.toks = s2.toks := by rw [← hs3]; exact ⟨rfl, rfl, rfl, rfl⟩
  have I4 := comp_start (tk := s2.toks) (h1 := h₁) S c1 c2 I3 f3 o3 hC hns₁ k4
  generalize hCC : (s2.heap.push { cls := .type "list", data := .seq ([] : List Value).toArray }).objs.size = C at *
  have e4 : ({ s3 with heap := h₁, toks := s2.toks } : Shared) = { s2 with heap := h₁, toks := s2.toks } := by rw [← hs3]
  rw [e4] at I4
  have st4 : tn 0 h₁ := T.keep _ _ _ st2 fun b hb o e => k4 b o (k3 b o e)
  obtain ⟨bG, bT, bE⟩ := hb cl C s3 (upd H2 s2.heap.objs.size (.lst [])) fp
  generalize hX : cxComp X scope own cl C s3 (upd H2 s2.heap.objs.size (.lst [])) fp = X' at *
  have xP : X'.prog = X.prog := by rw [← hX]; rfl
  have xw : X'.w = X.w := by rw [← hX]; rfl
  have xK : X'.K = X.K := by rw [← hX]; rfl
  have xA : X'.A = X.A := by rw [← hX]; rfl
  have xc : X'.calm = true := by rw [← hX]; exact hc
  have xE : X'.env = compEnvC scope cl C X.env := by rw [← hX]; rfl
  have xx : X'.xe = fun _ _ => False := by rw [← hX]; rfl
  have xpn : X'.pn = [] := by rw [← hX]; rfl
  have hCs : C = s3.heap.objs.size := hC
  -- the iterator's objects through the loop
  have stat : ∀ {H' : Hp}, (∀ b ∈ fp, H' b = none) → ∀ b ∈ fp, FpOk X' [] H' b := fun {H'} hn b hb => by
    have z := (I4.ok.exf b (by rw [← hX]; exact hb))
    refine ⟨hn b hb, z.1, I4.ok.exfs b (by rw [← hX]; exact hb), .inl (by rw [← hX]; exact hb), z.2, fun p hp => ?_⟩
    rw [xpn] at hp
    exact absurd hp (by simp)
  -- behind the block
  have fin : ∀ {H' : Hp} {s' : Shared} {σ' : St}, Inv X' [] σ' H' s' → Qd s2.heap.objs.size H' → compPost (model X.prog X.w) X.A X.xe use Q (.ref s2.heap.objs.size) C (.ok .next) s' := fun {H' s' σ'} I' q => by
    have un : Un (frs X.stack) fp (upd H2 s2.heap.objs.size (.lst [])) H' s3.heap s'.heap := by
      have z := I'.base
      rw [← hX] at z
      exact z
    have os : s'.os = s3.os := by
      have z := I'.os
      rw [← hX] at z
      exact z
    have hok : HOk X.prog X.w H' s'.heap := by rw [← xP, ← xw]; exact I'.hok
    obtain ⟨hh, gg, dd, tt, oo⟩ := s'
    obtain rfl : oo = s3.os := os
    have IX : Inv X pins σ H' { s3 with heap := hh, gens := gg, drawn := dd, toks := tt } := I3.call (ch := fp) un hok I'.bare fun b hb => by
      obtain ⟨g0, g1, g2, g3, g4, g5⟩ := f3 b hb
      exact ⟨g3, g1, g4, g5⟩
    obtain ⟨m, hn, _⟩ := I'.loc
    have hn : hh.Ns C m := by rw [xE] at hn; exact hn
    have hfr : H' C = none := by have z := I'.free; rw [xE] at z; exact z
    refine hpost _ C H' _ m IX ?_ hn q
    refine ⟨hfr, ?_, ?_, .inr ?_, fun x c hx z => ?_, fun p hp z => ?_⟩
    · rw [hCs]; exact Nat.ne_of_gt I3.lt
    · rw [hCs]; exact I3.nofs (Nat.le_refl _)
    · rw [hCs]; exact I3.sz
    · obtain ⟨v, o, ho, _⟩ := I3.cell x c hx
      exact absurd (Heap.lt_size ho) (by rw [z, hCs]; exact Nat.lt_irrefl _)
    · exact absurd (Heap.lt_size (I3.pin p hp).1) (by rw [z, hCs]; exact Nat.lt_irrefl _)
  have loop : ∀ s₃ : Shared, s₃ = { s2 with heap := h₁, toks := s2.toks } →
      codeAny (model X.prog X.w) X.A (.compLoop (.ListComp elt [⟨tg, iter, ifs, 0⟩] scope pos) 0 (.ref it) (.ref s2.heap.objs.size) (compEnvC scope cl C X.env)) (compPost (model X.prog X.w) X.A X.xe use Q (.ref s2.heap.objs.size) C) s₃ := by
    rintro s₃ rfl
    rw [← xP, ← xw, ← xA, ← xE]
    refine compLoop_any (fun n s' => ∃ i H', Inv X' [] (σ ++ List.replicate own.length none) H' s' ∧ tn i s'.heap ∧ (∀ b ∈ fp, H' b = none) ∧ W i n H') ?_ m0 ⟨0, _, I4, st4, fun b hb => (f3 b hb).1, w0⟩
    rintro n s5 ⟨i, H5, I5, st5, fr5, w5⟩
    rcases turn i n H5 w5 with ⟨stop, qn⟩ | ⟨go, N, hN, step⟩
    · have zd := T.done X' xP xw xK xc i [] s5 _ H5 (fun _ _ => False) I5 (stat fr5) st5 stop
      rw [← xP, ← xw] at zd
      refine thn zd fun r s6 ⟨hr, I6⟩ => ?_
      subst hr
      have z := fin I6 qn
      rw [← xP, ← xw, ← xA] at z
      exact z
    · have zi := T.item X' xP xw xK xc i [] s5 _ H5 (fun _ _ => False) I5 (stat fr5) st5 go
      rw [← xP, ← xw] at zi
      refine thn zi fun r s6 ⟨u, hr, h6⟩ => ?_
      subst hr
      refine thn h6 fun _ s7 ⟨x, H7, I7, r7, y7, st7, fr7⟩ => ?_
      have I7' := I7.pinned (stat fr7) (T.obj _ _ st7)
      have bG' := bG _ s7 _ H7 x u _ I7' r7 (step x H7 y7)
      rw [xx] at bG'
      refine thn bG' fun _ s8 ⟨σ8, H8, I8, w8, q8⟩ => ?_
      have bT' := bT _ s8 σ8 H8 _ I8 q8
      rw [xx] at bT'
      refine thn bT' fun b s9 ⟨H9, I9, q9⟩ => ?_
      have again : ∀ {H10 : Hp} {s10 : Shared}, Inv X' ([] ++ pinsAt fp s7.heap) σ8 H10 s10 → N H10 → ∃ m, m < n ∧ ∃ i H', Inv X' [] (σ ++ List.replicate own.length none) H' s10 ∧ tn i s10.heap ∧ (∀ b ∈ fp, H' b = none) ∧ W i m H' := fun {H10 s10} I10 n10 => by
        obtain ⟨m', hm, w10⟩ := hN H10 n10
        refine ⟨m', hm, i + 1, H10, ?_, T.keep _ _ _ st7 fun b hb o e => (I10.pin (b, o) (List.mem_append_right _ (List.mem_append_right _ (mem_pinsAt hb e)))).1, fun b hb => ?_, w10⟩
        · exact I10.unpinned.weak (by rw [I5.len, I10.len]) w8
        · obtain ⟨o, e, d⟩ := T.obj _ _ st7 b hb
          exact (I10.pin (b, o) (List.mem_append_right _ (List.mem_append_right _ (mem_pinsAt hb e)))).2.1
      cases b with
      | false =>
        rw [if_neg Bool.false_ne_true] at q9 ⊢
        exact again I9 q9
      | true =>
        rw [if_pos rfl] at q9 ⊢
        have bE' := bE _ s9 σ8 H9 _ I9 q9
        rw [xx] at bE'
        refine thn bE' fun y s10 ⟨vy, H10, I10, r10, ys, hy1, hy2, hy3⟩ => ?_
        have ap := mt_append (X := X') _ s10 σ8 H10 (.ref s2.heap.objs.size) [vy] (.ref s2.heap.objs.size) [y] (fun _ H' => N H') I10 rfl (.cons r10 .nil) ⟨_, ys, vy, rfl, rfl, hy1, hy2, hy3⟩
        rw [xx] at ap
        exact thn ap fun _ s11 ⟨_, H11, I11, _, n11⟩ => again I11 n11
  exact codeAny_compStart_list (loop _ rfl) (wpAny_mono (T.self X.A 0 _ (fun v s' => v = .ref it ∧ s' = { s2 with heap := h₁, toks := s2.toks }) _ st4 ⟨rfl, rfl⟩) (fun v s' ⟨e1, e2⟩ => by subst e1; exact loop _ e2) fun _ _ z => z)
end
end L2

end

section
set_option maxHeartbeats 4000000
namespace L2
open PySem PySem.Spec PyProof.Rows

/-! ### a list comprehension as a value, as what a name is set to -/
section
variable {X : Cx} {elt iter tg : Expr} {ifs : List Expr} {scope : Scope} {pos : Pos} {own : List Str} {wi : TI} {g : TG} {tc : TT} {te : TE}
def tLc (n : Nat) (wi : TI) (g : TG) (tc : TT) (te : TE) : TE := fun σ H Q => tLcR n wi g tc te σ H fun D H' => Q (.ref D) H'
theorem pe_lc (hc : X.calm = true) (S : LcScope X scope own) (hi : PI X tg iter wi)
    (hb : ∀ cl C s H fp, PG (cxComp X scope own cl C s H fp) tg g ∧ PTs (cxComp X scope own cl C s H fp) ifs tc ∧ PE (cxComp X scope own cl C s H fp) elt te)
    (hs : ∀ x, foldedSetIterable iter X.env x = pure x := by intro _; rfl) : PE X (.ListComp elt [⟨tg, iter, ifs, 0⟩] scope pos) (tLc own.length wi g tc te) := by
  intro pins s σ H Q I h
  rw [eval_ListComp]
  refine comp_run (use := none) hc S hi hb hs I h fun D C H' s' m I' f hn q => ?_
  refine ⟨m, hn, fun h' sb => ⟨.ref D, H', ?_, rfl, q⟩⟩
  obtain ⟨f0, f1, f2, f3, f4, f5⟩ := f
  exact I'.turned (t' := s'.toks) (fun b o hb e => (sb.2 b hb).trans e) f0 f1 f3 f4 f5
/-- x = [.. for ..]: the name is stored ahead of the block's names being let go -/
def sLc (n i : Nat) (wi : TI) (g : TG) (tc : TT) (te : TE) : TS := fun D σ H => tLcR n wi g tc te σ H fun d H' => D.nx (σ.set i (some (.ref d))) H'
theorem ps_setLc {i : Nat} {x : Str} {px spos : Pos} (hc : X.calm = true) (S : LcScope X scope own) (hi : PI X tg iter wi)
    (hb : ∀ cl C s H fp, PG (cxComp X scope own cl C s H fp) tg g ∧ PTs (cxComp X scope own cl C s H fp) ifs tc ∧ PE (cxComp X scope own cl C s H fp) elt te)
    (hN : X.N.Nodup) (hx : X.N[i]? = some x) (hl : Loc X.env.scope x)
    (hsw : swapsWith (.ListComp elt [⟨tg, iter, ifs, 0⟩] scope pos) (some (.Name x px)) spos.line X.env = pure true)
    (hs : ∀ x, foldedSetIterable iter X.env x = pure x := by intro _; rfl) (hf : X.fn x = true ∨ X.env.scope.names.lookup x = some .local := by first | exact .inl rfl | exact .inr rfl | assumption) :
    PS X (.Assign [.Name x px] (.ListComp elt [⟨tg, iter, ifs, 0⟩] scope pos) spos) (sLc own.length i wi g tc te) := by
  intro pins s σ H D I h
  rw [exec_Assign_Name_used _ _ _ _ hsw]
  refine wpAny_bind (wpAny_standAt (wpAny_bind ?_))
  show wpAny _ X.A (do let _ ← comprehension (.ListComp elt [⟨tg, iter, ifs, 0⟩] scope pos) scope X.env _ (newList []) false (eval iter X.env) (some (assign (.Name x px) X.env))) _ _ s
  refine wpAny_bind (thn (comp_run (use := some (assign (.Name x px) X.env)) (Q := fun _ s' => SP X pins D .next s') hc S hi hb hs I h fun d C H' s' m I' f hn q => ?_) fun _ s' hq => wpAny_pure (wpAny_pure hq))
  obtain ⟨f0, f1, f2, f3, f4, f5⟩ := f
  obtain ⟨o, es, ep, ho, hd, hr⟩ := id hn
  have Ip : Inv X (pins ++ [(C, o)]) σ H' s' := I'.pins_of fun p hp => by
    rcases List.mem_append.mp hp with z | z
    · exact I'.pin p (List.mem_append_right _ z)
    · obtain rfl : p = (C, o) := by simpa using z
      exact ⟨ho, f0, f1, f2, fun v z => by rw [hd] at z; cases z⟩
  refine thn (pg_name hN hx hl hf (X := X) (pos := px) (pins ++ [(C, o)]) s' σ H' (.ref d) (.ref d) (fun σ' H'' => D.nx σ' H'') Ip rfl q) fun _ s2 ⟨σ2, H2, I2, q2⟩ => ?_
  obtain ⟨k1, k2, _⟩ := I2.pin (C, o) (List.mem_append_right _ (List.mem_append_right _ (by simp)))
  refine ⟨m, ⟨o, es, ep, k1, hd, hr⟩, fun h' sb => ⟨σ2, H2, ?_, q2⟩⟩
  exact I2.unpinned.turned (t' := s2.toks) (fun b o hb e => (sb.2 b hb).trans e) k2 f1 f3 f4 f5
end

/-! ### data: what a value is, all the way down -/
mutual
inductive Dt (K : PySem.W.Frag) (H : Hp) : V → PyData → Prop
  | non : Dt K H .non .none
  | bl (b : Bool) : Dt K H (.bl b) (.bool b)
  | int (i : Int) : Dt K H (.int i) (.int i)
  | str (x : Str) : Dt K H (.str x) (.str x)
  | lst {a : Addr} {xs : List V} {ds : List PyData} : SqL K H a xs → Dts K H xs ds → Dt K H (.ref a) (.list ds)
  | tup {a : Addr} {xs : List V} {ds : List PyData} : SqT K H a xs → Dts K H xs ds → Dt K H (.ref a) (.tuple ds)
inductive Dts (K : PySem.W.Frag) (H : Hp) : List V → List PyData → Prop
  | nil : Dts K H [] []
  | cons {v : V} {d : PyData} {vs : List V} {ds : List PyData} : Dt K H v d → Dts K H vs ds → Dts K H (v :: vs) (d :: ds)
end
section
variable {X : Cx} {pins : List (Addr × Obj)} {σ : St} {H : Hp} {s : Shared}
mutual
theorem Dt.reads (I : Inv X pins σ H s) : ∀ {v : V} {d : PyData} {u : Value}, Dt X.K H v d → RelV v u → ∃ as, Reads s.heap u d as
  | _, _, _, .non, r => by cases r; exact ⟨_, .none⟩
  | _, _, _, .bl b, r => by cases r; exact ⟨_, .bool b⟩
  | _, _, _, .int i, r => by obtain ⟨t, rfl⟩ := r; exact ⟨_, .int i t⟩
  | _, _, _, .str x, r => by obtain ⟨t, rfl⟩ := r; exact ⟨_, .str x t⟩
  | _, _, _, .lst q ds, r => by
    cases r
    obtain ⟨its, rv, ⟨o, n, e, hc, _, hd⟩, _⟩ := I.list q
    obtain ⟨as, ra⟩ := Dts.reads I ds rv
    exact ⟨_, .list e hc hd (by simpa using ra)⟩
  | _, _, _, .tup q ds, r => by
    cases r
    obtain ⟨its, rv, ⟨o, e, hc, n, hd⟩, _⟩ := I.tuple q
    obtain ⟨as, ra⟩ := Dts.reads I ds rv
    exact ⟨_, .tuple e hc hd (by simpa using ra)⟩
theorem Dts.reads (I : Inv X pins σ H s) : ∀ {vs : List V} {ds : List PyData} {us : List Value}, Dts X.K H vs ds → Vals vs us → ∃ as, ReadsAll s.heap us ds as
  | _, _, _, .nil, r => by cases r; exact ⟨_, .nil⟩
  | _, _, _, .cons d ds, r => by
    cases r with
    | cons r rr =>
      obtain ⟨as, ra⟩ := Dt.reads I d r
      obtain ⟨bs, rb⟩ := Dts.reads I ds rr
      exact ⟨_, .cons ra rb⟩
end
/-- x == y, x != y of data -/
def rEqD (K : PySem.W.Frag) (A : Around) : R2 := fun x y H Q => ∃ d e, Dt K H x d ∧ Dt K H y e ∧ d.canLay0 = true ∧ e.canLay0 = true ∧ A.units + min d.depth e.depth < cLine ∧ Q (.bl (PyData.eqv d e)) H
def rNeD (K : PySem.W.Frag) (A : Around) : R2 := fun x y H Q => ∃ d e, Dt K H x d ∧ Dt K H y e ∧ d.canLay0 = true ∧ e.canLay0 = true ∧ A.units + min d.depth e.depth < cLine ∧ Q (.bl (!PyData.eqv d e)) H
theorem op_eqD : OpR X (compareOp .Eq) (rEqD X.K X.A) := by
  intro pins s σ H x y v u Q I rx ry h
  obtain ⟨d, e, dx, dy, h1, h2, hu, q⟩ := h
  obtain ⟨as, ra⟩ := dx.reads I rx
  obtain ⟨bs, rb⟩ := dy.reads I ry
  exact SeqAt.rcAt_reads ra rb h1 h2 hu X.prog X.w X.xe _ ⟨.bl _, H, I, rfl, q⟩
theorem op_neD : OpR X (compareOp .NotEq) (rNeD X.K X.A) := by
  intro pins s σ H x y v u Q I rx ry h
  obtain ⟨d, e, dx, dy, h1, h2, hu, q⟩ := h
  obtain ⟨as, ra⟩ := dx.reads I rx
  obtain ⟨bs, rb⟩ := dy.reads I ry
  exact SeqAt.rcNeAt_reads ra rb h1 h2 hu X.prog X.w X.xe _ ⟨.bl _, H, I, rfl, q⟩

/-! ### isinstance(x, T), T a built-in type -/
def tyN (H : Hp) : V → Option String
  | .non => some "NoneType"
  | .bl _ => some "bool"
  | .int _ => some "int"
  | .str _ => some "str"
  | .ref a => match H a with
    | some (.lst _) => some "list"
    | some (.frz _ (.lst _)) => some "list"
    | some (.tup _) => some "tuple"
    | some (.dK _) => some "dict"
    | some (.dT _) => some "dict"
    | _ => none
  | _ => none
def subT (a b : String) : Bool := a == b || (a == "bool" && b == "int")
abbrev knownT : List String := ["bool", "int", "str", "list", "tuple", "dict"]
theorem tyN_of {H : Hp} {x : V} {tn : String} (h : tyN H x = some tn) : TyOf X.K H x (.type tn) ∧ (tn = "NoneType" ∨ tn ∈ knownT) := by
  cases x with
  | non => cases h; exact ⟨.non, by decide⟩
  | bl b => cases h; exact ⟨.bl b, by decide⟩
  | int i => cases h; exact ⟨.int i, by decide⟩
  | str z => cases h; exact ⟨.str z, by decide⟩
  | byt _ => cases h
  | flt _ => cases h
  | ty _ => cases h
  | ref a =>
    simp only [tyN] at h
    split at h
    · rename_i xs e; cases h; exact ⟨.lst e, by decide⟩
    · rename_i o xs e; cases h; exact ⟨.frz e, by decide⟩
    · rename_i xs e; cases h; exact ⟨.tup e, by decide⟩
    · rename_i kvs e; cases h; exact ⟨.dK e, by decide⟩
    · rename_i kvs e; cases h; exact ⟨.dT e, by decide⟩
    · cases h
theorem kit_NoneType_bool {K : PySem.W.Frag} : PySem.W.kitOne K (.type "NoneType") (.type "bool") = some false := by kernel_rfl
theorem kit_NoneType_int {K : PySem.W.Frag} : PySem.W.kitOne K (.type "NoneType") (.type "int") = some false := by kernel_rfl
theorem kit_NoneType_str {K : PySem.W.Frag} : PySem.W.kitOne K (.type "NoneType") (.type "str") = some false := by kernel_rfl
theorem kit_NoneType_list {K : PySem.W.Frag} : PySem.W.kitOne K (.type "NoneType") (.type "list") = some false := by kernel_rfl
theorem kit_NoneType_tuple {K : PySem.W.Frag} : PySem.W.kitOne K (.type "NoneType") (.type "tuple") = some false := by kernel_rfl
theorem kit_NoneType_dict {K : PySem.W.Frag} : PySem.W.kitOne K (.type "NoneType") (.type "dict") = some false := by kernel_rfl
theorem kit_bool_bool {K : PySem.W.Frag} : PySem.W.kitOne K (.type "bool") (.type "bool") = some true := by kernel_rfl
theorem kit_bool_int {K : PySem.W.Frag} : PySem.W.kitOne K (.type "bool") (.type "int") = some true := by kernel_rfl
theorem kit_bool_str {K : PySem.W.Frag} : PySem.W.kitOne K (.type "bool") (.type "str") = some false := by kernel_rfl
theorem kit_bool_list {K : PySem.W.Frag} : PySem.W.kitOne K (.type "bool") (.type "list") = some false := by kernel_rfl
theorem kit_bool_tuple {K : PySem.W.Frag} : PySem.W.kitOne K (.type "bool") (.type "tuple") = some false := by kernel_rfl
theorem kit_bool_dict {K : PySem.W.Frag} : PySem.W.kitOne K (.type "bool") (.type "dict") = some false := by kernel_rfl
theorem kit_int_bool {K : PySem.W.Frag} : PySem.W.kitOne K (.type "int") (.type "bool") = some false := by kernel_rfl
theorem kit_int_int {K : PySem.W.Frag} : PySem.W.kitOne K (.type "int") (.type "int") = some true := by kernel_rfl
theorem kit_int_str {K : PySem.W.Frag} : PySem.W.kitOne K (.type "int") (.type "str") = some false := by kernel_rfl
theorem kit_int_list {K : PySem.W.Frag} : PySem.W.kitOne K (.type "int") (.type "list") = some false := by kernel_rfl
theorem kit_int_tuple {K : PySem.W.Frag} : PySem.W.kitOne K (.type "int") (.type "tuple") = some false := by kernel_rfl
theorem kit_int_dict {K : PySem.W.Frag} : PySem.W.kitOne K (.type "int") (.type "dict") = some false := by kernel_rfl
theorem kit_str_bool {K : PySem.W.Frag} : PySem.W.kitOne K (.type "str") (.type "bool") = some false := by kernel_rfl
theorem kit_str_int {K : PySem.W.Frag} : PySem.W.kitOne K (.type "str") (.type "int") = some false := by kernel_rfl
theorem kit_str_str {K : PySem.W.Frag} : PySem.W.kitOne K (.type "str") (.type "str") = some true := by kernel_rfl
theorem kit_str_list {K : PySem.W.Frag} : PySem.W.kitOne K (.type "str") (.type "list") = some false := by kernel_rfl
theorem kit_str_tuple {K : PySem.W.Frag} : PySem.W.kitOne K (.type "str") (.type "tuple") = some false := by kernel_rfl
theorem kit_str_dict {K : PySem.W.Frag} : PySem.W.kitOne K (.type "str") (.type "dict") = some false := by kernel_rfl
theorem kit_list_bool {K : PySem.W.Frag} : PySem.W.kitOne K (.type "list") (.type "bool") = some false := by kernel_rfl
theorem kit_list_int {K : PySem.W.Frag} : PySem.W.kitOne K (.type "list") (.type "int") = some false := by kernel_rfl
theorem kit_list_str {K : PySem.W.Frag} : PySem.W.kitOne K (.type "list") (.type "str") = some false := by kernel_rfl
theorem kit_list_list {K : PySem.W.Frag} : PySem.W.kitOne K (.type "list") (.type "list") = some true := by kernel_rfl
theorem kit_list_tuple {K : PySem.W.Frag} : PySem.W.kitOne K (.type "list") (.type "tuple") = some false := by kernel_rfl
theorem kit_list_dict {K : PySem.W.Frag} : PySem.W.kitOne K (.type "list") (.type "dict") = some false := by kernel_rfl
theorem kit_tuple_bool {K : PySem.W.Frag} : PySem.W.kitOne K (.type "tuple") (.type "bool") = some false := by kernel_rfl
theorem kit_tuple_int {K : PySem.W.Frag} : PySem.W.kitOne K (.type "tuple") (.type "int") = some false := by kernel_rfl
theorem kit_tuple_str {K : PySem.W.Frag} : PySem.W.kitOne K (.type "tuple") (.type "str") = some false := by kernel_rfl
theorem kit_tuple_list {K : PySem.W.Frag} : PySem.W.kitOne K (.type "tuple") (.type "list") = some false := by kernel_rfl
theorem kit_tuple_tuple {K : PySem.W.Frag} : PySem.W.kitOne K (.type "tuple") (.type "tuple") = some true := by kernel_rfl
theorem kit_tuple_dict {K : PySem.W.Frag} : PySem.W.kitOne K (.type "tuple") (.type "dict") = some false := by kernel_rfl
theorem kit_dict_bool {K : PySem.W.Frag} : PySem.W.kitOne K (.type "dict") (.type "bool") = some false := by kernel_rfl
theorem kit_dict_int {K : PySem.W.Frag} : PySem.W.kitOne K (.type "dict") (.type "int") = some false := by kernel_rfl
theorem kit_dict_str {K : PySem.W.Frag} : PySem.W.kitOne K (.type "dict") (.type "str") = some false := by kernel_rfl
theorem kit_dict_list {K : PySem.W.Frag} : PySem.W.kitOne K (.type "dict") (.type "list") = some false := by kernel_rfl
theorem kit_dict_tuple {K : PySem.W.Frag} : PySem.W.kitOne K (.type "dict") (.type "tuple") = some false := by kernel_rfl
theorem kit_dict_dict {K : PySem.W.Frag} : PySem.W.kitOne K (.type "dict") (.type "dict") = some true := by kernel_rfl
theorem kit_known {K : PySem.W.Frag} {a b : String} (ha : a = "NoneType" ∨ a ∈ knownT) (hb : b ∈ knownT) : PySem.W.kitOne K (.type a) (.type b) = some (subT a b) := by
  simp only [knownT, List.mem_cons, List.not_mem_nil, or_false] at ha hb
  rcases ha with rfl | rfl | rfl | rfl | rfl | rfl | rfl <;> rcases hb with rfl | rfl | rfl | rfl | rfl | rfl
  · exact kit_NoneType_bool
  · exact kit_NoneType_int
  · exact kit_NoneType_str
  · exact kit_NoneType_list
  · exact kit_NoneType_tuple
  · exact kit_NoneType_dict
  · exact kit_bool_bool
  · exact kit_bool_int
  · exact kit_bool_str
  · exact kit_bool_list
  · exact kit_bool_tuple
  · exact kit_bool_dict
  · exact kit_int_bool
  · exact kit_int_int
  · exact kit_int_str
  · exact kit_int_list
  · exact kit_int_tuple
  · exact kit_int_dict
  · exact kit_str_bool
  · exact kit_str_int
  · exact kit_str_str
  · exact kit_str_list
  · exact kit_str_tuple
  · exact kit_str_dict
  · exact kit_list_bool
  · exact kit_list_int
  · exact kit_list_str
  · exact kit_list_list
  · exact kit_list_tuple
  · exact kit_list_dict
  · exact kit_tuple_bool
  · exact kit_tuple_int
  · exact kit_tuple_str
  · exact kit_tuple_list
  · exact kit_tuple_tuple
  · exact kit_tuple_dict
  · exact kit_dict_bool
  · exact kit_dict_int
  · exact kit_dict_str
  · exact kit_dict_list
  · exact kit_dict_tuple
  · exact kit_dict_dict
theorem call_isi : CallR X (.builtin "isinstance") (fun xs H Q => ∃ x n tn, xs = [x, .ty n] ∧ tyN H x = some tn ∧ n ∈ knownT ∧ Q (.bl (subT tn n)) H) := by
  intro pins s σ H xs us Q I r h
  obtain ⟨x, n, tn, rfl, ty, hn, q⟩ := h
  obtain ⟨u, w', rfl, ru, rw'⟩ := vals2 r
  cases rw'
  obtain ⟨t1, t2⟩ := tyN_of (X := X) ty
  exact isinst_ok I ru t1 (kit_known t2 hn) fun tk => ⟨.bl _, H, I.tok tk, rfl, q⟩
/-- isinstance(x, (S, T)) -/
theorem call_isi2 : CallR X (.builtin "isinstance") (fun xs H Q => ∃ x p n m tn, xs = [x, .ref p] ∧ H p = some (.tup [.ty n, .ty m]) ∧ tyN H x = some tn ∧ n ∈ knownT ∧ m ∈ knownT ∧ Q (.bl (subT tn n || subT tn m)) H) := by
  intro pins s σ H xs us Q I r h
  obtain ⟨x, p, n, m, tn, rfl, hp, ty, hn, hm, q⟩ := h
  obtain ⟨u, w', rfl, ru, rw'⟩ := vals2 r
  cases rw'
  obtain ⟨t1, t2⟩ := tyN_of (X := X) ty
  obtain ⟨_, its, rv, o, ho, hc, k, hd⟩ := (show ObjOk X.prog X.w H s.heap p (.tup [.ty n, .ty m]) from I.hok p _ hp)
  obtain ⟨a, b, rfl, ra, rb⟩ := vals2 rv
  cases ra
  cases rb
  obtain ⟨oc, od, odt, osl⟩ := o
  simp only at hc hd
  subst hc hd
  have e : PySem.W.kitAny X.K (.type tn) [.type n, .type m] = some (subT tn n || subT tn m) := by
    simp only [PySem.W.kitAny, kit_known t2 hn, kit_known t2 hm]
    cases subT tn n <;> cases subT tn m <;> rfl
  have fin : ∀ tk, EP X pins σ Q (.bool (subT tn n || subT tn m)) { s with toks := tk } := fun tk => ⟨.bl _, H, I.tok tk, rfl, q⟩
  cases t1 with
  | non => cases (show u = Value.none from ru); exact PySem.W.kia_tup PySem.W.kitx_none I.kIn True.intro ho e (fun z => nomatch z) fin
  | bl y => cases (show u = Value.bool y from ru); exact PySem.W.kia_tup PySem.W.kitx_bool I.kIn True.intro ho e (fun z => nomatch z) fin
  | int i => obtain ⟨t, z⟩ := (show ∃ t, u = Value.int i t from ru); cases z; exact PySem.W.kia_tup PySem.W.kitx_int I.kIn True.intro ho e (fun z => nomatch z) fin
  | str y => obtain ⟨t, z⟩ := (show ∃ t, u = Value.str y t from ru); cases z; exact PySem.W.kia_tup PySem.W.kitx_str I.kIn True.intro ho e (fun z => nomatch z) fin
  | flt y => obtain ⟨t, z⟩ := (show ∃ t, u = Value.float y t from ru); cases z; exact PySem.W.kia_tup PySem.W.kitx_float I.kIn True.intro ho e (fun z => nomatch z) fin
  | @lst a xs ea =>
    cases (show u = Value.ref a from ru)
    obtain ⟨_, _, _, _, h1⟩ := (show ObjOk X.prog X.w H s.heap a (.lst xs) from I.hok a _ ea)
    exact PySem.W.kia_tup PySem.W.kitx_list I.kIn ⟨_, h1, rfl⟩ ho e (fun z => nomatch z) fin
  | @frz a ob xs ea =>
    cases (show u = Value.ref a from ru)
    obtain ⟨_, _, _, _, _, h1⟩ := (show ObjOk X.prog X.w H s.heap a (.frz ob (.lst xs)) from I.hok a _ ea)
    exact PySem.W.kia_tup PySem.W.kitx_list I.kIn ⟨_, h1, rfl⟩ ho e (fun z => nomatch z) fin
  | @tup a xs ea =>
    cases (show u = Value.ref a from ru)
    obtain ⟨_, _, _, o2, h1, h2, _⟩ := (show ObjOk X.prog X.w H s.heap a (.tup xs) from I.hok a _ ea)
    exact PySem.W.kia_tup PySem.W.kitx_tuple I.kIn ⟨o2, h1, h2⟩ ho e (fun z => nomatch z) fin
  | @dK a kvs ea =>
    cases (show u = Value.ref a from ru)
    obtain ⟨_, _, vs, _, o2, es, ep, h1, h2, _⟩ := (show ObjOk X.prog X.w H s.heap a (.dK kvs) from I.hok a _ ea)
    exact PySem.W.kia_tup PySem.W.kitx_dict I.kIn ⟨o2, h1, h2.1⟩ ho e (fun z => nomatch z) fin
  | @dT a kvs ea =>
    cases (show u = Value.ref a from ru)
    obtain ⟨_, _, xs, _, o2, es, ep, h1, h2, _⟩ := (show ObjOk X.prog X.w H s.heap a (.dT kvs) from I.hok a _ ea)
    exact PySem.W.kia_tup PySem.W.kitx_dict I.kIn ⟨o2, h1, h2.1⟩ ho e (fun z => nomatch z) fin

/-! ### list(d.values()) -/
def tDVals (td : TE) : TE := fun σ H Q => td σ H fun x H1 => ∃ a kvs, x = .ref a ∧ Rd H1 a (.dK kvs) ∧ ∀ l, H1 l = none → Q (.ref l) (upd H1 l (.lst (kvs.map (·.2))))
theorem KV.valsOf {κ : Type} {kvs : List (κ × V)} {vs : List (κ × Value)} (r : KV kvs vs) : Vals (kvs.map (·.2)) (vs.map (·.2)) := by
  unfold KV at r
  induction r with
  | nil => exact .nil
  | cons h _ ih => exact .cons h.2 ih
theorem pe_dvals {o : Expr} {td : TE} {apos cpos p pos : Pos} (hc : X.calm = true) (hg : Gl X "list") (hm : X.mg "list" = none) (ho : PE X o td) (hb : attributeBase o "values" X.env (eval o X.env) = eval o X.env) (hl : (apos.endLine == cpos.line) = true)
    (he : starEach [.Call (.Attribute o "values" apos) [] [] cpos] X.env = [(false, eval (.Call (.Attribute o "values" apos) [] [] cpos) X.env)] := by rfl) :
    PE X (.Call (.Name "list" p) [.Call (.Attribute o "values" apos) [] [] cpos] [] pos) (tDVals td) := by
  intro pins s σ H Q I h
  refine wpAny_Call_Name_kw (ld_blt I hg hm boot_list ?_)
  have inner : wpAny (model X.prog X.w) X.A (eval (.Call (.Attribute o "values" apos) [] [] cpos) X.env) (fun u s1 => ∃ (r a : Addr) (kvs : List (Key × V)) (H1 : Hp), u = .ref r ∧ Inv X pins σ H1 s1 ∧ Rd H1 a (.dK kvs) ∧ s1.heap.IsValuesView r a ∧ ∀ l, H1 l = none → Q (.ref l) (upd H1 l (.lst (kvs.map (·.2))))) X.xe s := by
    refine wpAny_Call_method hb rfl hl PySem.F.plainAttrs_dict PySem.F.slot_dict_values PySem.F.type_dict_values (thn (ho pins s σ H _ I h) fun u s1 ⟨x, H1, I1, rx, a, kvs, ex, d, q1⟩ => ?_)
    subst ex
    obtain rfl : u = Value.ref a := rx
    obtain ⟨t1, t2, _⟩ := isD_at I1 (.inl ⟨kvs, d⟩)
    refine ⟨t1, t2, ?_⟩
    show wpAny _ _ (callWith cpos (.builtin "dict.values") [.ref a] [] []) _ _ s1
    obtain ⟨z, hd, vs, rel, dd⟩ := dk_rd I1.hok d
    refine Calls.callWith_builtin rfl (PySem.evalArgs_none ?_)
    refine call_meetsIn PySem.F.slot_dict_values dd.typeIs PySem.F.entry_dict_values (PySem.F.args_dict_values_1 _) (meets_dict_values (mixKind X.prog X.w) a hd) ⟨⟨vs, dd⟩, ?_⟩
    exact ⟨_, a, kvs, H1, rfl, I1.kept (t' := s1.toks) fun b o e => Heap.get?_push_of_some _ e, d, ⟨_, Heap.get?_push_size _ rfl, rfl, rfl⟩, q1⟩
  have hdo : X.A.handled = none → wpAny (model X.prog X.w) X.A (callWith pos (.type "list") [] (backTo pos (starEach [.Call (.Attribute o "values" apos) [] [] cpos] X.env)) []) (EP X pins σ Q) X.xe s := fun hh => by
    refine PyProof.Rows.callWith_type1 ?_ he rfl
    rw [he]
    show wpAny _ _ (spliced ((false, eval (.Call (.Attribute o "values" apos) [] [] cpos) X.env) :: [])) _ _ s
    refine Calls.spliced_cons (thn inner fun u s1 ⟨r, a, kvs, H1, eu, I1, d, hv, q1⟩ => Calls.spliced_nil ?_)
    subst eu
    obtain ⟨z, hd, vs, rel, dd⟩ := dk_rd I1.hok d
    obtain ⟨ep, hat⟩ := dd.dictAt
    refine PySem.W.kdl_call (PySem.W.kdl_values (knd := mixKind X.prog X.w) (kvs := vs) (ep := ep)) hh ⟨hv, hat⟩ (by rw [← rel.length]; exact z) fun h' tk acc c kp hD hacc => ?_
    have hv2 : acc.toList = vs.map (·.2) := PySem.W.kdl_vals_eq acc.toList (by rw [Array.length_toList]; exact hacc.1) fun j v e => hacc.2 j v (by rw [← Array.getElem?_toList]; exact e)
    refine ⟨.ref s1.heap.objs.size, _, I1.laid (t' := tk) kp (Nat.le_refl _) (show ObjOk X.prog X.w _ h' _ (.lst (kvs.map (·.2))) from ⟨by rw [List.length_map]; exact z, acc.toList, c, by rw [hv2]; exact rel.valsOf, by simpa using hD⟩), rfl, q1 _ I1.fresh⟩
  exact hdo (I.ok.hd hc)

/-! ### max of a list of ints, with a default -/
section
variable {prog : Program} {w : World} {A : Around} {R : Result → Shared → Prop} {I : Addr} {fp wr : List Addr} {n : Nat} {P : Nat → Value → Prop} {St : Nat → Heap → Prop}
theorem mx_go (W : Walks prog w A.in1 I fp wr n P St) (bt : Nat → Nat → Bool) (hcmp : CmpOf prog w A.in1 .Gt P bt) (B : Addr) (nB : B ∉ fp) (kw : List (Str × Value)) :
    ∀ (left j : Nat) (sh : Shared) (top : Value) (c : Nat), n - (j + 1) = left → j + 1 ≤ n → St (j + 1) sh.heap → P (argBest bt j) top →
    sh.heap.get? B = some { cls := .type "list", dict := none, data := .seq #[top, top] c, slots := #[] } →
    (∀ v h' tk, P (argBest bt (n - 1)) v → (∀ b o, b ∉ wr → b ≠ B → sh.heap.get? b = some o → h'.get? b = some o) → R (.ok (.ret v)) { sh with heap := h', toks := tk }) →
    codeAny (model prog w) A (.builtin "max.loop" ⟨[.ref I, .none, .ref B], kw⟩) R sh := by
  have wB : B ∉ wr := fun z => nB (W.sub _ z)
  have nm : (toString "max" ++ toString ".loop" : String) = "max.loop" := by decide
  intro left
  induction left with
  | zero =>
    intro j sh top c e1 e2 st pt hB fin
    have last : j + 1 = n := by omega
    refine codeAny_builtin PySem.F.entry_max_loop ?_
    rw [Around.under_plainId PySem.F.plain_max_loop _]
    show wpAny _ A.in1 (seqItems? (.ref B) >>= _) _ _ sh
    refine wpAny_bind (wpAny_seqItems hB rfl ?_)
    show wpAny _ A.in1 (tryCatch (pyNext (.ref I)) _ >>= _) _ _ sh
    refine wpAny_bind (wpAny_tryCatch (W.done sh _ _ (last ▸ st) fun h' tk kp => ?_))
    have hB2 := kp B _ wB hB
    show wpAny _ A.in1 (updateSeq B (fun _ => #[]) >>= _) _ _ _
    refine wpAny_bind ?_
    refine wpAny_updateSeq hB2 rfl (wpAny_bind (wpAny_letGo (wpAny_pure ?_)))
    exact fin top _ tk (by rw [← last]; exact pt) fun b o z1 z2 e => (Heap.get?_update_other _ _ (Ne.symm z2)).trans (kp b o z1 e)
  | succ left ih =>
    intro j sh top c e1 e2 st pt hB fin
    have more : j + 1 < n := by omega
    refine codeAny_builtin PySem.F.entry_max_loop ?_
    rw [Around.under_plainId PySem.F.plain_max_loop _]
    show wpAny _ A.in1 (seqItems? (.ref B) >>= _) _ _ sh
    refine wpAny_bind (wpAny_seqItems hB rfl ?_)
    show wpAny _ A.in1 (tryCatch (pyNext (.ref I)) _ >>= _) _ _ sh
    refine wpAny_bind (wpAny_tryCatch (W.item (j + 1) sh _ _ more st fun v h' tk pv st' kp => ?_))
    have hB2 := kp B _ wB hB
    show wpAny _ A.in1 (tryCatch (holding [v, v] (richCompare .Gt v top >>= _)) _ >>= _) _ _ _
    refine wpAny_bind (wpAny_tryCatch (wpAny_holding (wpAny_bind (hcmp (j + 1) (argBest bt j) v top _ _ _ pv pt ?_))))
    refine wpAny_bind (wpAny_holding (wpAny_truthy_bool ?_))
    refine wpAny_bind (wpAny_letGo (wpAny_pure ?_))
    cases q : bt (j + 1) (argBest bt j) with
    | true =>
      simp only [if_true]
      refine wpAny_bind ?_
      refine wpAny_updateSeq hB2 rfl (wpAny_bind (wpAny_letGo ?_))
      rw [nm]
      refine wpAny_pure ⟨plainId_quiet PySem.F.plain_max_loop _, ih (j + 1) _ v _ (by omega) more (W.frame _ _ _ st' fun b z o e => ?_) (by simp only [argBest, q, if_true]; exact pv) (Heap.get?_update_self _ hB2 rfl) fun v' h2 tk2 p2 kp2 => ?_⟩
      · exact (Heap.get?_update_other _ _ (fun y : B = b => nB (by rw [y]; exact z))).trans e
      · exact fin v' h2 tk2 p2 fun b o z1 z2 e => kp2 b o z1 z2 ((Heap.get?_update_other _ _ (Ne.symm z2)).trans (kp b o z1 e))
    | false =>
      simp only [Bool.false_eq_true, if_false]
      refine wpAny_bind (wpAny_letGo ?_)
      rw [nm]
      refine wpAny_pure ⟨plainId_quiet PySem.F.plain_max_loop _, ih (j + 1) _ top c (by omega) more st' (by simp only [argBest, q, Bool.false_eq_true, if_false]; exact pt) hB2 fun v' h2 tk2 p2 kp2 => ?_⟩
      exact fin v' h2 tk2 p2 fun b o z1 z2 e => kp2 b o z1 z2 (kp b o z1 e)
theorem mx_first (W : Walks prog w A.in1 I fp wr n P St) (bt : Nat → Nat → Bool) (hcmp : CmpOf prog w A.in1 .Gt P bt) (B : Addr) (nB : B ∉ fp) (nm0 : Str) (d : Value) {sh : Shared} {c : Nat} (st : St 0 sh.heap)
    (hB : sh.heap.get? B = some { cls := .type "list", dict := none, data := .seq #[] c, slots := #[] })
    (fin0 : n = 0 → ∀ h' tk, (∀ b o, b ∉ wr → sh.heap.get? b = some o → h'.get? b = some o) → R (.ok (.ret d)) { sh with heap := h', toks := tk })
    (fin : 0 < n → ∀ v h' tk, P (argBest bt (n - 1)) v → (∀ b o, b ∉ wr → b ≠ B → sh.heap.get? b = some o → h'.get? b = some o) → R (.ok (.ret v)) { sh with heap := h', toks := tk }) :
    codeAny (model prog w) A (.builtin "max.loop" ⟨[.ref I, .none, .ref B], [(nm0, d)]⟩) R sh := by
  have wB : B ∉ wr := fun z => nB (W.sub _ z)
  have nm : (toString "max" ++ toString ".loop" : String) = "max.loop" := by decide
  refine codeAny_builtin PySem.F.entry_max_loop ?_
  rw [Around.under_plainId PySem.F.plain_max_loop _]
  show wpAny _ A.in1 (seqItems? (.ref B) >>= _) _ _ sh
  refine wpAny_bind (wpAny_seqItems hB rfl ?_)
  show wpAny _ A.in1 (tryCatch (pyNext (.ref I)) _ >>= _) _ _ sh
  by_cases hn : 0 < n
  · refine wpAny_bind (wpAny_tryCatch (W.item 0 sh _ _ hn st fun v h' tk pv st' kp => ?_))
    have hB2 := kp B _ wB hB
    show wpAny _ A.in1 (updateSeq B (fun _ => #[v, v]) >>= _) _ _ _
    refine wpAny_bind ?_
    refine wpAny_updateSeq hB2 rfl ?_
    rw [nm]
    refine wpAny_pure ⟨plainId_quiet PySem.F.plain_max_loop _, mx_go W bt hcmp B nB _ _ 0 _ v _ rfl hn (W.frame _ _ _ st' fun b z o e => ?_) pv (Heap.get?_update_self _ hB2 rfl) fun v' h2 tk2 p2 kp2 => ?_⟩
    · exact (Heap.get?_update_other _ _ (fun y : B = b => nB (by rw [y]; exact z))).trans e
    · exact fin hn v' h2 tk2 p2 fun b o z1 z2 e => kp2 b o z1 z2 ((Heap.get?_update_other _ _ (Ne.symm z2)).trans (kp b o z1 e))
  · have e0 : n = 0 := by omega
    refine wpAny_bind (wpAny_tryCatch (W.done sh _ _ (e0 ▸ st) fun h' tk kp => ?_))
    show wpAny _ A.in1 (rule _ >>= _) _ _ _
    exact wpAny_bind (wpAny_rule (wpAny_pure (fin0 e0 h' tk kp)))
end
theorem argBest_best {f : Nat → Int} : ∀ k, argBest (fun i j => decide (f i > f j)) k ≤ k ∧ ∀ i, i ≤ k → f i ≤ f (argBest (fun i j => decide (f i > f j)) k)
  | 0 => ⟨Nat.le_refl _, fun i h => by have : i = 0 := by omega
                                       subst this; exact Int.le_refl _⟩
  | k + 1 => by
    obtain ⟨h1, h2⟩ := argBest_best (f := f) k
    by_cases q : f (k + 1) > f (argBest (fun i j => decide (f i > f j)) k)
    · have e : argBest (fun i j => decide (f i > f j)) (k + 1) = k + 1 := by simp only [argBest]; rw [if_pos (by simpa using q)]
      rw [e]
      refine ⟨Nat.le_refl _, fun i hi => ?_⟩
      by_cases z : i ≤ k
      · have := h2 i z; omega
      · have : i = k + 1 := by omega
        subst this; exact Int.le_refl _
    · have e : argBest (fun i j => decide (f i > f j)) (k + 1) = argBest (fun i j => decide (f i > f j)) k := by simp only [argBest]; rw [if_neg (by simpa using q)]
      rw [e]
      refine ⟨by omega, fun i hi => ?_⟩
      by_cases z : i ≤ k
      · exact h2 i z
      · have : i = k + 1 := by omega
        subst this; omega

def tMaxD (K : PySem.W.Frag) (te td : TE) : TE := fun σ H Q => te σ H fun x H1 => td σ H1 fun z H2 => ∃ a ns, x = .ref a ∧ SqL K H2 a (ns.map V.int) ∧ (ns = [] → Q z H2) ∧ ∀ m, m ∈ ns → (∀ y ∈ ns, y ≤ m) → Q (.int m) H2
theorem args_maxD (a v : Value) : argsOk "max" ⟨[a], [(Str.ofString "default", v)]⟩ := by unfold argsOk; kernel_rfl
theorem vals_int_at : ∀ {ns : List Int} {us : List Value}, Vals (ns.map V.int) us → ∀ (i : Nat) (v : Value), us.toArray[i]? = some v → ∃ t, v = .int (ns.getD i 0) t
  | [], _, r, i, v, e => by cases r; simp at e
  | n :: ns, _, r, i, v, e => by
    cases r with
    | cons r rr =>
      cases i with
      | zero => obtain ⟨t, rfl⟩ := r; simp at e; exact ⟨t, by simp [← e]⟩
      | succ i =>
        obtain ⟨t, ht⟩ := vals_int_at rr i v (by simpa using e)
        exact ⟨t, by simpa using ht⟩
theorem call_maxD {A : Around} {E : Value → Shared → Prop} {a : Addr} {ns : List Int} {dv : Value} {Q : Value → Shared → Prop} (hh : A.handled = none) (I : Inv X pins σ H s) (hq : SqL X.K H a (ns.map V.int))
    (q0 : ns = [] → ∀ s', Inv X pins σ H s' → Q dv s') (qm : ∀ m t s', m ∈ ns → (∀ y ∈ ns, y ≤ m) → Inv X pins σ H s' → Q (.int m t) s') :
    wpAny (model X.prog X.w) A (call (.builtin "max") [.ref a] [(Str.ofString "default", dv)]) Q E s := by
  obtain ⟨its, rv, pl, hz⟩ := I.list hq
  have hlen := rv.length
  rw [List.length_map] at hlen
  have nm : (toString "max" ++ toString ".loop" : String) = "max.loop" := by decide
  refine kmb_tree PySem.F.kind_max PySem.F.plain_max PySem.F.entry_max (args_maxD _ _) ?_
  show wpAny _ A.in1 (Builtin.Builtins.bindParams "max" ["key", "default"] 0 ⟨[], [(Str.ofString "default", dv)]⟩ >>= _) _ _ s
  refine wpAny_bind (wpAny_of_eq (show Builtin.Builtins.bindParams "max" ["key", "default"] 0 ⟨[], [(Str.ofString "default", dv)]⟩ = pure [none, some dv] from rfl) ?_)
  refine wpAny_bind (wpAny_pure ?_)
  refine wpAny_bind (wpAny_pyIter_list pl.isList ?_)
  refine wpAny_bind (wpAny_newObj_type ?_)
  have ha : a < s.heap.objs.size := by
    obtain ⟨o, n, e, _⟩ := pl
    exact Heap.lt_size e
  have W := Walks.list (prog := X.prog) (w := X.w) (A := A.in1) hh s.heap.objs.size a (Nat.ne_of_lt ha) its.toArray
  have k1 : ∀ b o, s.heap.get? b = some o → ((s.heap.push { cls := .type "list_iterator", data := .fields #[.ref a, .int 0 0] }).push { cls := .type "list", dict := none, data := .seq ([] : List Value).toArray }).get? b = some o := fun b o e => Heap.get?_push_of_some _ (Heap.get?_push_of_some _ e)
  have st : ((s.heap.push { cls := .type "list_iterator", data := .fields #[.ref a, .int 0 0] }).push { cls := .type "list", dict := none, data := .seq ([] : List Value).toArray }).IsListIter s.heap.objs.size a 0 := ⟨_, Heap.get?_push_of_some _ (Heap.get?_push_size _ rfl), rfl, rfl⟩
  have nS : (s.heap.push { cls := .type "list_iterator", data := .fields #[.ref a, .int 0 0] }).objs.size = s.heap.objs.size + 1 := by rw [Heap.size_push]
  rw [nm]
  refine wpAny_pure ⟨plainId_quiet PySem.F.plain_max_loop _, ?_⟩
  refine mx_first (c := 0) W (fun i j => decide (ns.getD i 0 > ns.getD j 0)) (CmpOf.ints_gt (fun i => ns.getD i 0) fun i v e => vals_int_at rv i v e) (s.heap.push { cls := .type "list_iterator", data := .fields #[.ref a, .int 0 0] }).objs.size ?_ _ _ ⟨st, ?_⟩ (Heap.get?_push_size _ rfl) ?_ ?_
  · rw [nS]; intro z
    simp only [List.mem_cons, List.not_mem_nil, or_false] at z
    rcases z with z | z
    · exact absurd z (Nat.succ_ne_self _)
    · rw [← z] at ha
      exact absurd ha (Nat.not_lt.mpr (Nat.le_succ _))
  · obtain ⟨o, ho, hc, n, hd⟩ := pl.isList
    exact ⟨o, k1 _ _ ho, hc, n, hd⟩
  · intro e0 h' tk kp
    have n0 : ns.length = 0 := by rw [hlen]; simpa using e0
    refine q0 (List.length_eq_zero_iff.mp n0) _ (I.kept fun b o e => kp b o (fun z => ?_) (k1 b o e))
    have : b = s.heap.objs.size := by simpa using z
    exact absurd (Heap.lt_size e) (by rw [this]; exact Nat.lt_irrefl _)
  · intro hn v h' tk pv kp
    obtain ⟨b1, b2⟩ := argBest_best (f := fun i => ns.getD i 0) (its.toArray.size - 1)
    have hsz : its.toArray.size = ns.length := by simp [hlen]
    obtain ⟨t, rfl⟩ := vals_int_at rv _ v pv
    refine qm _ t _ ?_ (fun y hy => ?_) (I.kept fun b o e => kp b o (fun z => ?_) ?_ (k1 b o e))
    · have hlt : argBest (fun i j => decide (ns.getD i 0 > ns.getD j 0)) (its.toArray.size - 1) < ns.length := by omega
      rw [List.getD_eq_getElem?_getD, List.getElem?_eq_getElem hlt]
      exact List.getElem_mem hlt
    · obtain ⟨i, hi, e⟩ := List.mem_iff_getElem.mp hy
      have := b2 i (by omega)
      have e2 : ns.getD i 0 = y := by rw [List.getD_eq_getElem?_getD, List.getElem?_eq_getElem hi]; exact e
      rw [e2] at this
      exact this
    · have : b = s.heap.objs.size := by simpa using z
      exact absurd (Heap.lt_size e) (by rw [this]; exact Nat.lt_irrefl _)
    · intro z
      rw [nS] at z
      exact absurd (Heap.lt_size e) (by rw [z]; exact Nat.not_lt.mpr (Nat.le_succ _))
theorem pe_maxD {e d : Expr} {te td : TE} {p pos kp : Pos} (hc : X.calm = true) (hg : Gl X "max") (hm : X.mg "max" = none) (he : PE X e te) (hd : PE X d td)
    (hs : starEach [e] X.env = [(false, eval e X.env)] := by rfl) : PE X (.Call (.Name "max" p) [e] [⟨some "default", d, kp⟩] pos) (tMaxD X.K te td) := by
  intro pins s σ H Q I h
  refine wpAny_Call_Name_kw (ld_blt I hg hm boot_max ?_)
  refine callWith_kw (e := e) (rest := []) (kws := [⟨some "default", d, kp⟩]) ?_ (by rw [hs]; rfl) (by rw [hs]; rfl)
  rw [hs]
  show wpAny _ _ (spliced ((false, eval e X.env) :: [])) _ _ s
  refine Calls.spliced_cons (thn (he pins s σ H _ I h) fun u s1 ⟨x, H1, I1, rx, q1⟩ => Calls.spliced_nil ?_)
  refine kws_cons (thn (hd pins s1 σ H1 _ I1 q1) fun dv s2 ⟨z, H2, I2, rd, a, ns, ex, hq, q0, qm⟩ => kws_nil ?_)
  subst ex
  obtain rfl : u = Value.ref a := rx
  exact call_maxD (I.ok.hd hc) I2 hq (fun e0 s' I' => ⟨z, H2, I', rd, q0 e0⟩) fun m t s' h1 h2 I' => ⟨.int m, H2, I', ⟨t, rfl⟩, qm m h1 h2⟩

/-! ### texts -/
theorem op_mul_str : OpR X (binaryOp .Mult) (fun x y H Q => ∃ z n, x = .str z ∧ y = .int n ∧ MulOk z n ∧ Q (.str (Txt.mul z n)) H) := by
  intro pins s σ H x y v u Q I rx ry h
  obtain ⟨z, n, rfl, rfl, ok, q⟩ := h
  obtain ⟨t, rfl⟩ := rx
  obtain ⟨t', rfl⟩ := ry
  exact SB.mul ok fun t2 k => ⟨.str _, H, I.tok _, ⟨t2, rfl⟩, q⟩
theorem call_int_text : CallR X (.type "int") (fun xs H Q => ∃ x n, xs = [.str x] ∧ PySem.intText? x = some n ∧ x.length ≤ 640 ∧ Q (.int n) H) := by
  intro pins s σ H xs us Q I r h
  obtain ⟨x, n, rfl, hn, hl, q⟩ := h
  obtain ⟨u, rfl, t, rfl⟩ := vals1 r
  exact PySem.W.KIN.call_text hn hl ⟨.int n, H, I.tok _, ⟨_, rfl⟩, q⟩
end

/-! ### a def, a method, a class of the text, with all that a call of it asks -/
structure Def (P : Program) (w : World) (K : PySem.W.Frag) (mg : Str → Option Value) (base : Heap) (x : Str) (k : Nat) (ps : List Str) (sp : Sp) : Prop where
  ex : ∃ f fd, mg x = some (.ref f) ∧ PySem.W.keepIn K (.ref f) = true ∧ Binds K fd ps [] ∧ FnOk P w K mg base CX0 k f fd ps sp
structure MDef (P : Program) (w : World) (K : PySem.W.Frag) (mg : Str → Option Value) (base : Heap) (C : Addr) (m : Str) (k : Nat) (ps : List Str) (sp : Sp) : Prop where
  cl : Cls K C
  ex : ∃ f fd, Meth K C m f ∧ Binds K fd ps [] ∧ FnOk P w K mg base CX0 k f fd ps sp
structure CDef (P : Program) (w : World) (K : PySem.W.Frag) (mg : Str → Option Value) (base : Heap) (x : Str) (C : Addr) (k : Nat) (ps : List Str) (sp : Sp) : Prop where
  mgc : mg x = some (.ref C)
  ex : ∃ f fd, Mk K C f ∧ Binds K fd ps [] ∧ FnOk P w K mg base CX0 k f fd ps sp
section
variable {X : Cx} {k : Nat} {C : Addr} {ps : List Str} {sp : Sp} {x m : Str} {p pos apos : Pos} {e o : Expr} {es : List Expr} {ta : TE} {t : TA}
theorem pe_def (D : Def X.prog X.w X.K X.mg X.base x k ps sp) (hr : Room k X.A) (hg : Gl X x) (ha : PA X (e :: es) t) (hdb : (x == ("__debug__" : Str)) = false := by decide)
    (he : starEach (e :: es) X.env = (false, eval e X.env) :: starEach es X.env := by rfl) (hpl : (backTo pos (starEach es X.env)).any (·.1) = false := by rfl) : PE X (.Call (.Name x p) (e :: es) [] pos) (tCall sp [] E0 t) := by
  obtain ⟨f, fd, h1, h2, h3, h4⟩ := D.ex
  exact pe_call h4 hr hg h1 h2 h3 .nil pass0 ha hdb he hpl
theorem pe_def0 (D : Def X.prog X.w X.K X.mg X.base x k ps sp) (hr : Room k X.A) (hg : Gl X x) (hdb : (x == ("__debug__" : Str)) = false := by decide) : PE X (.Call (.Name x p) [] [] pos) (tCall sp [] E0 tNil) := by
  obtain ⟨f, fd, h1, h2, h3, h4⟩ := D.ex
  exact pe_call0 h4 hr hg h1 h2 h3 .nil pass0 hdb
theorem pe_mdef {pl : Sem Bool} (ho : PE X o ta) (D : MDef X.prog X.w X.K X.mg X.base C m k ps sp) (hr : Room k X.A) (ha : PA X (e :: es) t)
    (hst : starEach (e :: es) X.env = (false, eval e X.env) :: starEach es X.env := by rfl) (hpl : (backTo pos (starEach es X.env)).any (·.1) = false := by rfl)
    (ht : eval (.Call (.Attribute o m apos) (e :: es) [] pos) X.env = (do
      let ov ← eval o X.env
      standAt apos.atName
      let (f, first) ← holding [ov] (getMethod ov m pl)
      callWith pos f first (backTo pos (starEach (e :: es) X.env)) (backToKw pos (keywordEach [] X.env))) := by rfl) :
    PE X (.Call (.Attribute o m apos) (e :: es) [] pos) (tMeth C m sp [] E0 ta t) := by
  obtain ⟨f, fd, h1, h3, h4⟩ := D.ex
  exact pe_meth ho D.cl h1 h4 hr h3 .nil pass0 ha hst hpl ht
theorem pe_mdef0 {pl : Sem Bool} (ho : PE X o ta) (D : MDef X.prog X.w X.K X.mg X.base C m k ps sp) (hr : Room k X.A)
    (ht : eval (.Call (.Attribute o m apos) [] [] pos) X.env = (do
      let ov ← eval o X.env
      standAt apos.atName
      let (f, first) ← holding [ov] (getMethod ov m pl)
      callWith pos f first (backTo pos (starEach [] X.env)) (backToKw pos (keywordEach [] X.env))) := by rfl) :
    PE X (.Call (.Attribute o m apos) [] [] pos) (tMeth C m sp [] E0 ta tNil) := by
  obtain ⟨f, fd, h1, h3, h4⟩ := D.ex
  exact pe_meth0 ho D.cl h1 h4 hr h3 .nil pass0 ht
theorem pe_cls (D : CDef X.prog X.w X.K X.mg X.base x C k ps sp) (hr : Room (k + 1) X.A) (hg : Gl X x) (ha : PA X (e :: es) t) (hdb : (x == ("__debug__" : Str)) = false := by decide)
    (he : starEach (e :: es) X.env = (false, eval e X.env) :: starEach es X.env := by rfl) (hpl : (backTo pos (starEach es X.env)).any (·.1) = false := by rfl) : PE X (.Call (.Name x p) (e :: es) [] pos) (tMake C sp [] E0 t) := by
  obtain ⟨f, fd, h1, h3, h4⟩ := D.ex
  exact pe_make h1 h4 hr hg D.mgc h3 .nil pass0 ha hdb he hpl
theorem pe_cls0 (D : CDef X.prog X.w X.K X.mg X.base x C k ps sp) (hr : Room (k + 1) X.A) (hg : Gl X x) (hdb : (x == ("__debug__" : Str)) = false := by decide) : PE X (.Call (.Name x p) [] [] pos) (tMake C sp [] E0 tNil) := by
  obtain ⟨f, fd, h1, h3, h4⟩ := D.ex
  exact pe_make0 h1 h4 hr hg D.mgc h3 .nil pass0 hdb
end
end L2

end

section
set_option maxHeartbeats 4000000
namespace L2
open PySem PySem.Spec PyProof.Rows

section
variable {CX : CXT} {P : Program} {w : World} {K : PySem.W.Frag} {mg : Str → Option Value} {base : Heap} {N : List Str} {qual : Str} {scope : Scope} {f : Addr} {cd : Value} {A : Around} {outer : List Env} {s : Shared} {H : Hp} {E : XK}
theorem cxOf_K : (cxOf CX P w K mg base N qual scope f cd A outer s H E).K = K := rfl
theorem cxOf_A : (cxOf CX P w K mg base N qual scope f cd A outer s H E).A = A.deeper (envOfC qual scope s.heap.objs.size f cd) := rfl
theorem cxComp_K {X : Cx} {own : List Str} {cl : List (Str × Addr)} {C : Addr} {fp : List Addr} : (cxComp X scope own cl C s H fp).K = X.K := rfl
theorem cxComp_A {X : Cx} {own : List Str} {cl : List (Str × Addr)} {C : Addr} {fp : List Addr} : (cxComp X scope own cl C s H fp).A = X.A := rfl
end

/-! ### what is walked, as a list that stays -/
def Yields (J : It) (xs : List V) (H : Hp) : Prop := (∀ (i : Nat) x, xs[i]? = some x → J.go i H ∧ ∀ y H', J.yld i H y H' → H' = H ∧ y = x) ∧ J.stop xs.length H
theorem Yields.list {K : PySem.W.Frag} {a : Addr} {xs : List V} {H : Hp} (h : SqL K H a xs) : Yields (Itl K a) xs H :=
  ⟨fun i x e => ⟨⟨xs, x, h, e⟩, fun y H' ⟨e1, e2⟩ => ⟨e1, Option.some.inj ((e2 xs h).symm.trans e)⟩⟩, ⟨xs, h, Nat.le_refl _⟩⟩
theorem Yields.tup {K : PySem.W.Frag} {a : Addr} {xs : List V} {H : Hp} (h : SqT K H a xs) : Yields (Itt K a) xs H :=
  ⟨fun i x e => ⟨⟨xs, x, h, e⟩, fun y H' ⟨e1, e2⟩ => ⟨e1, Option.some.inj ((e2 xs h).symm.trans e)⟩⟩, ⟨xs, h, Nat.le_refl _⟩⟩
def rngV (lo : Int) (n : Nat) : List V := (List.range n).map fun i => V.int (lo + ((i : Nat) : Int))
theorem rngV_len (lo : Int) (n : Nat) : (rngV lo n).length = n := by simp [rngV]
theorem rngV_at {lo : Int} {n i : Nat} {x : V} (h : (rngV lo n)[i]? = some x) : i < n ∧ x = .int (lo + (i : Int)) := by
  unfold rngV at h
  rw [List.getElem?_map] at h
  by_cases hi : i < n
  · rw [List.getElem?_range hi] at h
    exact ⟨hi, (Option.some.inj h).symm⟩
  · rw [List.getElem?_eq_none (by simpa using hi)] at h
    cases h
theorem Yields.range {lo : Int} {n : Nat} {H : Hp} : Yields (Itr lo n) (rngV lo n) H :=
  ⟨fun i x e => by
    obtain ⟨h1, h2⟩ := rngV_at e
    exact ⟨h1, fun y H' ⟨e1, e2⟩ => ⟨e1, e2.trans h2.symm⟩⟩, by rw [rngV_len]; exact Nat.le_refl n⟩

/-- a for's loop -/
def ForW (J : It) (g : TG) (tb : TS) (D : Ends) (σ : St) (H : Hp) : Prop := ∃ W : Nat → Nat → St → Hp → Prop, (∃ m, W 0 m σ H) ∧ ∀ i m σ H, W i m σ H →
  (J.stop i H ∧ D.nx σ H) ∨ (J.go i H ∧ ∃ N : St → Hp → Prop, (∀ σ' H', N σ' H' → ∃ m', m' < m ∧ W (i + 1) m' σ' H') ∧ ∀ x H', J.yld i H x H' → g x σ H' fun σ2 H2 => tb { D with nx := N, ct := N, bk := D.nx } σ2 H2)
def tForG (wi : TI) (g : TG) (tb : TS) : TS := fun D σ H => wi σ H fun J H1 => ForW J g tb D σ H1
theorem ps_forG {X : Cx} {tg iter : Expr} {body : List Stmt} {wi : TI} {g : TG} {tb : TS} {pos : Pos} (hp : PassesOwn (model X.prog X.w) X.A X.env X.xe) (hc : X.calm = true) (hi : PI X tg iter wi) (hg : PG X tg g) (hb : PSs X body tb)
    (hs : ∀ x, foldedSetIterable iter X.env x = pure x := by intro _; rfl) : PS X (.For tg iter body [] pos) (tForG wi g tb) := ps_for hp hc hi hg hb hs
/-- a for over what stays -/
theorem for_gen {J : It} {xs : List V} {g : TG} {tb : TS} {D : Ends} {σ : St} {H : Hp} (Pv : Nat → St → Hp → Prop) (h0 : Pv 0 σ H) (hl : ∀ i σ H, i ≤ xs.length → Pv i σ H → Yields J xs H)
    (hs : ∀ i x σ H, xs[i]? = some x → Pv i σ H → g x σ H fun σ2 H2 => tb { D with nx := Pv (i + 1), ct := Pv (i + 1), bk := D.nx } σ2 H2) (hd : ∀ σ H, Pv xs.length σ H → D.nx σ H) : ForW J g tb D σ H := by
  refine ⟨fun i m σ H => m = xs.length - i ∧ i ≤ xs.length ∧ Pv i σ H, ⟨xs.length, by simp, Nat.zero_le _, h0⟩, ?_⟩
  rintro i m σ H ⟨rfl, hi, p⟩
  obtain ⟨y1, y2⟩ := hl i σ H hi p
  by_cases hlt : i < xs.length
  · have e : xs[i]? = some xs[i] := by simp [hlt]
    obtain ⟨g1, g2⟩ := y1 i _ e
    refine .inr ⟨g1, Pv (i + 1), fun σ' H' p' => ⟨xs.length - (i + 1), by omega, rfl, hlt, p'⟩, fun x H' y => ?_⟩
    obtain ⟨e1, e2⟩ := g2 x H' y
    subst e1 e2
    exact hs i _ σ _ e p
  · have e : i = xs.length := by omega
    subst e
    exact .inl ⟨y2, hd σ H p⟩

/-- the loop of a comprehension over what stays -/
theorem lc_gen {J : It} {xs : List V} {D : Addr} {n : Nat} {g : TG} {tc : TT} {te : TE} {σ : St} {Qd : Addr → Hp → Prop} {H1 : Hp} (Pv : Nat → Hp → Prop) (h0 : Pv 0 (upd H1 D (.lst []))) (hl : ∀ i H, i ≤ xs.length → Pv i H → Yields J xs H)
    (hs : ∀ i x H, xs[i]? = some x → Pv i H → g x (σ ++ List.replicate n none) H fun σ2 H2 => (∀ (j : Nat) v, (σ ++ List.replicate n none)[j]? = some (some v) → σ2[j]? = some (some v)) ∧ tc σ2 H2 fun b H3 =>
      if b = true then te σ2 H3 fun y H4 => ∃ ys, H4 D = some (.lst ys) ∧ ys.length < sizeLine ∧ Pv (i + 1) (upd H4 D (.lst (ys ++ [y]))) else Pv (i + 1) H3)
    (hd : ∀ H, Pv xs.length H → Qd D H) : LcW J D n g tc te σ Qd H1 := by
  refine ⟨fun i m H => m = xs.length - i ∧ i ≤ xs.length ∧ Pv i H, ⟨xs.length, by simp, Nat.zero_le _, h0⟩, ?_⟩
  rintro i m H ⟨rfl, hi, p⟩
  obtain ⟨y1, y2⟩ := hl i H hi p
  by_cases hlt : i < xs.length
  · have e : xs[i]? = some xs[i] := by simp [hlt]
    obtain ⟨g1, g2⟩ := y1 i _ e
    refine .inr ⟨g1, Pv (i + 1), fun H' p' => ⟨xs.length - (i + 1), by omega, rfl, hlt, p'⟩, fun x H' y => ?_⟩
    obtain ⟨e1, e2⟩ := g2 x H' y
    subst e1 e2
    exact hs i _ _ e p
  · have e : i = xs.length := by omega
    subst e
    exact .inl ⟨y2, hd H p⟩
theorem keep_own {σ : St} {x : V} {j : Nat} {v : V} (h : (σ ++ List.replicate 1 none)[j]? = some (some v)) : ((σ ++ List.replicate 1 none).set σ.length (some x))[j]? = some (some v) := by
  by_cases e : j = σ.length
  · subst e
    rw [List.getElem?_append_right (Nat.le_refl _)] at h
    simp at h
  · rw [List.getElem?_set_ne (fun z => e z.symm)]
    exact h
theorem set_own (σ : St) (x : V) : (σ ++ List.replicate 1 none).set σ.length (some x) = σ ++ [some x] := by
  rw [List.set_append_right _ _ (Nat.le_refl _)]
  simp
/-- elements and tests that change nothing -/
theorem lc_pure {J : It} {xs : List V} {D : Addr} {k : Nat} {tc : TT} {te : TE} {σ : St} {Qd : Addr → Hp → Prop} {H1 : Hp} (hk : k = σ.length) (hD : H1 D = none) (hJ : ∀ H, Same H1 H → Yields J xs H) (hl : xs.length ≤ 1000) (p : V → Bool) (f : V → V)
    (ht : ∀ x ∈ xs, ∀ H, Same H1 H → ∀ Q : Bool → Hp → Prop, Q (p x) H → tc (σ ++ [some x]) H Q) (he : ∀ x ∈ xs, p x = true → ∀ H, Same H1 H → ∀ Q : VK, Q (f x) H → te (σ ++ [some x]) H Q)
    (q : Qd D (upd H1 D (.lst ((xs.filter p).map f)))) : LcW J D 1 (gName k) tc te σ Qd H1 := by
  subst hk
  have same : ∀ o, Same H1 (upd H1 D o) := fun o b u e => by rw [upd_ne (ne_of_none e hD)]; exact e
  refine lc_gen (xs := xs) (fun i H => H = upd H1 D (.lst (((xs.take i).filter p).map f))) (by simp) (fun i H _ e => hJ H (by rw [e]; exact same _)) (fun i x H hx e => ?_) (fun H e => by rw [e, List.take_length]; exact q)
  subst e
  have hm := List.mem_of_getElem? hx
  have hi : i < xs.length := (List.getElem?_eq_some_iff.mp hx).1
  have et : xs.take (i + 1) = xs.take i ++ [x] := by rw [List.take_add_one, hx]; rfl
  show _ ∧ _
  refine ⟨fun j v h => keep_own h, ?_⟩
  rw [set_own]
  refine ht x hm _ (same _) _ ?_
  cases e : p x with
  | true =>
    refine iteT (he x hm e _ (same _) _ ⟨_, upd_same, ?_, ?_⟩)
    · have h1 : ((xs.take i).filter p).length ≤ (xs.take i).length := List.length_filter_le _ _
      rw [List.length_map]
      rw [List.length_take] at h1
      exact small1000 (by omega)
    · rw [upd_upd, et, List.filter_append, List.map_append]
      simp [e]
  | false =>
    refine iteF ?_
    rw [et, List.filter_append]
    simp [e]
theorem rIxL_of {K : PySem.W.Frag} {p : Addr} {xs : List V} {i : Int} {v : V} {H : Hp} {Q : VK} (h1 : SqL K H p xs) (h2 : atI xs i = some v) (q : Q v H) : rIxL K (.ref p) (.int i) H Q := ⟨p, xs, i, v, rfl, rfl, h1, h2, q⟩
theorem rIxT_of {K : PySem.W.Frag} {p : Addr} {xs : List V} {i : Int} {v : V} {H : Hp} {Q : VK} (h1 : SqT K H p xs) (h2 : atI xs i = some v) (q : Q v H) : rIxT K (.ref p) (.int i) H Q := ⟨p, xs, i, v, rfl, rfl, h1, h2, q⟩
theorem atI_at {α : Type} {xs : List α} {z : Int} (h0 : 0 ≤ z) (h1 : z < xs.length) : ∃ o, atI xs z = some o ∧ xs[z.toNat]? = some o := by
  obtain ⟨k, rfl⟩ : ∃ k : Nat, z = (k : Int) := ⟨z.toNat, by omega⟩
  have hk : k < xs.length := by omega
  have e : xs[k]? = some xs[k] := by simp [hk]
  exact ⟨_, atI_nat e, by rw [Int.toNat_natCast]; exact e⟩
theorem atI_int {ns : List Int} {z : Int} (h0 : 0 ≤ z) (h1 : z < ns.length) : ∃ o, atI (ns.map V.int) z = some (.int o) ∧ ns[z.toNat]? = some o := by
  obtain ⟨v, h2, h3⟩ := atI_at (xs := ns.map V.int) h0 (by rw [List.length_map]; exact h1)
  rw [List.getElem?_map] at h3
  cases e : ns[z.toNat]? with
  | none => rw [e] at h3; cases h3
  | some o =>
    rw [e] at h3
    exact ⟨o, by rw [h2]; exact congrArg some (Option.some.inj h3).symm, rfl⟩
theorem Same.new {H H' : Hp} {p : Addr} {o : HO} (s : Same H H') (h : H' p = Option.none) : Same H (upd H' p o) := fun b u e => by
  have e' := s b u e
  rw [upd_ne (ne_of_none e' h)]
  exact e'
theorem tyN_non {H : Hp} : tyN H .non = some "NoneType" := rfl
theorem tyN_bl {H : Hp} {b : Bool} : tyN H (.bl b) = some "bool" := rfl
theorem tyN_int {H : Hp} {i : Int} : tyN H (.int i) = some "int" := rfl
theorem tyN_str {H : Hp} {x : Str} : tyN H (.str x) = some "str" := rfl
theorem tyN_lst {H : Hp} {a : Addr} {xs : List V} (h : H a = some (.lst xs)) : tyN H (.ref a) = some "list" := by simp only [tyN, h]
theorem tyN_tup {H : Hp} {a : Addr} {xs : List V} (h : H a = some (.tup xs)) : tyN H (.ref a) = some "tuple" := by simp only [tyN, h]
/-! lists of ints as data -/
theorem dts_ints {K : PySem.W.Frag} {H : Hp} : ∀ ns : List Int, Dts K H (ns.map V.int) (ns.map PyData.int)
  | [] => .nil
  | n :: ns => .cons (.int n) (dts_ints ns)
theorem lay_ints : ∀ ns : List Int, PyData.canLayAll0 (ns.map PyData.int) = true
  | [] => rfl
  | n :: ns => by
    show (true && PyData.canLayAll0 (ns.map PyData.int)) = true
    rw [lay_ints ns]
    rfl
theorem depth_ints : ∀ ns : List Int, PyData.depthAll (ns.map PyData.int) = 0
  | [] => rfl
  | n :: ns => by
    show max 0 (PyData.depthAll (ns.map PyData.int)) = 0
    rw [depth_ints ns]
    rfl
theorem dt_ints {K : PySem.W.Frag} {H : Hp} {a : Addr} {ns : List Int} (h : SqL K H a (ns.map V.int)) : Dt K H (.ref a) (.list (ns.map PyData.int)) := .lst h (dts_ints ns)
theorem lay_list_ints (ns : List Int) : PyData.canLay0 (.list (ns.map PyData.int)) = true := lay_ints ns
theorem depth_list_ints (ns : List Int) : PyData.depth (.list (ns.map PyData.int)) = 1 := by
  show PyData.depthAll (ns.map PyData.int) + 1 = 1
  rw [depth_ints]
theorem cmul_l : True := True.intro
theorem cmul_2 (x : Int) : CMul 2 x := Or.inl (by decide)
theorem cmul_4 (x : Int) : CMul 4 x := Or.inl (by decide)
theorem cmul_h (x : Int) : CMul x 48271 := Or.inr (by decide)
theorem known_bool : "bool" ∈ knownT := by decide
theorem known_int : "int" ∈ knownT := by decide
theorem known_str : "str" ∈ knownT := by decide
theorem known_list : "list" ∈ knownT := by decide
theorem known_tuple : "tuple" ∈ knownT := by decide
theorem known_dict : "dict" ∈ knownT := by decide
theorem sT_NoneType_bool : subT "NoneType" "bool" = false := by decide
theorem sT_NoneType_int : subT "NoneType" "int" = false := by decide
theorem sT_NoneType_str : subT "NoneType" "str" = false := by decide
theorem sT_NoneType_list : subT "NoneType" "list" = false := by decide
theorem sT_NoneType_tuple : subT "NoneType" "tuple" = false := by decide
theorem sT_NoneType_dict : subT "NoneType" "dict" = false := by decide
theorem sT_bool_bool : subT "bool" "bool" = true := by decide
theorem sT_bool_int : subT "bool" "int" = true := by decide
theorem sT_bool_str : subT "bool" "str" = false := by decide
theorem sT_bool_list : subT "bool" "list" = false := by decide
theorem sT_bool_tuple : subT "bool" "tuple" = false := by decide
theorem sT_bool_dict : subT "bool" "dict" = false := by decide
theorem sT_int_bool : subT "int" "bool" = false := by decide
theorem sT_int_int : subT "int" "int" = true := by decide
theorem sT_int_str : subT "int" "str" = false := by decide
theorem sT_int_list : subT "int" "list" = false := by decide
theorem sT_int_tuple : subT "int" "tuple" = false := by decide
theorem sT_int_dict : subT "int" "dict" = false := by decide
theorem sT_str_bool : subT "str" "bool" = false := by decide
theorem sT_str_int : subT "str" "int" = false := by decide
theorem sT_str_str : subT "str" "str" = true := by decide
theorem sT_str_list : subT "str" "list" = false := by decide
theorem sT_str_tuple : subT "str" "tuple" = false := by decide
theorem sT_str_dict : subT "str" "dict" = false := by decide
theorem sT_list_bool : subT "list" "bool" = false := by decide
theorem sT_list_int : subT "list" "int" = false := by decide
theorem sT_list_str : subT "list" "str" = false := by decide
theorem sT_list_list : subT "list" "list" = true := by decide
theorem sT_list_tuple : subT "list" "tuple" = false := by decide
theorem sT_list_dict : subT "list" "dict" = false := by decide
theorem sT_tuple_bool : subT "tuple" "bool" = false := by decide
theorem sT_tuple_int : subT "tuple" "int" = false := by decide
theorem sT_tuple_str : subT "tuple" "str" = false := by decide
theorem sT_tuple_list : subT "tuple" "list" = false := by decide
theorem sT_tuple_tuple : subT "tuple" "tuple" = true := by decide
theorem sT_tuple_dict : subT "tuple" "dict" = false := by decide
theorem sT_dict_bool : subT "dict" "bool" = false := by decide
theorem sT_dict_int : subT "dict" "int" = false := by decide
theorem sT_dict_str : subT "dict" "str" = false := by decide
theorem sT_dict_list : subT "dict" "list" = false := by decide
theorem sT_dict_tuple : subT "dict" "tuple" = false := by decide
theorem sT_dict_dict : subT "dict" "dict" = true := by decide
theorem small_of {n : Nat} (h : n ≤ 1000) : n ≤ sizeLine := Nat.le_of_lt (small1000 h)
end L2

end

section
set_option maxHeartbeats 4000000
namespace L2
open PySem PySem.Spec PyProof.Rows
section
variable {X : Cx}
theorem op_is_bl : OpR X (compareOp .Is) (fun x y H Q => ∃ b c, x = .bl b ∧ y = .bl c ∧ Q (.bl (b == c)) H) := by
  intro pins s σ H x y v u Q I rx ry h
  obtain ⟨b, c, rfl, rfl, q⟩ := h
  cases rx
  cases ry
  exact is_bool ⟨.bl _, H, I, rfl, q⟩
theorem op_isnot_bl : OpR X (compareOp .IsNot) (fun x y H Q => ∃ b c, x = .bl b ∧ y = .bl c ∧ Q (.bl (b != c)) H) := by
  intro pins s σ H x y v u Q I rx ry h
  obtain ⟨b, c, rfl, rfl, q⟩ := h
  cases rx
  cases ry
  exact isnot_bool ⟨.bl _, H, I, rfl, q⟩
/-- max of a list of ints that is not empty -/
theorem call_max1 (hc : X.calm = true) : CallR X (.builtin "max") (fun xs H Q => ∃ a ns, xs = [.ref a] ∧ SqL X.K H a (ns.map V.int) ∧ ns ≠ [] ∧ ∀ m, m ∈ ns → (∀ y ∈ ns, y ≤ m) → Q (.int m) H) := by
  intro pins s σ H xs us Q I r h
  obtain ⟨a, ns, rfl, hq, hne, qm⟩ := h
  obtain ⟨u, rfl, ru⟩ := vals1 r
  cases ru
  obtain ⟨its, rv, pl, hz⟩ := I.list hq
  have hlen := rv.length
  rw [List.length_map] at hlen
  have ha : a < s.heap.objs.size := by
    obtain ⟨o, n, e, _⟩ := pl
    exact Heap.lt_size e
  have hsz : its.toArray.size = ns.length := by simp [hlen]
  refine call_max_walk (wpAny_pyIter_list pl.isList ⟨s.heap.objs.size, _, _, _, _, _, fun i j => decide (ns.getD i 0 > ns.getD j 0), rfl, Walks.list (prog := X.prog) (w := X.w) (A := X.A.in1) (I.ok.hd hc) s.heap.objs.size a (Nat.ne_of_lt ha) its.toArray, ⟨⟨_, Heap.get?_push_size _ rfl, rfl, rfl⟩, ?_⟩, ?_, ?_, CmpOf.ints_gt (fun i => ns.getD i 0) fun i v e => vals_int_at rv i v e, ?_⟩)
  · obtain ⟨o, ho, hcl, n, hd⟩ := pl.isList
    exact ⟨o, Heap.get?_push_of_some _ ho, hcl, n, hd⟩
  · intro b hb
    rw [Heap.size_push]
    simp only [List.mem_cons, List.not_mem_nil, or_false] at hb
    rcases hb with e | e
    · rw [e]; exact Nat.lt_succ_self _
    · rw [e]; exact Nat.lt_succ_of_lt ha
  · rw [hsz]
    exact List.length_pos_iff.mpr hne
  · intro v h' tk pv kp
    obtain ⟨b1, b2⟩ := argBest_best (f := fun i => ns.getD i 0) (its.toArray.size - 1)
    have hpos := List.length_pos_iff.mpr hne
    obtain ⟨t, rfl⟩ := vals_int_at rv _ v pv
    refine ⟨.int _, H, I.kept fun b o e => kp b o (fun z => ?_) (Heap.get?_push_of_some _ e), ⟨t, rfl⟩, qm _ ?_ fun y hy => ?_⟩
    · have z' : b = s.heap.objs.size := by simpa using z
      exact absurd (Heap.lt_size e) (by rw [z']; exact Nat.lt_irrefl _)
    · have hlt : argBest (fun i j => decide (ns.getD i 0 > ns.getD j 0)) (its.toArray.size - 1) < ns.length := by omega
      rw [List.getD_eq_getElem?_getD, List.getElem?_eq_getElem hlt]
      exact List.getElem_mem hlt
    · obtain ⟨i, hi, e⟩ := List.mem_iff_getElem.mp hy
      have := b2 i (by omega)
      have e2 : ns.getD i 0 = y := by rw [List.getD_eq_getElem?_getD, List.getElem?_eq_getElem hi]; exact e
      rw [e2] at this
      exact this
end
/-! ### data whose lists and tuples are tracked -/
mutual
inductive Dh (H : Hp) : V → PyData → Prop
  | non : Dh H .non .none
  | bl (b : Bool) : Dh H (.bl b) (.bool b)
  | int (i : Int) : Dh H (.int i) (.int i)
  | str (x : Str) : Dh H (.str x) (.str x)
  | lst {a : Addr} {xs : List V} {ds : List PyData} : H a = some (.lst xs) → Dhs H xs ds → Dh H (.ref a) (.list ds)
  | tup {a : Addr} {xs : List V} {ds : List PyData} : H a = some (.tup xs) → Dhs H xs ds → Dh H (.ref a) (.tuple ds)
inductive Dhs (H : Hp) : List V → List PyData → Prop
  | nil : Dhs H [] []
  | cons {v : V} {d : PyData} {vs : List V} {ds : List PyData} : Dh H v d → Dhs H vs ds → Dhs H (v :: vs) (d :: ds)
end
mutual
theorem Dh.dt {K : PySem.W.Frag} {H : Hp} : ∀ {v : V} {d : PyData}, Dh H v d → Dt K H v d
  | _, _, .non => .non
  | _, _, .bl b => .bl b
  | _, _, .int i => .int i
  | _, _, .str x => .str x
  | _, _, .lst e ds => .lst (SqL.of e) (Dhs.dts ds)
  | _, _, .tup e ds => .tup (SqT.of e) (Dhs.dts ds)
theorem Dhs.dts {K : PySem.W.Frag} {H : Hp} : ∀ {vs : List V} {ds : List PyData}, Dhs H vs ds → Dts K H vs ds
  | _, _, .nil => .nil
  | _, _, .cons d ds => .cons (Dh.dt d) (Dhs.dts ds)
end
/-- the lists and tuples stay -/
def SameD (H H' : Hp) : Prop := ∀ b, (∀ xs, H b = some (.lst xs) → H' b = some (.lst xs)) ∧ ∀ xs, H b = some (.tup xs) → H' b = some (.tup xs)
theorem Same.d {H H' : Hp} (s : Same H H') : SameD H H' := fun b => ⟨fun xs e => s b _ e, fun xs e => s b _ e⟩
mutual
theorem Dh.same {H H' : Hp} (s : SameD H H') : ∀ {v : V} {d : PyData}, Dh H v d → Dh H' v d
  | _, _, .non => .non
  | _, _, .bl b => .bl b
  | _, _, .int i => .int i
  | _, _, .str x => .str x
  | _, _, .lst e ds => .lst ((s _).1 _ e) (Dhs.same s ds)
  | _, _, .tup e ds => .tup ((s _).2 _ e) (Dhs.same s ds)
theorem Dhs.same {H H' : Hp} (s : SameD H H') : ∀ {vs : List V} {ds : List PyData}, Dhs H vs ds → Dhs H' vs ds
  | _, _, .nil => .nil
  | _, _, .cons d ds => .cons (Dh.same s d) (Dhs.same s ds)
end
mutual
def noL : PyData → Bool
  | .tuple ds => noLs ds
  | .none => true
  | .bool _ => true
  | .int _ => true
  | .str _ => true
  | _ => false
def noLs : List PyData → Bool
  | [] => true
  | d :: ds => noL d && noLs ds
end
mutual
/-- data without lists lean on the tuples alone -/
theorem Dh.sameT {H H' : Hp} (hT : ∀ b xs, H b = some (.tup xs) → H' b = some (.tup xs)) : ∀ {v : V} {d : PyData}, Dh H v d → noL d = true → Dh H' v d
  | _, _, .non, _ => .non
  | _, _, .bl b, _ => .bl b
  | _, _, .int i, _ => .int i
  | _, _, .str x, _ => .str x
  | _, _, .lst _ _, h => by simp [noL] at h
  | _, _, .tup e ds, h => .tup (hT _ _ e) (Dhs.sameT hT ds (by simpa [noL] using h))
theorem Dhs.sameT {H H' : Hp} (hT : ∀ b xs, H b = some (.tup xs) → H' b = some (.tup xs)) : ∀ {vs : List V} {ds : List PyData}, Dhs H vs ds → noLs ds = true → Dhs H' vs ds
  | _, _, .nil, _ => .nil
  | _, _, .cons d ds, h => by
    have h' := (Bool.and_eq_true _ _).mp (by simpa [noLs] using h : (noL _ && noLs _) = true)
    exact .cons (Dh.sameT hT d h'.1) (Dhs.sameT hT ds h'.2)
end
theorem noLs_append : ∀ (xs ys : List PyData), noLs (xs ++ ys) = (noLs xs && noLs ys)
  | [], ys => by simp [noLs]
  | x :: xs, ys => by
    show (noL x && noLs (xs ++ ys)) = ((noL x && noLs xs) && noLs ys)
    rw [noLs_append xs ys, Bool.and_assoc]
mutual
/-- no list or tuple in it is too long -/
def lenOk : PyData → Prop
  | .list ds => ds.length ≤ 100000 ∧ lensOk ds
  | .tuple ds => ds.length ≤ 100000 ∧ lensOk ds
  | .dict _ => False
  | _ => True
def lensOk : List PyData → Prop
  | [] => True
  | d :: ds => lenOk d ∧ lensOk ds
end
theorem lens_mem : ∀ {ds : List PyData} {d : PyData}, lensOk ds → d ∈ ds → lenOk d
  | e :: ds, d, h, hm => by
    have h : lenOk e ∧ lensOk ds := by simpa [lensOk] using h
    rcases List.mem_cons.mp hm with z | z
    · rw [z]; exact h.1
    · exact lens_mem h.2 z
theorem depth_mem : ∀ {ds : List PyData} {d : PyData}, d ∈ ds → d.depth ≤ PyData.depthAll ds
  | e :: ds, d, hm => by
    show d.depth ≤ max e.depth (PyData.depthAll ds)
    rcases List.mem_cons.mp hm with z | z
    · rw [z]; exact Nat.le_max_left _ _
    · exact Nat.le_trans (depth_mem z) (Nat.le_max_right _ _)
theorem Dhs.length {H : Hp} : ∀ {vs : List V} {ds : List PyData}, Dhs H vs ds → vs.length = ds.length
  | _, _, .nil => rfl
  | _, _, .cons _ ds => by rw [List.length_cons, List.length_cons, ds.length]
theorem Dhs.get {H : Hp} : ∀ {vs : List V} {ds : List PyData} {i : Nat} {v : V}, Dhs H vs ds → vs[i]? = some v → ∃ d, ds[i]? = some d ∧ Dh H v d
  | _, _, i, v, .nil, h => by simp at h
  | _, _, 0, v, .cons d _, h => by simp at h; subst h; exact ⟨_, rfl, d⟩
  | _, _, i + 1, v, .cons _ ds, h => by
    obtain ⟨d', h1, h2⟩ := ds.get (i := i) (v := v) (by simpa using h)
    exact ⟨d', by simpa using h1, h2⟩
theorem Dhs.snoc {H : Hp} : ∀ {vs : List V} {ds : List PyData} {v : V} {d : PyData}, Dhs H vs ds → Dh H v d → Dhs H (vs ++ [v]) (ds ++ [d])
  | _, _, _, _, .nil, h => .cons h .nil
  | _, _, _, _, .cons a r, h => .cons a (Dhs.snoc r h)
theorem dhs_ints {H : Hp} : ∀ ns : List Int, Dhs H (ns.map V.int) (ns.map PyData.int)
  | [] => .nil
  | n :: ns => .cons (.int n) (dhs_ints ns)
end L2

end

section
set_option maxHeartbeats 4000000
namespace Fb
/-- the greatest of a list -/
def maxL : List Int → Option Int
  | [] => none
  | x :: r => match maxL r with
    | none => some x
    | some m => some (if m < x then x else m)
theorem maxL_none : ∀ {l : List Int}, maxL l = none ↔ l = []
  | [] => by simp [maxL]
  | x :: r => by
    simp only [maxL]
    cases maxL r <;> simp
theorem maxL_mem : ∀ {l : List Int} {m : Int}, maxL l = some m → m ∈ l ∧ ∀ y ∈ l, y ≤ m
  | x :: r, m, h => by
    cases e : maxL r with
    | none =>
      have z : r = [] := maxL_none.mp e
      subst z
      have hx : x = m := by simpa [maxL] using h
      subst hx
      refine ⟨by simp, fun y hy => ?_⟩
      have : y = x := by simpa using hy
      omega
    | some k =>
      obtain ⟨h1, h2⟩ := maxL_mem e
      by_cases q : k < x
      · have hx : x = m := by simpa [maxL, e, q] using h
        subst hx
        refine ⟨by simp, fun y hy => ?_⟩
        rcases List.mem_cons.mp hy with z | z
        · omega
        · have := h2 y z; omega
      · have hx : k = m := by simpa [maxL, e, q] using h
        subst hx
        refine ⟨by simp [h1], fun y hy => ?_⟩
        rcases List.mem_cons.mp hy with z | z
        · omega
        · exact h2 y z
theorem maxL_some {l : List Int} {m : Int} (hm : m ∈ l) (hy : ∀ y ∈ l, y ≤ m) : maxL l = some m := by
  cases e : maxL l with
  | none => rw [maxL_none.mp e] at hm; cases hm
  | some k =>
    obtain ⟨h1, h2⟩ := maxL_mem e
    have a := h2 m hm
    have b := hy k h1
    congr 1
    omega
def heldO (c : Int) (ns : List Int) : Option Int := maxL (ns.filter fun u => decide (c ≤ u))
/-- the loop of the law that looks for the greatest -/
def dueStep (lo : Int) (d : Option Int) (o : Int) : Option Int := if lo < o ∧ (∀ x, d = some x → x < o) then some o else d
def due (lo : Int) (ns : List Int) : Option Int := ns.foldl (dueStep lo) none
theorem due_gen (lo : Int) : ∀ (ns done : List Int) (d : Option Int), (∀ m, d = some m ↔ (m ∈ done ∧ lo < m ∧ ∀ y ∈ done, lo < y → y ≤ m)) → (d = none ↔ ∀ y ∈ done, ¬ lo < y) →
    ns.foldl (dueStep lo) d = maxL ((done ++ ns).filter fun u => decide (lo + 1 ≤ u)) := by
  intro ns
  induction ns with
  | nil =>
    intro done d h1 h2
    show d = _
    rw [List.append_nil]
    cases d with
    | none =>
      have := h2.mp rfl
      refine (maxL_none.mpr ?_).symm
      rw [List.filter_eq_nil_iff]
      intro y hy z
      have z' : lo + 1 ≤ y := by simpa using z
      exact this y hy (by omega)
    | some m =>
      obtain ⟨a, b, c⟩ := (h1 m).mp rfl
      refine (maxL_some ?_ fun y hy => ?_).symm
      · exact List.mem_filter.mpr ⟨a, by simp; omega⟩
      · obtain ⟨p, q⟩ := List.mem_filter.mp hy
        have q' : lo + 1 ≤ y := by simpa using q
        exact c y p (by omega)
  | cons x r ih =>
    intro done d h1 h2
    rw [List.foldl_cons]
    have e : done ++ x :: r = (done ++ [x]) ++ r := by simp
    rw [e]
    refine ih (done ++ [x]) _ (fun m => ?_) ?_
    · unfold dueStep
      by_cases hq : lo < x ∧ (∀ z, d = some z → z < x)
      · rw [if_pos hq]
        obtain ⟨q1, q2⟩ := hq
        constructor
        · intro h
          cases h
          refine ⟨by simp, q1, fun y hy hl => ?_⟩
          rcases List.mem_append.mp hy with z | z
          · cases d with
            | none => exact absurd hl (h2.mp rfl y z)
            | some k =>
              have := q2 k rfl
              have := ((h1 k).mp rfl).2.2 y z hl
              omega
          · have : y = x := by simpa using z
            omega
        · rintro ⟨a, b, c⟩
          have := c x (by simp) q1
          rcases List.mem_append.mp a with z | z
          · cases d with
            | none => exact absurd b (h2.mp rfl m z)
            | some k =>
              have := q2 k rfl
              have := ((h1 k).mp rfl).2.2 m z b
              omega
          · have : m = x := by simpa using z
            rw [this]
      · rw [if_neg hq]
        constructor
        · intro h
          obtain ⟨a, b, c⟩ := (h1 m).mp h
          refine ⟨by simp [a], b, fun y hy hl => ?_⟩
          rcases List.mem_append.mp hy with z | z
          · exact c y z hl
          · have hx : y = x := by simpa using z
            subst hx
            apply Classical.byContradiction
            intro hn
            refine hq ⟨hl, fun z hz => ?_⟩
            rw [h] at hz
            cases hz
            omega
        · rintro ⟨a, b, c⟩
          rcases List.mem_append.mp a with z | z
          · exact (h1 m).mpr ⟨z, b, fun y hy => c y (by simp [hy])⟩
          · have hx : m = x := by simpa using z
            subst hx
            apply Classical.byContradiction
            intro hn
            refine hq ⟨b, fun k hk => ?_⟩
            obtain ⟨a', b', c'⟩ := (h1 k).mp hk
            have h3 := c k (by simp [a']) b'
            by_cases hkm : k = m
            · subst hkm; exact absurd hk hn
            · omega
    · unfold dueStep
      by_cases hq : lo < x ∧ (∀ z, d = some z → z < x)
      · rw [if_pos hq]
        constructor
        · intro h; cases h
        · intro h; exact absurd hq.1 (h x (by simp))
      · rw [if_neg hq]
        constructor
        · intro h y hy
          rcases List.mem_append.mp hy with z | z
          · exact h2.mp h y z
          · have hx : y = x := by simpa using z
            subst hx
            intro hl
            exact hq ⟨hl, fun z hz => by rw [h] at hz; cases hz⟩
        · intro h
          exact h2.mpr fun y hy => h y (by simp [hy])
theorem due_eq (lo : Int) (ns : List Int) : due lo ns = heldO (lo + 1) ns := by
  have := due_gen lo ns [] none (fun m => by simp) (by simp)
  simpa [due, heldO] using this


open PySem L2
def ov : Option Int → V
  | none => .non
  | some m => .int m

def top (i : Nat) : Stmt := PySem.Challenge.pw_freshbook_k06_attempts.main.body.getD i (.Pass ⟨0, 0, 0, 0⟩)
-- WPMORE sFld, tFld, tDNewK, tMeth, tDrop, sDPut, tDPop2, tDVals, tTup, tBM, tBM0, upd_same, upd_upd, HO.ins.injEq, fl_keeper, fl_value, fl_version, fl_notes, fl_quiet, fl_waiting, fl_lend, fl_take_back, fl_come_up, fl_put_up, fl_attempt, fl_noted_untils, fl_take_change, put_value, put_version, put_notes, put_quiet, put_waiting, fl_len
/-! ### a thing -/
/-- the attributes, in the order in which they are stored -/
def fl (k v n d q w : V) : List (Str × V) := [("keeper", k), ("value", v), ("version", n), ("notes", d), ("quiet", q), ("waiting", w)]
section
variable {k v n d q w x : V}
theorem fl_keeper : (fl k v n d q w).lookup ("keeper" : Str) = some k := by kernel_rfl
theorem fl_value : (fl k v n d q w).lookup ("value" : Str) = some v := by kernel_rfl
theorem fl_version : (fl k v n d q w).lookup ("version" : Str) = some n := by kernel_rfl
theorem fl_notes : (fl k v n d q w).lookup ("notes" : Str) = some d := by kernel_rfl
theorem fl_quiet : (fl k v n d q w).lookup ("quiet" : Str) = some q := by kernel_rfl
theorem fl_waiting : (fl k v n d q w).lookup ("waiting" : Str) = some w := by kernel_rfl
theorem fl_lend : (fl k v n d q w).lookup ("lend" : Str) = none := by kernel_rfl
theorem fl_take_back : (fl k v n d q w).lookup ("take_back" : Str) = none := by kernel_rfl
theorem fl_come_up : (fl k v n d q w).lookup ("come_up" : Str) = none := by kernel_rfl
theorem fl_put_up : (fl k v n d q w).lookup ("put_up" : Str) = none := by kernel_rfl
theorem fl_attempt : (fl k v n d q w).lookup ("attempt" : Str) = none := by kernel_rfl
theorem fl_noted_untils : (fl k v n d q w).lookup ("noted_untils" : Str) = none := by kernel_rfl
theorem fl_take_change : (fl k v n d q w).lookup ("take_change" : Str) = none := by kernel_rfl
theorem put_value : putF ("value" : Str) x (fl k v n d q w) = fl k x n d q w := by kernel_rfl
theorem put_version : putF ("version" : Str) x (fl k v n d q w) = fl k v x d q w := by kernel_rfl
theorem put_notes : putF ("notes" : Str) x (fl k v n d q w) = fl k v n x q w := by kernel_rfl
theorem put_quiet : putF ("quiet" : Str) x (fl k v n d q w) = fl k v n d x w := by kernel_rfl
theorem put_waiting : putF ("waiting" : Str) x (fl k v n d q w) = fl k v n d q x := by kernel_rfl
theorem put_all : putF ("waiting" : Str) w (putF ("quiet" : Str) q (putF ("notes" : Str) d (putF ("version" : Str) n (putF ("value" : Str) v (putF ("keeper" : Str) k []))))) = fl k v n d q w := by kernel_rfl
theorem fl_len : (fl k v n d q w).length < 1000 := by show 6 < 1000; decide
end
local macro_rules | `(tactic| walk_at $x:str) => do
  let ws := x.getString.splitOn " "
  if ws.head! != "wp" then Lean.Macro.throwUnsupported
  let mut hs : Array (Lean.TSyntax `Lean.Parser.Tactic.simpLemma) := #[]
  for z in ws.tail! do
    let ps := z.splitOn ":"
    let mut t : Lean.TSyntax `term := Lean.mkIdent ps.head!.toName
    for p in ps.tail! do
      let a : Lean.TSyntax `term := Lean.mkIdent p.toName
      t ← `($t $a)
    hs := hs.push (← `(Lean.Parser.Tactic.simpLemma| $t:term))
  `(tactic| simp only [cxOf_K, cxOf_A, cxComp_K, cxComp_A, tSeq, tNext, tForG, iRng1, iList, tLst, tAsg, gName, tRet, tRetN, tOp, tVar, tC, rI0, rI, rU, tUn, tChain, tTest, tB, tIfS, tAnd, tOr, tNot, tAndV, tOrV, tNotV, tIsN, tNotN, tCB, tCons, tNil, tCall, rEq, rNe, L2.start, List.map_cons, List.map_nil, List.cons_append, List.nil_append, List.append_nil, List.length_cons, List.length_nil, List.replicate, List.getElem?_cons_zero, List.getElem?_cons_succ, List.set_cons_zero, List.set_cons_succ, Option.some.injEq, V.int.injEq, V.bl.injEq, V.ref.injEq, V.str.injEq, V.ty.injEq, List.cons.injEq, exists_eq_left', exists_and_left, exists_eq_left, and_true, true_and, exists_eq_right, exists_eq_right', Nat.zero_add, Nat.reduceAdd, Nat.reduceSub, and_assoc, ↓reduceIte, Bool.not_true, Bool.not_false, Bool.false_eq_true, Bool.true_and, Bool.false_and, cmul_2, cmul_4, cmul_h, known_bool, known_int, known_str, known_list, known_tuple, known_dict, sT_NoneType_bool, sT_NoneType_int, sT_NoneType_str, sT_NoneType_list, sT_NoneType_tuple, sT_NoneType_dict, sT_bool_bool, sT_bool_int, sT_bool_str, sT_bool_list, sT_bool_tuple, sT_bool_dict, sT_int_bool, sT_int_int, sT_int_str, sT_int_list, sT_int_tuple, sT_int_dict, sT_str_bool, sT_str_int, sT_str_str, sT_str_list, sT_str_tuple, sT_str_dict, sT_list_bool, sT_list_int, sT_list_str, sT_list_list, sT_list_tuple, sT_list_dict, sT_tuple_bool, sT_tuple_int, sT_tuple_str, sT_tuple_list, sT_tuple_tuple, sT_tuple_dict, sT_dict_bool, sT_dict_int, sT_dict_str, sT_dict_list, sT_dict_tuple, sT_dict_dict, tyN_non, tyN_bl, tyN_int, tyN_str, Int.reduceLT, small_of, Nat.reduceLeDiff, scal, not_true_eq_false, not_false_eq_true, reduceCtorEq, decide_true, decide_false, Bool.or_true, Bool.true_or, Bool.or_false, Bool.false_or, Bool.and_true, Bool.and_false, HO.tup.injEq, HO.lst.injEq, tYes, false_and, false_or, or_false, and_false, exists_false, sFld, tFld, tDNewK, tMeth, tDrop, sDPut, tDPop2, tDVals, tTup, tBM, tBM0, upd_same, upd_upd, HO.ins.injEq, fl_keeper, fl_value, fl_version, fl_notes, fl_quiet, fl_waiting, fl_lend, fl_take_back, fl_come_up, fl_put_up, fl_attempt, fl_noted_untils, fl_take_change, put_value, put_version, put_notes, put_quiet, put_waiting, fl_len, $hs,*])

structure T where
  keeper : Int
  value : Int
  version : Int
  notes : List (Key × V)
  quiet : Option Int
  waiting : Option Int
structure ThAt (C : Addr) (H : Hp) (p d : Addr) (t : T) : Prop where
  ob : ∃ dx, H p = some (.ins C dx (fl (.int t.keeper) (.int t.value) (.int t.version) (.ref d) (ov t.quiet) (ov t.waiting)))
  dc : H d = some (.dK t.notes)
theorem ThAt.ne {C : Addr} {H : Hp} {p d : Addr} {t : T} (h : ThAt C H p d t) : p ≠ d := by
  obtain ⟨⟨dx, h1⟩, h2⟩ := h
  exact ne_of h1 h2 (by intro z; cases z)
/-- the ints of the notes -/
def valsOf (l : List (Key × V)) : List Int := l.filterMap fun kv => match kv.2 with
  | .int i => some i
  | _ => none
def Ints (l : List (Key × V)) : Prop := ∀ kv ∈ l, ∃ i, kv.2 = .int i
theorem vals_eq : ∀ {l : List (Key × V)}, Ints l → l.map (·.2) = (valsOf l).map V.int
  | [], _ => rfl
  | kv :: r, h => by
    obtain ⟨i, e⟩ := h kv List.mem_cons_self
    have ih := vals_eq (l := r) fun x hx => h x (List.mem_cons_of_mem _ hx)
    rw [List.map_cons, ih, e]
    show V.int i :: _ = List.map V.int (List.filterMap _ (kv :: r))
    rw [List.filterMap_cons]
    simp only [e]
    rfl
def noted (t : T) : List Int := valsOf t.notes ++ t.quiet.toList
inductive Ans where
  | nothing
  | waits (u : Int)
  | changed (n : Int)
def ansD : Ans → PyData
  | .nothing => .str "nothing"
  | .waits u => .tuple [.str "waits", .int u]
  | .changed n => .tuple [.str "changed", .int n]
def done (t : T) (v : Int) : T := { t with value := v, version := t.version + 1, notes := [], quiet := none, waiting := none }
def att (t : T) (c : Int) : Ans × T := match t.waiting with
  | none => (.nothing, t)
  | some v => match heldO c (noted t) with
    | some u => (.waits u, t)
    | none => (.changed (t.version + 1), done t v)
/-- what the class is, as the top has made it -/
structure Txt (K : PySem.W.Frag) (C : Addr) : Prop where
  cl : Cls K C
  n1 : NoAttr K C "keeper"
  n2 : NoAttr K C "value"
  n3 : NoAttr K C "version"
  n4 : NoAttr K C "notes"
  n5 : NoAttr K C "quiet"
  n6 : NoAttr K C "waiting"
section
variable {P : Program} {w : World} {K : PySem.W.Frag} {mg : Str → Option Value} {base : Heap} {C : Addr}
def leV (c : Int) : V → Bool
  | .int u => decide (c ≤ u)
  | _ => false
theorem filter_leV (c : Int) (ns : List Int) : (((ns.map V.int).filter (leV c)).map id : List V) = (ns.filter fun u => decide (c ≤ u)).map V.int := by
  rw [List.map_id, List.filter_map]
  rfl
theorem mem_ints {ns : List Int} {x : V} (h : x ∈ ns.map V.int) : ∃ i, i ∈ ns ∧ x = .int i := by
  obtain ⟨i, h1, h2⟩ := List.mem_map.mp h
  exact ⟨i, h1, h2.symm⟩
def sp_held (K : PySem.W.Frag) : Sp := fun vs H Q _ => ∃ c a ns, vs = [.int c, .ref a] ∧ SqL K H a (ns.map V.int) ∧ ns.length ≤ 1000 ∧ ∀ H', Same H H' → Q (ov (heldO c ns)) H'
theorem sc_held_until : FnScope ["clock", "untils"] ["clock", "untils"] (defScope (top 2)) := ⟨rfl, rfl, rfl, by decide +kernel, rfl, by decide +kernel, by decide +kernel⟩
theorem ok_held_until {f : Addr} {fd : FuncData} (mg_max : mg "max" = none) (F : Fun K "held_until" "held_until" (top 2) f fd) : FnOk P w K mg base CX0 1 f fd ["clock", "untils"] (sp_held K) := by
  refine F.ok sc_held_until (fun vs H Q E h => ?_) (fun cdv A outer s H vs Q E hr h => ?_)
  · obtain ⟨c, a, ns, rfl, _⟩ := h
    rfl
  · obtain ⟨c, a, ns, rfl, hS, hl, q⟩ := h
    refine ⟨_, (pss_one (ps_ret (pe_maxD rfl rfl mg_max (pe_lc (own := ["until"]) rfl (LcScope.of (by kernel_rfl)) (pi_list (pv 1)) (fun cl C s H fp => ⟨(pg_name (i := 2) (show List.Nodup (α := Str) ["clock", "untils", "until"] by decide +kernel) rfl (Or.inl rfl)), (pts_one (pt_cmpR op_le (pv 0) (pv 2) (nomark _))), (pv 2)⟩)) pe_non))), ?_⟩
    refine ⟨_, rfl, a, rfl, ⟨_, hS⟩, fun D hD => ?_⟩
    refine lc_pure (xs := ns.map V.int) rfl hD (fun H' h => Yields.list (h.seq hS)) (by rw [List.length_map]; exact hl) (leV c) id (fun x hx H' _ R r => ?_) (fun x hx _ H' _ R r => ?_) ?_
    · obtain ⟨i, _, rfl⟩ := mem_ints hx
      walk_at "wp"
      exact r
    · walk_at "wp"
      exact r
    · have sm : Same H (upd H D (.lst ((ns.filter fun u => decide (c ≤ u)).map V.int))) := fun b u e => by rw [upd_ne (ne_of_none e hD)]; exact e
      rw [filter_leV]
      refine ⟨D, _, rfl, SqL.of upd_same, fun e => ?_, fun m h1 h2 => ?_⟩
      · have := q _ sm
        rw [heldO, maxL_none.mpr e] at this
        exact this
      · have := q _ sm
        rw [heldO, maxL_some h1 h2] at this
        exact this

def sp_quiet_until : Sp := fun vs H Q _ => ∃ c l b, vs = [.int c, .int l, .int b] ∧ Q (.int (c + l + 2 * b)) H
theorem sc_quiet_until : FnScope ["clock", "length", "bound"] ["clock", "length", "bound"] (defScope (top 3)) := ⟨rfl, rfl, rfl, by decide +kernel, rfl, by decide +kernel, by decide +kernel⟩
theorem ok_quiet_until {f : Addr} {fd : FuncData} (F : Fun K "quiet_until" "quiet_until" (top 3) f fd) : FnOk P w K mg base CX0 1 f fd ["clock", "length", "bound"] sp_quiet_until := by
  refine F.ok sc_quiet_until (fun vs H Q E h => ?_) (fun cdv A outer s H vs Q E hr h => ?_)
  · obtain ⟨c, l, b, rfl, _⟩ := h
    rfl
  · obtain ⟨c, l, b, rfl, q⟩ := h
    refine ⟨_, (pss_one (ps_ret (pe_op op_add (pe_op op_add (pv 0) (pv 1)) (pe_op op_mul pe_int (pv 2))))), ?_⟩
    walk_at "wp"
    exact q

def sp_init (C : Addr) : Sp := fun vs H Q _ => ∃ (p dx : Addr) (k v : Int), vs = [.ref p, .int k, .int v] ∧ H p = some (.ins C dx []) ∧ ∀ (d : Addr) (H' : Hp), H d = none → ThAt C H' p d ⟨k, v, 0, [], none, none⟩ → (∀ b o, H b = some o → b ≠ p → H' b = some o) → Q .non H'
theorem sc_Thing___init__ : FnScope ["self", "keeper", "value"] ["self", "keeper", "value"] (defScope (inClass (top 5) 0)) := ⟨rfl, rfl, rfl, by decide +kernel, rfl, by decide +kernel, by decide +kernel⟩
theorem ok_init {f : Addr} {fd : FuncData} (T : Txt K C) (F : Fun K "__init__" "Thing.__init__" (inClass (top 5) 0) f fd) : FnOk P w K mg base CX0 1 f fd ["self", "keeper", "value"] (sp_init C) := by
  refine F.ok sc_Thing___init__ (fun vs H Q E h => ?_) (fun cdv A outer s H vs Q E hr h => ?_)
  · obtain ⟨p, dx, k, v, rfl, _⟩ := h
    rfl
  · obtain ⟨p, dx, k, v, rfl, hp, q⟩ := h
    refine ⟨_, (pss_cons (ps_fld (pv 0) (pv 1) rfl)  (pss_cons (ps_fld (pv 0) (pv 2) rfl)  (pss_cons (ps_fld (pv 0) pe_int rfl)  (pss_cons (ps_fld (pv 0) pe_dnewK rfl)  (pss_cons (ps_fld (pv 0) pe_non rfl)  (pss_one (ps_fld (pv 0) pe_non rfl))))))), ?_⟩
    walk_at "wp hp T.cl T.n1 T.n2 T.n3 T.n4"
    refine ⟨by decide, (by show 1 < 1000; decide), (by show 2 < 1000; decide), fun d hd => ?_⟩
    have npd : p ≠ d := fun e => by rw [← e, upd_same] at hd; cases hd
    have hd0 : H d = none := by rw [upd_ne npd.symm] at hd; exact hd
    walk_at "wp upd_ne:npd T.cl T.n4 T.n5 T.n6"
    refine ⟨(by show 3 < 1000; decide), (by show 4 < 1000; decide), (by show 5 < 1000; decide), ?_⟩
    refine q d _ hd0 ⟨⟨dx, ?_⟩, ?_⟩ fun b o e hb => ?_
    · rw [upd_same, put_all]; rfl
    · rw [upd_ne npd.symm, upd_same]
    · rw [upd_ne hb, upd_ne (ne_of_none e hd0), upd_ne hb]; exact e
def Fr2 (p d : Addr) (H H' : Hp) : Prop := ∀ b o, H b = some o → b ≠ p → b ≠ d → H' b = some o
def sp_lend (C : Addr) : Sp := fun vs H Q _ => ∃ (p d : Addr) (t : T) (x u : Int), vs = [.ref p, .int x, .int u] ∧ ThAt C H p d t ∧ t.notes.length ≤ 900 ∧ ∀ H', ThAt C H' p d { t with notes := putK t.notes (Sum.inl x) (.int u) } → Fr2 p d H H' → Q .non H'
theorem sc_Thing_lend : FnScope ["self", "desk", "until"] ["self", "desk", "until"] (defScope (inClass (top 5) 1)) := ⟨rfl, rfl, rfl, by decide +kernel, rfl, by decide +kernel, by decide +kernel⟩
theorem ok_lend {f : Addr} {fd : FuncData} (T : Txt K C) (F : Fun K "lend" "Thing.lend" (inClass (top 5) 1) f fd) : FnOk P w K mg base CX0 1 f fd ["self", "desk", "until"] (sp_lend C) := by
  refine F.ok sc_Thing_lend (fun vs H Q E h => ?_) (fun cdv A outer s H vs Q E hr h => ?_)
  · obtain ⟨p, d, t, x, u, rfl, _⟩ := h
    rfl
  · obtain ⟨p, d, t, x, u, rfl, S, hl, q⟩ := h
    have hu := hu_of hr
    obtain ⟨⟨dx, h1⟩, hd⟩ := id S
    refine ⟨_, (pss_one (ps_dput hu (pe_fld (pv 0) rfl) (pv 1) (pv 2) rfl)), ?_⟩
    walk_at "wp h1 T.cl T.n4"
    refine ⟨_, DPut.k (k := Sum.inl x) hd (small1000 (by omega)), ?_⟩
    refine q _ ⟨⟨dx, by rw [upd_ne S.ne]; exact h1⟩, upd_same⟩ fun b o e _ hb => ?_
    rw [upd_ne hb]; exact e
def sp_take_back (C : Addr) : Sp := fun vs H Q _ => ∃ (p d : Addr) (t : T) (x : Int), vs = [.ref p, .int x] ∧ ThAt C H p d t ∧ ∀ H', ThAt C H' p d { t with notes := dropK t.notes (Sum.inl x) } → Fr2 p d H H' → Q .non H'
theorem sc_Thing_take_back : FnScope ["self", "desk"] ["self", "desk"] (defScope (inClass (top 5) 2)) := ⟨rfl, rfl, rfl, by decide +kernel, rfl, by decide +kernel, by decide +kernel⟩
theorem ok_take_back {f : Addr} {fd : FuncData} (T : Txt K C) (F : Fun K "take_back" "Thing.take_back" (inClass (top 5) 2) f fd) : FnOk P w K mg base CX0 1 f fd ["self", "desk"] (sp_take_back C) := by
  refine F.ok sc_Thing_take_back (fun vs H Q E h => ?_) (fun cdv A outer s H vs Q E hr h => ?_)
  · obtain ⟨p, d, t, x, rfl, _⟩ := h
    rfl
  · obtain ⟨p, d, t, x, rfl, S, q⟩ := h
    have hu := hu_of hr
    obtain ⟨⟨dx, h1⟩, hd⟩ := id S
    refine ⟨_, (pss_one (ps_expr (pe_dpop2 (pe_fld (pv 0) rfl) (pv 1) pe_non ⟨rfl, rfl, rfl, rfl⟩))), ?_⟩
    walk_at "wp h1 T.cl T.n4"
    refine ⟨Or.inl ⟨_, Rd.of hd⟩, t.notes, hd, Sum.inl x, rfl, fun v hv => ?_, fun hv => ?_⟩
    · refine q _ ⟨⟨dx, by rw [upd_ne S.ne]; exact h1⟩, upd_same⟩ fun b o e _ hb => ?_
      rw [upd_ne hb]; exact e
    · have e0 : dropK t.notes (Sum.inl x : Key) = t.notes := dropK_no (valV_not hv)
      refine q H ?_ fun b o e _ _ => e
      rw [e0]
      exact S
def sp_come_up (C : Addr) : Sp := fun vs H Q _ => ∃ (p d : Addr) (t : T) (c l b : Int), vs = [.ref p, .int c, .int l, .int b] ∧ ThAt C H p d t ∧ ∀ H', ThAt C H' p d { t with quiet := some (c + l + 2 * b) } → Fr2 p d H H' → Q .non H'
theorem sc_Thing_come_up : FnScope ["self", "clock", "length", "bound"] ["self", "clock", "length", "bound"] (defScope (inClass (top 5) 3)) := ⟨rfl, rfl, rfl, by decide +kernel, rfl, by decide +kernel, by decide +kernel⟩
theorem ok_come_up {f : Addr} {fd : FuncData} (T : Txt K C) (d_quiet_until : Def P w K mg base "quiet_until" 1 ["clock", "length", "bound"] sp_quiet_until) (F : Fun K "come_up" "Thing.come_up" (inClass (top 5) 3) f fd) : FnOk P w K mg base CX0 2 f fd ["self", "clock", "length", "bound"] (sp_come_up C) := by
  refine F.ok sc_Thing_come_up (fun vs H Q E h => ?_) (fun cdv A outer s H vs Q E hr h => ?_)
  · obtain ⟨p, d, t, c, l, b, rfl, _⟩ := h
    rfl
  · obtain ⟨p, d, t, c, l, b, rfl, S, q⟩ := h
    obtain ⟨⟨dx, h1⟩, hd⟩ := id S
    refine ⟨_, (pss_one (ps_fld (pv 0) (pe_def d_quiet_until (hr.mono (by omega)) rfl (pa_cons (pv 1) (pa_cons (pv 2) (pa_cons (pv 3) pa_nil)))) rfl)), ?_⟩
    walk_at "wp h1 T.cl T.n5 sp_quiet_until"
    refine q _ ⟨⟨dx, upd_same⟩, by rw [upd_ne S.ne.symm]; exact hd⟩ fun b' o e hb _ => ?_
    rw [upd_ne hb]; exact e
def sp_put_up (C : Addr) : Sp := fun vs H Q _ => ∃ (p d : Addr) (t : T) (v : Int), vs = [.ref p, .int v] ∧ ThAt C H p d t ∧ (t.waiting = none → ∀ H', ThAt C H' p d { t with waiting := some v } → Fr2 p d H H' → Q (.bl true) H') ∧ (∀ y, t.waiting = some y → Q (.bl false) H)
theorem sc_Thing_put_up : FnScope ["self", "value"] ["self", "value"] (defScope (inClass (top 5) 5)) := ⟨rfl, rfl, rfl, by decide +kernel, rfl, by decide +kernel, by decide +kernel⟩
theorem ok_put_up {f : Addr} {fd : FuncData} (T : Txt K C) (F : Fun K "put_up" "Thing.put_up" (inClass (top 5) 5) f fd) : FnOk P w K mg base CX0 1 f fd ["self", "value"] (sp_put_up C) := by
  refine F.ok sc_Thing_put_up (fun vs H Q E h => ?_) (fun cdv A outer s H vs Q E hr h => ?_)
  · obtain ⟨p, d, t, v, rfl, _⟩ := h
    rfl
  · obtain ⟨p, d, t, v, rfl, S, q1, q2⟩ := h
    obtain ⟨⟨dx, h1⟩, hd⟩ := id S
    refine ⟨_, (pss_cons (ps_if (pt_cmp (pc_notN (pe_fld (pv 0) rfl))) (pss_one (ps_ret pe_bl)) pss_nil)  (pss_cons (ps_fld (pv 0) (pv 1) rfl)  (pss_one (ps_ret pe_bl)))), ?_⟩
    walk_at "wp h1 T.cl T.n6"
    cases e : t.waiting with
    | none =>
      refine iteNS rfl ?_
      refine q1 e _ ⟨⟨dx, upd_same⟩, by rw [upd_ne S.ne.symm]; exact hd⟩ fun b' o e hb _ => ?_
      rw [upd_ne hb]; exact e
    | some y =>
      rw [decide_eq_false (show ¬ ov (some y) = V.non from fun e => nomatch e)]
      exact iteT (q2 y e)
def sp_noted (C : Addr) : Sp := fun vs H Q _ => ∃ (p d : Addr) (t : T), vs = [.ref p] ∧ ThAt C H p d t ∧ Ints t.notes ∧ t.notes.length ≤ 900 ∧ ∀ l H', H l = none → H' l = some (.lst ((noted t).map V.int)) → Same H H' → Q (.ref l) H'
theorem sc_Thing_noted_untils : FnScope ["self", "untils"] ["self"] (defScope (inClass (top 5) 7)) := ⟨rfl, rfl, rfl, by decide +kernel, rfl, by decide +kernel, by decide +kernel⟩
theorem ok_noted {f : Addr} {fd : FuncData} (T : Txt K C) (mg_list : mg "list" = none) (F : Fun K "noted_untils" "Thing.noted_untils" (inClass (top 5) 7) f fd) : FnOk P w K mg base CX0 1 f fd ["self"] (sp_noted C) := by
  refine F.ok sc_Thing_noted_untils (fun vs H Q E h => ?_) (fun cdv A outer s H vs Q E hr h => ?_)
  · obtain ⟨p, d, t, rfl, _⟩ := h
    rfl
  · obtain ⟨p, d, t, rfl, S, hi, hl, q⟩ := h
    obtain ⟨⟨dx, h1⟩, hd⟩ := id S
    refine ⟨_, (pss_cons (ps_set (i := 1) sc_Thing_noted_untils.nd rfl (Or.inl rfl) (pe_dvals rfl rfl mg_list (pe_fld (pv 0) rfl) rfl rfl))  (pss_cons (ps_if (pt_cmp (pc_notN (pe_fld (pv 0) rfl))) (pss_one (ps_expr (pe_bm PySem.F.plainAttrs_list PySem.F.slot_list_append PySem.F.type_list_append mt_append (pv 1) (pa_cons (pe_fld (pv 0) rfl) pa_nil)))) pss_nil)  (pss_one (ps_ret (pv 1))))), ?_⟩
    walk_at "wp h1 T.cl T.n4"
    refine ⟨t.notes, Rd.of hd, fun l hl0 => ?_⟩
    have npl : p ≠ l := ne_of_none h1 hl0
    rw [vals_eq hi]
    have sm : ∀ o, Same H (upd H l o) := fun o b u e => by rw [upd_ne (ne_of_none e hl0)]; exact e
    walk_at "wp upd_ne:npl h1 T.cl T.n5"
    cases e : t.quiet with
    | none =>
      refine iteNS rfl ?_
      refine q l _ hl0 ?_ (sm _)
      rw [upd_same, noted, e]
      simp
    | some z =>
      rw [decide_eq_false (show ¬ ov (some z) = V.non from fun e => nomatch e)]
      refine iteT ?_
      refine ⟨Or.inl ⟨rfl, _, SqL.of upd_same⟩, l, _, _, rfl, rfl, upd_same, ?_, ?_⟩
      · rw [List.length_map]
        have : (valsOf t.notes).length ≤ t.notes.length := List.length_filterMap_le _ _
        exact small1000 (by omega)
      · refine q l _ hl0 ?_ ?_
        · rw [upd_same, noted, e]
          simp [ov]
        · rw [upd_upd]
          exact sm _
def sp_take_change (C : Addr) : Sp := fun vs H Q _ => ∃ (p d : Addr) (t : T) (v : Int), vs = [.ref p] ∧ ThAt C H p d t ∧ t.waiting = some v ∧ ∀ d' H', H d' = none → ThAt C H' p d' (done t v) → (∀ b o, H b = some o → b ≠ p → H' b = some o) → Q .non H'
theorem sc_Thing_take_change : FnScope ["self"] ["self"] (defScope (inClass (top 5) 8)) := ⟨rfl, rfl, rfl, by decide +kernel, rfl, by decide +kernel, by decide +kernel⟩
theorem ok_take_change {f : Addr} {fd : FuncData} (T : Txt K C) (F : Fun K "take_change" "Thing.take_change" (inClass (top 5) 8) f fd) : FnOk P w K mg base CX0 1 f fd ["self"] (sp_take_change C) := by
  refine F.ok sc_Thing_take_change (fun vs H Q E h => ?_) (fun cdv A outer s H vs Q E hr h => ?_)
  · obtain ⟨p, d, t, v, rfl, _⟩ := h
    rfl
  · obtain ⟨p, d, t, v, rfl, S, ew, q⟩ := h
    obtain ⟨⟨dx, h1⟩, hd⟩ := id S
    refine ⟨_, (pss_cons (ps_fld (pv 0) (pe_fld (pv 0) rfl) rfl)  (pss_cons (ps_fld (pv 0) (pe_op op_add (pe_fld (pv 0) rfl) pe_int) rfl)  (pss_cons (ps_fld (pv 0) pe_non rfl)  (pss_cons (ps_fld (pv 0) pe_dnewK rfl)  (pss_one (ps_fld (pv 0) pe_non rfl)))))), ?_⟩
    walk_at "wp h1 T.cl T.n2 T.n3 T.n4 T.n6"
    intro d' hd'
    have npd : p ≠ d' := fun e => by rw [← e, upd_same] at hd'; cases hd'
    have hd0 : H d' = none := by rw [upd_ne npd.symm] at hd'; exact hd'
    walk_at "wp upd_ne:npd T.cl T.n4 T.n5"
    refine q d' _ hd0 ⟨⟨dx, ?_⟩, ?_⟩ fun b o e hb => ?_
    · rw [upd_same, ew]; rfl
    · rw [upd_ne npd.symm, upd_same]; rfl
    · rw [upd_ne hb, upd_ne (ne_of_none e hd0), upd_ne hb]; exact e
/-- what an attempt answers, as it stands in the heap -/
def sp_attempt (C : Addr) : Sp := fun vs H Q _ => ∃ (p d : Addr) (t : T) (c : Int), vs = [.ref p, .int c] ∧ ThAt C H p d t ∧ Ints t.notes ∧ t.notes.length ≤ 900 ∧
  ∀ v d' H', Dh H' v (ansD (att t c).1) → ThAt C H' p d' (att t c).2 → (d' = d ∨ H d' = none) → (∀ b o, H b = some o → b ≠ p → H' b = some o) → Q v H'
theorem sc_Thing_attempt : FnScope ["self", "clock", "until"] ["self", "clock"] (defScope (inClass (top 5) 6)) := ⟨rfl, rfl, rfl, by decide +kernel, rfl, by decide +kernel, by decide +kernel⟩
theorem len_noted {t : T} (hl : t.notes.length ≤ 900) : (noted t).length ≤ 1000 := by
  have h1 : (valsOf t.notes).length ≤ t.notes.length := List.length_filterMap_le _ _
  unfold noted
  rw [List.length_append]
  have h2 : t.quiet.toList.length ≤ 1 := by cases t.quiet <;> simp
  omega
theorem ThAt.same {H H' : Hp} {p d : Addr} {t : T} (S : ThAt C H p d t) (s : Same H H') : ThAt C H' p d t := by
  obtain ⟨⟨dx, h1⟩, h2⟩ := S
  exact ⟨⟨dx, s _ _ h1⟩, s _ _ h2⟩
theorem ok_attempt {f : Addr} {fd : FuncData} (T : Txt K C) (d_held_until : Def P w K mg base "held_until" 1 ["clock", "untils"] (sp_held K)) (d_Thing_noted_untils : MDef P w K mg base C "noted_untils" 1 ["self"] (sp_noted C)) (d_Thing_take_change : MDef P w K mg base C "take_change" 1 ["self"] (sp_take_change C))
    (F : Fun K "attempt" "Thing.attempt" (inClass (top 5) 6) f fd) : FnOk P w K mg base CX0 2 f fd ["self", "clock"] (sp_attempt C) := by
  refine F.ok sc_Thing_attempt (fun vs H Q E h => ?_) (fun cdv A outer s H vs Q E hr h => ?_)
  · obtain ⟨p, d, t, c, rfl, _⟩ := h
    rfl
  · obtain ⟨p, d, t, c, rfl, S, hi, hl, q⟩ := h
    obtain ⟨⟨dx, h1⟩, hd⟩ := id S
    refine ⟨_, (pss_cons (ps_if (pt_cmp (pc_isN (pe_fld (pv 0) rfl))) (pss_one (ps_ret pe_str)) pss_nil)  (pss_cons (ps_set (i := 2) sc_Thing_attempt.nd rfl (Or.inl rfl) (pe_def d_held_until (hr.mono (by omega)) rfl (pa_cons (pv 1) (pa_cons (pe_mdef0 (pv 0) d_Thing_noted_untils (hr.mono (by omega))) pa_nil))))  (pss_cons (ps_if (pt_cmp (pc_notN (pv 2))) (pss_one (ps_ret (pe_tup (pa_cons pe_str (pa_cons (pv 2) pa_nil))))) pss_nil)  (pss_cons (ps_expr (pe_mdef0 (pv 0) d_Thing_take_change (hr.mono (by omega))))  (pss_one (ps_ret (pe_tup (pa_cons pe_str (pa_cons (pe_fld (pv 0) rfl) pa_nil))))))))), ?_⟩
    walk_at "wp h1 T.cl T.n6"
    cases ew : t.waiting with
    | none =>
      rw [decide_eq_true (show ov none = V.non from rfl)]
      refine iteT ?_
      have e : att t c = (.nothing, t) := by unfold att; rw [ew]
      rw [e] at q
      exact q _ d H (.str _) S (Or.inl rfl) fun b o e _ => e
    | some y =>
      rw [decide_eq_false (show ¬ ov (some y) = V.non from fun e => nomatch e)]
      refine iteF ?_
      refine ⟨p, d, t, rfl, S, hi, hl, fun l H1 hl0 hl1 s1 => ?_⟩
      refine ⟨_, l, noted t, rfl, SqL.of hl1, len_noted hl, fun H2 s2 => ?_⟩
      have S2 := S.same (s1.trans s2)
      obtain ⟨⟨dx2, h2⟩, hd2⟩ := id S2
      dsimp only
      cases eh : heldO c (noted t) with
      | some u =>
        rw [decide_eq_false (show ¬ ov (some u) = V.non from fun e => nomatch e)]
        refine iteT ?_
        have e : att t c = (.waits u, t) := by unfold att; rw [ew]; simp only [eh]
        rw [e] at q
        refine fun a ha => ?_
        have s3 : Same H2 (upd H2 a (.tup [.str "waits", ov (some u)])) := fun b o e => by rw [upd_ne (ne_of_none e ha)]; exact e
        exact q _ d _ (.tup upd_same (.cons (.str _) (.cons (.int u) .nil))) (S2.same s3) (Or.inl rfl) fun b o e _ => s3 _ _ (s2 _ _ (s1 _ _ e))
      | none =>
        refine iteNS rfl ?_
        have e : att t c = (.changed (t.version + 1), done t y) := by unfold att; rw [ew]; simp only [eh]
        rw [e] at q
        refine ⟨dx2, _, h2, fl_take_change, p, d, t, y, rfl, S2, ew, fun d' H3 hd3 S3 kp => ?_⟩
        obtain ⟨⟨dx3, h3⟩, hd3'⟩ := id S3
        walk_at "wp h3 T.cl T.n3"
        refine fun a ha => ?_
        have s4 : Same H3 (upd H3 a (.tup [.str "changed", .int (done t y).version])) := fun b o e => by rw [upd_ne (ne_of_none e ha)]; exact e
        refine q _ d' _ (.tup upd_same (.cons (.str _) (.cons (.int _) .nil))) (S3.same s4) (Or.inr ((s1.trans s2).free hd3)) fun b o e hb => s4 _ _ (kp _ _ (s2 _ _ (s1 _ _ e)) hb)
def runA : T → List Int → List Ans × T
  | t, [] => ([], t)
  | t, c :: cs => let r := runA (att t c).2 cs; ((att t c).1 :: r.1, r.2)
theorem runA_snoc : ∀ (cs : List Int) (t : T) (c : Int), runA t (cs ++ [c]) = ((runA t cs).1 ++ [(att (runA t cs).2 c).1], (att (runA t cs).2 c).2)
  | [], t, c => rfl
  | a :: cs, t, c => by
    show ((att t a).1 :: (runA (att t a).2 (cs ++ [c])).1, (runA (att t a).2 (cs ++ [c])).2) = _
    rw [runA_snoc cs]
    rfl
theorem runA_len : ∀ (cs : List Int) (t : T), (runA t cs).1.length = cs.length
  | [], _ => rfl
  | c :: cs, t => by
    show (runA (att t c).2 cs).1.length + 1 = cs.length + 1
    rw [runA_len cs]
theorem ans_noL : ∀ as : List Ans, noLs (as.map ansD) = true
  | [] => rfl
  | a :: as => by
    show (noL (ansD a) && noLs (as.map ansD)) = true
    rw [ans_noL as]
    cases a <;> rfl
/-- the notes stay ints and few -/
def Ok (t : T) : Prop := Ints t.notes ∧ t.notes.length ≤ 900
theorem att_ok {t : T} {c : Int} (h : Ok t) : Ok (att t c).2 := by
  unfold att
  cases t.waiting with
  | none => exact h
  | some v =>
    cases heldO c (noted t) with
    | some u => exact h
    | none => exact ⟨fun kv z => (nomatch z), Nat.zero_le _⟩
theorem runA_ok : ∀ (cs : List Int) {t : T}, Ok t → Ok (runA t cs).2
  | [], _, h => h
  | c :: cs, t, h => runA_ok cs (t := (att t c).2) (att_ok h)
def sp_attempts (K : PySem.W.Frag) (C : Addr) : Sp := fun vs H Q _ => ∃ (p d a : Addr) (t : T) (cs : List Int), vs = [.ref p, .ref a] ∧ ThAt C H p d t ∧ Ok t ∧ SqL K H a (cs.map V.int) ∧ a ≠ p ∧ cs.length ≤ 900 ∧
  ∀ l d' H', Dh H' (.ref l) (.list ((runA t cs).1.map ansD)) → ThAt C H' p d' (runA t cs).2 → (d' = d ∨ H d' = none) → (∀ b o, H b = some o → b ≠ p → H' b = some o) → Q (.ref l) H'
theorem sc_attempts : FnScope ["thing", "clocks"] ["thing", "clocks"] (defScope (top 6)) := ⟨rfl, rfl, rfl, by decide +kernel, rfl, by decide +kernel, by decide +kernel⟩
theorem sqL_keep {H H' : Hp} {p a : Addr} {xs : List V} (h : SqL K H a xs) (ha : a ≠ p) (kp : ∀ b o, H b = some o → b ≠ p → H' b = some o) : SqL K H' a xs := by
  rcases h with (h | ⟨o, h⟩) | h
  · exact .inl (.inl (kp _ _ h ha))
  · exact .inl (.inr ⟨o, kp _ _ h ha⟩)
  · exact .inr h
theorem sameD_keep {C : Addr} {H H' : Hp} {p dx : Addr} {fs : List (Str × V)} (hp : H p = some (.ins C dx fs)) (kp : ∀ b o, H b = some o → b ≠ p → H' b = some o) : SameD H H' := fun b =>
  ⟨fun xs e => kp b _ e (ne_of e hp (by intro z; cases z)), fun xs e => kp b _ e (ne_of e hp (by intro z; cases z))⟩
theorem ok_attempts {f : Addr} {fd : FuncData} (T : Txt K C) (d_Thing_attempt : MDef P w K mg base C "attempt" 2 ["self", "clock"] (sp_attempt C))
    (F : Fun K "attempts" "attempts" (top 6) f fd) : FnOk P w K mg base CX0 3 f fd ["thing", "clocks"] (sp_attempts K C) := by
  refine F.ok sc_attempts (fun vs H Q E h => ?_) (fun cdv A outer s H vs Q E hr h => ?_)
  · obtain ⟨p, d, a, t, cs, rfl, _⟩ := h
    rfl
  · obtain ⟨p, d, a, t, cs, rfl, S, ok, hS, nap, hl, q⟩ := h
    refine ⟨_, (pss_one (ps_ret (pe_lc (own := ["clock"]) rfl (LcScope.of (by kernel_rfl)) (pi_list (pv 1)) (fun cl C s H fp => ⟨(pg_name (i := 2) (show List.Nodup (α := Str) ["thing", "clocks", "clock"] by decide +kernel) rfl (Or.inl rfl)), pts_nil, (pe_mdef (pv 0) d_Thing_attempt (hr.mono (by omega)) (pa_cons (pv 2) pa_nil))⟩)))), ?_⟩
    refine ⟨_, rfl, a, rfl, ⟨_, hS⟩, fun D hD => ?_⟩
    obtain ⟨⟨dx, h1⟩, hd⟩ := id S
    have npD : p ≠ D := ne_of_none h1 hD
    refine lc_gen (xs := cs.map V.int) (fun i H' => ∃ d' ys, H' D = some (.lst ys) ∧ Dhs H' ys ((runA t (cs.take i)).1.map ansD) ∧ ThAt C H' p d' (runA t (cs.take i)).2 ∧ (d' = d ∨ H d' = none) ∧ (∀ b o, H b = some o → b ≠ p → H' b = some o)) ?_ ?_ ?_ ?_
    · refine ⟨d, [], upd_same, .nil, S.same fun b o e => ?_, Or.inl rfl, fun b o e _ => ?_⟩
      · rw [upd_ne (ne_of_none e hD)]; exact e
      · rw [upd_ne (ne_of_none e hD)]; exact e
    · rintro i H' _ ⟨d', ys, _, _, _, _, kp⟩
      exact Yields.list (sqL_keep hS nap kp)
    · rintro i x H' hx ⟨d', ys, hD', hys, S', hd', kp⟩
      rw [List.getElem?_map] at hx
      cases ec : cs[i]? with
      | none => rw [ec] at hx; cases hx
      | some c =>
        rw [ec] at hx
        obtain rfl := Option.some.inj hx
        have et : cs.take (i + 1) = cs.take i ++ [c] := by rw [List.take_add_one, ec]; rfl
        rw [et, runA_snoc]
        have okt := runA_ok (cs.take i) ok
        have hr1 : (runA t (cs.take i)).1.length ≤ 900 := by
          rw [runA_len, List.length_take]
          omega
        generalize runA t (cs.take i) = r at *
        obtain ⟨⟨dx', h1'⟩, hd2⟩ := id S'
        refine ⟨fun j v h => keep_own (σ := [some (.ref p), some (.ref a)]) h, ?_⟩
        walk_at "wp"
        refine ⟨dx', _, h1', fl_attempt, p, d', r.2, c, rfl, S', okt.1, okt.2, fun v d2 H4 hv S4 hd4 kp4 => ?_⟩
        have nDp : D ≠ p := npD.symm
        have hD4 := kp4 D _ hD' nDp
        have tT : ∀ b xs, H4 b = some (.tup xs) → (upd H4 D (.lst (ys ++ [v]))) b = some (.tup xs) := fun b xs e => by
          rw [upd_ne (ne_of e hD4 (by intro z; cases z))]; exact e
        have hy4 : Dhs H4 ys (r.1.map ansD) := hys.sameT (fun b xs e => kp4 b _ e (ne_of e h1' (by intro z; cases z))) (ans_noL _)
        refine ⟨ys, hD4, ?_, ?_, d2, ?_, ?_, fun b o e hb => ?_⟩
        · have e1 := hys.length
          have e2 : (r.1.map ansD).length ≤ 900 := by
            rw [List.length_map]
            exact hr1
          exact small1000 (by omega)
        · rw [List.map_append]
          exact (hy4.snoc hv).sameT tT (by rw [noLs_append, ans_noL]; exact ans_noL [_])
        · obtain ⟨⟨dx4, h4⟩, hd5⟩ := S4
          have n1 : d2 ≠ D := ne_of hd5 hD4 (by intro z; cases z)
          exact ⟨⟨dx4, by rw [upd_ne npD]; exact h4⟩, by rw [upd_ne n1]; exact hd5⟩
        · rcases hd4 with z | z
          · rw [z]; exact hd'
          · refine Or.inr ?_
            cases e : H d2 with
            | none => rfl
            | some o =>
              by_cases hb : d2 = p
              · subst hb; rw [h1'] at z; cases z
              · rw [kp d2 o e hb] at z; cases z
        · have hbD : b ≠ D := ne_of_none e hD
          rw [upd_ne hbD]
          exact kp4 b o (kp b o e hb) hb
    · rintro H' ⟨d', ys, hD', hys, S', hd', kp⟩
      rw [List.length_map, List.take_length] at hys S'
      exact q D d' H' (.lst hD' hys) S' hd' kp
def sp_whole : Sp := fun vs H Q _ => ∃ v tn, vs = [v] ∧ tyN H v = some tn ∧ Q (.bl (subT tn "int" && !subT tn "bool")) H
theorem sc__law_whole : FnScope ["_law_found"] ["_law_found"] (defScope (top 9)) := ⟨rfl, rfl, rfl, by decide +kernel, rfl, by decide +kernel, by decide +kernel⟩
theorem ok_law_whole {f : Addr} {fd : FuncData} (mg_isinstance : mg "isinstance" = none) (mg_int : mg "int" = none) (mg_bool : mg "bool" = none) (F : Fun K "_law_whole" "_law_whole" (top 9) f fd) : FnOk P w K mg base CX0 1 f fd ["_law_found"] sp_whole := by
  refine F.ok sc__law_whole (fun vs H Q E h => ?_) (fun cdv A outer s H vs Q E hr h => ?_)
  · obtain ⟨v, tn, rfl, _⟩ := h
    rfl
  · obtain ⟨v, tn, rfl, ht, q⟩ := h
    refine ⟨_, (pss_one (ps_ret (pe_and (pe_callB call_isi rfl mg_isinstance (by decide +kernel) (pa_cons (pv 0) (pa_cons (pe_bltn (v := .ty "int") rfl mg_int (by decide +kernel) rfl) pa_nil))) (pe_one (pe_not (pe_callB call_isi rfl mg_isinstance (by decide +kernel) (pa_cons (pv 0) (pa_cons (pe_bltn (v := .ty "bool") rfl mg_bool (by decide +kernel) rfl) pa_nil)))))))), ?_⟩
    walk_at "wp"
    refine ⟨tn, ht, ?_⟩
    cases e : subT tn "int" with
    | true =>
      rw [e, Bool.true_and] at q
      exact iteT ⟨tn, ht, q⟩
    | false =>
      rw [e, Bool.false_and] at q
      exact iteF q

def sp_at (K : PySem.W.Frag) : Sp := fun vs H Q _ => ∃ (a : Addr) (ns : List Int) (k : Nat), vs = [.ref a, .int (k : Int)] ∧ SqL K H a (ns.map V.int) ∧ Q (.int (ns.getD k 0)) H
theorem sc__law_at : FnScope ["_law_script", "_law_k"] ["_law_script", "_law_k"] (defScope (top 10)) := ⟨rfl, rfl, rfl, by decide +kernel, rfl, by decide +kernel, by decide +kernel⟩
theorem ok_at {f : Addr} {fd : FuncData} (mg_len : mg "len" = none) (F : Fun K "_law_at" "_law_at" (top 10) f fd) : FnOk P w K mg base CX0 1 f fd ["_law_script", "_law_k"] (sp_at K) := by
  refine F.ok sc__law_at (fun vs H Q E h => ?_) (fun cdv A outer s H vs Q E hr h => ?_)
  · obtain ⟨a, ns, k, rfl, _⟩ := h
    rfl
  · obtain ⟨a, ns, k, rfl, hS, q⟩ := h
    refine ⟨_, (pss_cons (ps_if (pt_cmpR op_lt (pv 1) (pe_callB call_len_seq rfl mg_len (by decide +kernel) (pa_cons (pv 0) pa_nil)) (nomark _)) (pss_one (ps_ret (pe_ix ix_list (pv 0) (pv 1) (fun _ _ => rfl)))) pss_nil)  (pss_one (ps_ret pe_int))), ?_⟩
    walk_at "wp"
    refine ⟨_, Or.inl hS, ?_⟩
    rw [List.length_map]
    by_cases hk : k < ns.length
    · rw [decide_eq_true (show (k : Int) < (ns.length : Int) by omega)]
      refine iteT (rIxL_of hS (atI_nat (by rw [List.getElem?_map, List.getElem?_eq_getElem hk]; rfl)) ?_)
      rw [List.getD_eq_getElem?_getD, List.getElem?_eq_getElem hk] at q
      exact q
    · rw [decide_eq_false (show ¬ (k : Int) < (ns.length : Int) by omega)]
      refine iteF ?_
      rw [List.getD_eq_getElem?_getD, List.getElem?_eq_none (by omega)] at q
      exact q
/-- equal data are told so; n: how deep -/
def sp_so (K : PySem.W.Frag) (n : Nat) : Sp := fun vs H Q _ => ∃ x y d, vs = [x, y] ∧ Dh H x d ∧ Dh H y d ∧ d.depth ≤ n ∧ lenOk d ∧ ∀ H', Same H H' → Q (.bl true) H'
def sp_so' (K : PySem.W.Frag) : Nat → Sp
  | 0 => fun _ _ _ _ => False
  | n + 1 => sp_so K n
theorem sc__law_so : FnScope ["_law_found", "_law_meant", "_law_k"] ["_law_found", "_law_meant"] (defScope (top 8)) := ⟨rfl, rfl, rfl, by decide +kernel, rfl, by decide +kernel, by decide +kernel⟩
theorem ok_so {n : Nat} {f : Addr} {fd : FuncData} (mg_isinstance : mg "isinstance" = none) (mg_int : mg "int" = none) (mg_bool : mg "bool" = none) (mg_str : mg "str" = none) (mg_dict : mg "dict" = none) (mg_tuple : mg "tuple" = none) (mg_list : mg "list" = none) (mg_len : mg "len" = none) (mg_range : mg "range" = none)
    (d__law_so : Def P w K mg base "_law_so" n ["_law_found", "_law_meant"] (sp_so' K n)) (F : Fun K "_law_so" "_law_so" (top 8) f fd) : FnOk P w K mg base CX0 (n + 1) f fd ["_law_found", "_law_meant"] (sp_so K n) := by
  refine F.ok sc__law_so (fun vs H Q E h => ?_) (fun cdv A outer s H vs Q E hr h => ?_)
  · obtain ⟨x, y, d, rfl, _⟩ := h
    rfl
  · obtain ⟨x, y, d, rfl, hx, hy, hn, hk, q⟩ := h
    refine ⟨_, (pss_cons (ps_if (pt_cmp (pc_isN (pv 1))) (pss_one (ps_ret (pe_cmp (pc_isN (pv 0))))) pss_nil)  (pss_cons (ps_if (pt_val (pe_callB call_isi rfl mg_isinstance (by decide +kernel) (pa_cons (pv 1) (pa_cons (pe_bltn (v := .ty "bool") rfl mg_bool (by decide +kernel) rfl) pa_nil)))) (pss_one (ps_ret (pe_and (pe_callB call_isi rfl mg_isinstance (by decide +kernel) (pa_cons (pv 0) (pa_cons (pe_bltn (v := .ty "bool") rfl mg_bool (by decide +kernel) rfl) pa_nil))) (pe_one (pe_cmpR op_eq (pv 0) (pv 1) (nomark _)))))) pss_nil)  (pss_cons (ps_if (pt_val (pe_callB call_isi rfl mg_isinstance (by decide +kernel) (pa_cons (pv 1) (pa_cons (pe_bltn (v := .ty "int") rfl mg_int (by decide +kernel) rfl) pa_nil)))) (pss_one (ps_ret (pe_and (pe_callB call_isi rfl mg_isinstance (by decide +kernel) (pa_cons (pv 0) (pa_cons (pe_bltn (v := .ty "int") rfl mg_int (by decide +kernel) rfl) pa_nil))) (pe_and (pe_not (pe_callB call_isi rfl mg_isinstance (by decide +kernel) (pa_cons (pv 0) (pa_cons (pe_bltn (v := .ty "bool") rfl mg_bool (by decide +kernel) rfl) pa_nil)))) (pe_one (pe_cmpR op_eq (pv 0) (pv 1) (nomark _))))))) pss_nil)  (pss_cons (ps_if (pt_val (pe_callB call_isi rfl mg_isinstance (by decide +kernel) (pa_cons (pv 1) (pa_cons (pe_bltn (v := .ty "str") rfl mg_str (by decide +kernel) rfl) pa_nil)))) (pss_one (ps_ret (pe_and (pe_callB call_isi rfl mg_isinstance (by decide +kernel) (pa_cons (pv 0) (pa_cons (pe_bltn (v := .ty "str") rfl mg_str (by decide +kernel) rfl) pa_nil))) (pe_one (pe_cmpR op_eq (pv 0) (pv 1) (nomark _)))))) pss_nil)  (pss_cons (ps_if (pt_val (pe_callB call_isi rfl mg_isinstance (by decide +kernel) (pa_cons (pv 1) (pa_cons (pe_bltn (v := .ty "dict") rfl mg_dict (by decide +kernel) rfl) pa_nil)))) (pss_one ps_never) pss_nil)  (pss_cons (ps_if (pt_cmpR op_ne (pe_callB call_isi rfl mg_isinstance (by decide +kernel) (pa_cons (pv 1) (pa_cons (pe_bltn (v := .ty "tuple") rfl mg_tuple (by decide +kernel) rfl) pa_nil))) (pe_callB call_isi rfl mg_isinstance (by decide +kernel) (pa_cons (pv 0) (pa_cons (pe_bltn (v := .ty "tuple") rfl mg_tuple (by decide +kernel) rfl) pa_nil))) (nomark _)) (pss_one (ps_ret pe_bl)) pss_nil)  (pss_cons (ps_if (PW.pt (pw_or (pt_cmpR op_ne (pe_callB call_isi rfl mg_isinstance (by decide +kernel) (pa_cons (pv 1) (pa_cons (pe_bltn (v := .ty "list") rfl mg_list (by decide +kernel) rfl) pa_nil))) (pe_callB call_isi rfl mg_isinstance (by decide +kernel) (pa_cons (pv 0) (pa_cons (pe_bltn (v := .ty "list") rfl mg_list (by decide +kernel) rfl) pa_nil))) (nomark _)) (pw_or1 (pt_not (pt_val (pe_callB call_isi2 rfl mg_isinstance (by decide +kernel) (pa_cons (pv 1) (pa_cons (pe_tup (pa_cons (pe_bltn (v := .ty "list") rfl mg_list (by decide +kernel) rfl) (pa_cons (pe_bltn (v := .ty "tuple") rfl mg_tuple (by decide +kernel) rfl) pa_nil))) pa_nil)))))))) (pss_one (ps_ret pe_bl)) pss_nil)  (pss_cons (ps_if (pt_cmpR op_ne (pe_callB call_len_seq rfl mg_len (by decide +kernel) (pa_cons (pv 0) pa_nil)) (pe_callB call_len_seq rfl mg_len (by decide +kernel) (pa_cons (pv 1) pa_nil)) (nomark _)) (pss_one (ps_ret pe_bl)) pss_nil)  (pss_cons (ps_forG PassesOwn.never rfl (pi_range1 rfl mg_range (pa_cons (pe_callB call_len_seq rfl mg_len (by decide +kernel) (pa_cons (pv 1) pa_nil)) pa_nil)) (pg_name (i := 2) sc__law_so.nd rfl (Or.inl rfl))  (pss_one (ps_if (pt_not (pt_val (pe_def d__law_so (hr.mono (by omega)) rfl (pa_cons (pe_ix ix_seq (pv 0) (pv 2) (fun _ _ => rfl)) (pa_cons (pe_ix ix_seq (pv 1) (pv 2) (fun _ _ => rfl)) pa_nil))))) (pss_one (ps_ret pe_bl)) pss_nil)))  (pss_one (ps_ret pe_bl))))))))))), ?_⟩
    cases hx with
    | non =>
      cases hy
      walk_at "wp tNever"
      exact q H (Same.refl H)
    | bl b =>
      cases hy
      walk_at "wp tNever"
      exact q H (Same.refl H)
    | int i =>
      cases hy
      walk_at "wp tNever"
      exact q H (Same.refl H)
    | str z =>
      cases hy
      walk_at "wp tNever"
      exact q H (Same.refl H)
    | @lst a xs ds ha hxs =>
      cases hy with
      | @lst b ys _ hb hys =>
      have ta := tyN_lst ha
      have tb := tyN_lst hb
      walk_at "wp tNever ta tb"
      intro p hp
      have na : a ≠ p := ne_of_none ha hp
      have nb : b ≠ p := ne_of_none hb hp
      have s1 : Same H (upd H p (HO.tup [V.ty "list", V.ty "tuple"])) := (Same.refl H).new hp
      generalize upd H p (HO.tup [V.ty "list", V.ty "tuple"]) = H1 at s1 ⊢
      have ha1 := s1 _ _ ha
      have hb1 := s1 _ _ hb
      have tb1 := tyN_lst hb1
      walk_at "wp tNever tb1"
      have el : xs.length = ys.length := by rw [hxs.length, hys.length]
      have hkl : ds.length ≤ 100000 ∧ lensOk ds := by simpa [lenOk] using hk
      have eld := hys.length
      refine ⟨xs, Or.inl (SqL.of ha1), ys, Or.inl (SqL.of hb1), iteNS (by rw [el]) ⟨ys, Or.inl (SqL.of hb1), by omega, by omega, ?_⟩⟩
      rw [Int.toNat_natCast]
      refine for_gen (xs := rngV 0 ys.length) (fun i σ H' => ∃ x2, σ = [some (.ref a), some (.ref b), x2] ∧ Same H1 H') ⟨_, rfl, Same.refl _⟩ (fun _ _ _ _ _ => Yields.range) ?_ ?_
      · rintro i v σ H' hv ⟨x2, rfl, s2⟩
        obtain ⟨hi, rfl⟩ := rngV_at hv
        walk_at "wp"
        have ez : (0 : Int) + (i : Int) = (i : Int) := by omega
        rw [ez]
        have e1 : xs[i]? = some xs[i] := by rw [List.getElem?_eq_getElem (by omega)]
        have e2 : ys[i]? = some ys[i] := by rw [List.getElem?_eq_getElem hi]
        obtain ⟨d1, g1, g2⟩ := hxs.get e1
        obtain ⟨d2, g3, g4⟩ := hys.get e2
        have ed : d1 = d2 := Option.some.inj (g1.symm.trans g3)
        subst ed
        have hm : d1 ∈ ds := List.mem_of_getElem? g1
        refine Or.inl (rIxL_of (SqL.of (s2 _ _ ha1)) (atI_nat e1) ?_)
        refine Or.inl (rIxL_of (SqL.of (s2 _ _ hb1)) (atI_nat e2) ?_)
        have hdep : PyData.depthAll ds + 1 ≤ n := hn
        cases n with
        | zero => omega
        | succ m =>
          have h3 := depth_mem hm
          refine ⟨_, _, d1, rfl, g2.same ((s1.trans s2).d), g4.same ((s1.trans s2).d), by omega, lens_mem hkl.2 hm, fun H3 s3 => ?_⟩
          walk_at "wp"
          exact s2.trans s3
      · rintro σ H' ⟨x2, rfl, s2⟩
        exact q H' (s1.trans s2)
    | @tup a xs ds ha hxs =>
      cases hy with
      | @tup b ys _ hb hys =>
      have ta := tyN_tup ha
      have tb := tyN_tup hb
      walk_at "wp tNever ta tb"
      intro p hp
      have na : a ≠ p := ne_of_none ha hp
      have nb : b ≠ p := ne_of_none hb hp
      have s1 : Same H (upd H p (HO.tup [V.ty "list", V.ty "tuple"])) := (Same.refl H).new hp
      generalize upd H p (HO.tup [V.ty "list", V.ty "tuple"]) = H1 at s1 ⊢
      have ha1 := s1 _ _ ha
      have hb1 := s1 _ _ hb
      have tb1 := tyN_tup hb1
      walk_at "wp tNever tb1"
      have el : xs.length = ys.length := by rw [hxs.length, hys.length]
      have hkl : ds.length ≤ 100000 ∧ lensOk ds := by simpa [lenOk] using hk
      have eld := hys.length
      refine ⟨xs, Or.inr (SqT.of ha1), ys, Or.inr (SqT.of hb1), iteNS (by rw [el]) ⟨ys, Or.inr (SqT.of hb1), by omega, by omega, ?_⟩⟩
      rw [Int.toNat_natCast]
      refine for_gen (xs := rngV 0 ys.length) (fun i σ H' => ∃ x2, σ = [some (.ref a), some (.ref b), x2] ∧ Same H1 H') ⟨_, rfl, Same.refl _⟩ (fun _ _ _ _ _ => Yields.range) ?_ ?_
      · rintro i v σ H' hv ⟨x2, rfl, s2⟩
        obtain ⟨hi, rfl⟩ := rngV_at hv
        walk_at "wp"
        have ez : (0 : Int) + (i : Int) = (i : Int) := by omega
        rw [ez]
        have e1 : xs[i]? = some xs[i] := by rw [List.getElem?_eq_getElem (by omega)]
        have e2 : ys[i]? = some ys[i] := by rw [List.getElem?_eq_getElem hi]
        obtain ⟨d1, g1, g2⟩ := hxs.get e1
        obtain ⟨d2, g3, g4⟩ := hys.get e2
        have ed : d1 = d2 := Option.some.inj (g1.symm.trans g3)
        subst ed
        have hm : d1 ∈ ds := List.mem_of_getElem? g1
        refine Or.inr (Or.inl (rIxT_of (SqT.of (s2 _ _ ha1)) (atI_nat e1) ?_))
        refine Or.inr (Or.inl (rIxT_of (SqT.of (s2 _ _ hb1)) (atI_nat e2) ?_))
        have hdep : PyData.depthAll ds + 1 ≤ n := hn
        cases n with
        | zero => omega
        | succ m =>
          have h3 := depth_mem hm
          refine ⟨_, _, d1, rfl, g2.same ((s1.trans s2).d), g4.same ((s1.trans s2).d), by omega, lens_mem hkl.2 hm, fun H3 s3 => ?_⟩
          walk_at "wp"
          exact s2.trans s3
      · rintro σ H' ⟨x2, rfl, s2⟩
        exact q H' (s1.trans s2)
end
end Fb

end

section
set_option maxHeartbeats 4000000
namespace Fb
open PySem L2
local macro_rules | `(tactic| walk_at $x:str) => do
  let ws := x.getString.splitOn " "
  if ws.head! != "wp" then Lean.Macro.throwUnsupported
  let mut hs : Array (Lean.TSyntax `Lean.Parser.Tactic.simpLemma) := #[]
  for z in ws.tail! do
    let ps := z.splitOn ":"
    let mut t : Lean.TSyntax `term := Lean.mkIdent ps.head!.toName
    for p in ps.tail! do
      let a : Lean.TSyntax `term := Lean.mkIdent p.toName
      t ← `($t $a)
    hs := hs.push (← `(Lean.Parser.Tactic.simpLemma| $t:term))
  `(tactic| simp only [cxOf_K, cxOf_A, cxComp_K, cxComp_A, tSeq, tNext, tForG, iRng1, iList, tLst, tAsg, gName, tRet, tRetN, tOp, tVar, tC, rI0, rI, rU, tUn, tChain, tTest, tB, tIfS, tAnd, tOr, tNot, tAndV, tOrV, tNotV, tIsN, tNotN, tCB, tCons, tNil, tCall, rEq, rNe, L2.start, List.map_cons, List.map_nil, List.cons_append, List.nil_append, List.append_nil, List.length_cons, List.length_nil, List.replicate, List.getElem?_cons_zero, List.getElem?_cons_succ, List.set_cons_zero, List.set_cons_succ, Option.some.injEq, V.int.injEq, V.bl.injEq, V.ref.injEq, V.str.injEq, V.ty.injEq, List.cons.injEq, exists_eq_left', exists_and_left, exists_eq_left, and_true, true_and, exists_eq_right, exists_eq_right', Nat.zero_add, Nat.reduceAdd, Nat.reduceSub, and_assoc, ↓reduceIte, Bool.not_true, Bool.not_false, Bool.false_eq_true, Bool.true_and, Bool.false_and, cmul_2, cmul_4, cmul_h, known_bool, known_int, known_str, known_list, known_tuple, known_dict, sT_NoneType_bool, sT_NoneType_int, sT_NoneType_str, sT_NoneType_list, sT_NoneType_tuple, sT_NoneType_dict, sT_bool_bool, sT_bool_int, sT_bool_str, sT_bool_list, sT_bool_tuple, sT_bool_dict, sT_int_bool, sT_int_int, sT_int_str, sT_int_list, sT_int_tuple, sT_int_dict, sT_str_bool, sT_str_int, sT_str_str, sT_str_list, sT_str_tuple, sT_str_dict, sT_list_bool, sT_list_int, sT_list_str, sT_list_list, sT_list_tuple, sT_list_dict, sT_tuple_bool, sT_tuple_int, sT_tuple_str, sT_tuple_list, sT_tuple_tuple, sT_tuple_dict, sT_dict_bool, sT_dict_int, sT_dict_str, sT_dict_list, sT_dict_tuple, sT_dict_dict, tyN_non, tyN_bl, tyN_int, tyN_str, Int.reduceLT, small_of, Nat.reduceLeDiff, scal, not_true_eq_false, not_false_eq_true, reduceCtorEq, decide_true, decide_false, Bool.or_true, Bool.true_or, Bool.or_false, Bool.false_or, Bool.and_true, Bool.and_false, HO.tup.injEq, HO.lst.injEq, tYes, false_and, false_or, or_false, and_false, exists_false, sFld, tFld, tDNewK, tMeth, tDrop, sDPut, tDPop2, tDVals, tTup, tBM, tBM0, tSl, tPart, tNoPart, upd_same, upd_upd, HO.ins.injEq, fl_keeper, fl_value, fl_version, fl_notes, fl_quiet, fl_waiting, fl_lend, fl_take_back, fl_come_up, fl_put_up, fl_attempt, fl_noted_untils, fl_take_change, put_value, put_version, put_notes, put_quiet, put_waiting, fl_len, $hs,*])

-- WPMORE sFld, tFld, tDNewK, tMeth, tDrop, sDPut, tDPop2, tDVals, tTup, tBM, tBM0, tSl, tPart, tNoPart, upd_same, upd_upd, HO.ins.injEq, fl_keeper, fl_value, fl_version, fl_notes, fl_quiet, fl_waiting, fl_lend, fl_take_back, fl_come_up, fl_put_up, fl_attempt, fl_noted_untils, fl_take_change, put_value, put_version, put_notes, put_quiet, put_waiting, fl_len
section
variable {P : Program} {w : World} {K : PySem.W.Frag} {mg : Str → Option Value} {base : Heap} {C : Addr}
/-- the k-th until that the law lends -/
def untilK (cell : Int) (k : Nat) : Int := ([0, -1, 7, 1000000000000].getD ((cell + (k : Int)) * 48271 % 1019 % 4).toNat 0) + (k : Int)
def untilsL (cell : Int) (n : Nat) : List Int := (List.range n).map (untilK cell)
def notesL (cell : Int) (n : Nat) : List (Key × V) := (List.range n).map fun (k : Nat) => (Sum.inl (k : Int), V.int (untilK cell k))
theorem untilsL_succ (cell : Int) (n : Nat) : untilsL cell (n + 1) = untilsL cell n ++ [untilK cell n] := by
  unfold untilsL
  rw [List.range_succ, List.map_append]
  rfl
theorem notesL_succ (cell : Int) (n : Nat) : notesL cell (n + 1) = notesL cell n ++ [(Sum.inl (n : Int), V.int (untilK cell n))] := by
  unfold notesL
  rw [List.range_succ, List.map_append]
  rfl
theorem vals_append (l m : List (Key × V)) : valsOf (l ++ m) = valsOf l ++ valsOf m := List.filterMap_append
theorem vals_notesL (cell : Int) : ∀ n, valsOf (notesL cell n) = untilsL cell n
  | 0 => rfl
  | n + 1 => by rw [notesL_succ, untilsL_succ, vals_append, vals_notesL cell n]; rfl
theorem ints_notesL (cell : Int) (n : Nat) : Ints (notesL cell n) := fun kv h => by
  obtain ⟨k, _, rfl⟩ := List.mem_map.mp h
  exact ⟨_, rfl⟩
theorem notesL_new (cell : Int) (n : Nat) : valV (notesL cell n) (Sum.inl (n : Int) : Key) = none := by
  cases e : valV (notesL cell n) (Sum.inl (n : Int) : Key) with
  | none => rfl
  | some v =>
    have h := valV_in e
    obtain ⟨kv, h1, h2⟩ := List.mem_map.mp h
    obtain ⟨k, h3, rfl⟩ := List.mem_map.mp h1
    have h4 : k < n := List.mem_range.mp h3
    have h5 : (k : Int) = (n : Int) := Sum.inl.inj h2
    omega
theorem notesL_put (cell : Int) (n : Nat) : putK (notesL cell n) (Sum.inl (n : Int) : Key) (V.int (untilK cell n)) = notesL cell (n + 1) := by
  rw [putK_new _ (notesL_new cell n), notesL_succ]
theorem notesL_len (cell : Int) (n : Nat) : (notesL cell n).length = n := by simp [notesL]
theorem untilsL_len (cell : Int) (n : Nat) : (untilsL cell n).length = n := by simp [untilsL]
/-- all but the first -/
theorem notesL_drop (cell : Int) (n : Nat) : valsOf (dropK (notesL cell (n + 1)) (Sum.inl 0 : Key)) = (untilsL cell (n + 1)).drop 1 ∧ Ints (dropK (notesL cell (n + 1)) (Sum.inl 0 : Key)) ∧ (dropK (notesL cell (n + 1)) (Sum.inl 0 : Key)).length ≤ n + 1 := by
  have e : dropK (notesL cell (n + 1)) (Sum.inl 0 : Key) = (List.range n).map fun (k : Nat) => ((Sum.inl ((k + 1 : Nat) : Int) : Key), V.int (untilK cell (k + 1))) := by
    unfold notesL dropK
    rw [List.range_succ_eq_map, List.map_cons, List.filter_cons_of_neg (by simp), List.map_map, List.filter_eq_self.mpr]
    · rfl
    · intro kv h
      obtain ⟨k, _, rfl⟩ := List.mem_map.mp h
      simp only [decide_eq_true_eq]
      intro z
      have z' : (((k + 1 : Nat) : Int)) = 0 := Sum.inl.inj z
      omega
  rw [e]
  refine ⟨?_, fun kv h => ?_, by simp⟩
  · unfold untilsL valsOf
    rw [List.range_succ_eq_map, List.map_cons, List.drop_succ_cons, List.drop_zero, List.map_map, List.filterMap_map]
    have : ∀ l : List Nat, List.filterMap ((fun kv : Key × V => match kv.2 with | .int i => some i | _ => none) ∘ fun (k : Nat) => ((Sum.inl ((k + 1 : Nat) : Int) : Key), V.int (untilK cell (k + 1)))) l = List.map (untilK cell ∘ Nat.succ) l := fun l => by
      induction l with
      | nil => rfl
      | cons k r ih =>
        rw [List.filterMap_cons, List.map_cons, ih]
        rfl
    exact this _
  · obtain ⟨k, _, rfl⟩ := List.mem_map.mp h
    exact ⟨_, rfl⟩
theorem untilK_lt (cell : Int) (k : Nat) : untilK cell k ≤ 1000000000000 + (k : Int) := by
  unfold untilK
  have : ∀ j : Nat, ([0, -1, 7, 1000000000000] : List Int).getD j 0 ≤ 1000000000000 := fun j => match j with
    | 0 => by decide
    | 1 => by decide
    | 2 => by decide
    | 3 => by decide
    | _ + 4 => by show (0 : Int) ≤ _; decide
  have := this ((cell + (k : Int)) * 48271 % 1019 % 4).toNat
  omega
theorem untilsL_lt (cell : Int) {n : Nat} (hn : n ≤ 3) : ∀ u ∈ untilsL cell n, u < 10 ^ 40 := fun u hu => by
  obtain ⟨k, hk, rfl⟩ := List.mem_map.mp hu
  have h1 := untilK_lt cell k
  have h2 : k < n := List.mem_range.mp hk
  have h3 : (1000000000000 : Int) + 3 < 10 ^ 40 := by decide
  omega
theorem ThAt.fr {H H' : Hp} {p d p2 d2 : Addr} {t2 : T} (S : ThAt C H p2 d2 t2) (f : Fr2 p d H H') (h1 : p2 ≠ p) (h2 : p2 ≠ d) (h3 : d2 ≠ p) (h4 : d2 ≠ d) : ThAt C H' p2 d2 t2 := by
  obtain ⟨⟨dx, e1⟩, e2⟩ := S
  exact ⟨⟨dx, f _ _ e1 h1 h2⟩, f _ _ e2 h3 h4⟩
theorem ThAt.apart {H : Hp} {p d p2 d2 : Addr} {t t2 : T} (S : ThAt C H p d t) (S2 : ThAt C H p2 d2 t2) : p2 ≠ d ∧ d2 ≠ p := by
  obtain ⟨⟨dx, e1⟩, e2⟩ := S
  obtain ⟨⟨dx2, e3⟩, e4⟩ := S2
  exact ⟨ne_of e3 e2 (by intro z; cases z), ne_of e4 e1 (by intro z; cases z)⟩
theorem fresh4 {H H' : Hp} {p d p2 d2 x : Addr} {t t2 : T} (kp : ∀ b o, H b = some o → b ≠ p → b ≠ d → b ≠ p2 → b ≠ d2 → H' b = some o) (S : ThAt C H' p d t) (S2 : ThAt C H' p2 d2 t2) (h : H' x = none) : H x = none := by
  obtain ⟨⟨dx, e1⟩, e2⟩ := S
  obtain ⟨⟨dx2, e3⟩, e4⟩ := S2
  cases e : H x with
  | none => rfl
  | some o =>
    have := kp x o e (ne_of_none e1 h).symm (ne_of_none e2 h).symm (ne_of_none e3 h).symm (ne_of_none e4 h).symm
    rw [h] at this
    cases this
theorem cutV_tail (xs : List V) (h : xs ≠ []) : cutV xs (some 1) none = xs.drop 1 := by
  have hl := List.length_pos_iff.mpr h
  unfold cutV
  have e1 : HT.sIx xs.length 0 (some 1) = 1 := by
    have := HT.sIx_nat xs.length 0 1
    rw [show ((1 : Nat) : Int) = 1 from rfl] at this
    rw [this]
    omega
  rw [e1, HT.sIx_none]
  exact List.take_of_length_le (by rw [List.length_drop]; omega)
/-- the thing behind the lendings: its noted untils are the law's list -/
def sp_lent (C : Addr) : Sp := fun vs H Q _ => ∃ (p d p2 d2 : Addr) (t t2 : T) (cell b : Int), vs = [.ref p, .ref p2, .int cell, .int b] ∧ ThAt C H p d t ∧ ThAt C H p2 d2 t2 ∧ p ≠ p2 ∧ d ≠ d2 ∧ t.notes = [] ∧ t.quiet = none ∧ t2.notes = [] ∧ b ≤ 1000 ∧
  ∀ l us t' t2' H', (∀ u ∈ us, u < 10 ^ 40) → H l = none → H' l = some (.lst (us.map V.int)) → us.length ≤ 4 → ThAt C H' p d t' → ThAt C H' p2 d2 t2' → Ok t' → noted t' = us → t'.value = t.value → t'.version = t.version → t'.waiting = t.waiting → t2'.value = t2.value → t2'.version = t2.version → t2'.waiting = t2.waiting → Ok t2' →
    (∀ b o, H b = some o → b ≠ p → b ≠ d → b ≠ p2 → b ≠ d2 → H' b = some o) → Q (.ref l) H'
structure LentI (C : Addr) (H : Hp) (p d p2 d2 l : Addr) (cell b : Int) (t t2 : T) (i : Nat) (σ : St) (H' : Hp) : Prop where
  ex : ∃ x5 x6 n2, σ = [some (.ref p), some (.ref p2), some (.int cell), some (.int b), some (.ref l), x5, x6] ∧ H' l = some (.lst ((untilsL cell i).map V.int)) ∧ ThAt C H' p d { t with notes := notesL cell i } ∧ ThAt C H' p2 d2 { t2 with notes := n2 } ∧ Ints n2 ∧ n2.length ≤ i ∧ (∀ b o, H b = some o → b ≠ p → b ≠ d → b ≠ p2 → b ≠ d2 → H' b = some o)
theorem sc__law_lent : FnScope ["_law_one", "_law_other", "_law_cell", "_law_bound", "_law_untils", "_law_k", "_law_until"] ["_law_one", "_law_other", "_law_cell", "_law_bound"] (defScope (top 11)) := ⟨rfl, rfl, rfl, by decide +kernel, rfl, by decide +kernel, by decide +kernel⟩
theorem ok_lent {f : Addr} {fd : FuncData} (T : Txt K C) (mg_range : mg "range" = none) (d_Thing_lend : MDef P w K mg base C "lend" 1 ["self", "desk", "until"] (sp_lend C)) (d_Thing_take_back : MDef P w K mg base C "take_back" 1 ["self", "desk"] (sp_take_back C)) (d_Thing_come_up : MDef P w K mg base C "come_up" 2 ["self", "clock", "length", "bound"] (sp_come_up C))
    (F : Fun K "_law_lent" "_law_lent" (top 11) f fd) : FnOk P w K mg base CX0 3 f fd ["_law_one", "_law_other", "_law_cell", "_law_bound"] (sp_lent C) := by
  refine F.ok sc__law_lent (fun vs H Q E h => ?_) (fun cdv A outer s H vs Q E hr h => ?_)
  · obtain ⟨p, d, p2, d2, t, t2, cell, b, rfl, _⟩ := h
    rfl
  · obtain ⟨p, d, p2, d2, t, t2, cell, b, rfl, S, S2, npp, ndd, hn, hq, hn2, hb1000, q⟩ := h
    refine ⟨_, (pss_cons (ps_set (i := 4) sc__law_lent.nd rfl (Or.inl rfl) (pe_lst pa_nil))  (pss_cons (ps_forG PassesOwn.never rfl (pi_range1 rfl mg_range (pa_cons (pe_op op_mod (pe_op op_mod (pe_op op_mul (pv 2) pe_int) pe_int) pe_int) pa_nil)) (pg_name (i := 5) sc__law_lent.nd rfl (Or.inl rfl))  (pss_cons (ps_set (i := 6) sc__law_lent.nd rfl (Or.inl rfl) (pe_op op_add (pe_ix ix_list (pe_lst (pa_cons pe_int (pa_cons (pe_un un_neg pe_int) (pa_cons pe_int (pa_cons pe_int pa_nil))))) (pe_op op_mod (pe_op op_mod (pe_op op_mul (pe_op op_add (pv 2) (pv 5)) pe_int) pe_int) pe_int) (fun _ _ => rfl)) (pv 5)))  (pss_cons (ps_expr (pe_mdef (pv 0) d_Thing_lend (hr.mono (by omega)) (pa_cons (pv 5) (pa_cons (pv 6) pa_nil))))  (pss_cons (ps_expr (pe_mdef (pv 1) d_Thing_lend (hr.mono (by omega)) (pa_cons (pv 5) (pa_cons pe_int pa_nil))))  (pss_one (ps_expr (pe_bm PySem.F.plainAttrs_list PySem.F.slot_list_append PySem.F.type_list_append mt_append (pv 4) (pa_cons (pv 6) pa_nil))))))))  (pss_cons (ps_if (PW.pt (pw_and (pt_cmpR op_eq (pe_op op_mod (pe_op op_mod (pe_op op_mul (pv 2) pe_int) pe_int) pe_int) pe_int (nomark _)) (pw_and1 (pt_cmpR op_neD (pv 4) (pe_lst pa_nil) (nomark _))))) (pss_cons (ps_expr (pe_mdef (pv 0) d_Thing_take_back (hr.mono (by omega)) (pa_cons pe_int pa_nil)))  (pss_one (ps_set (i := 4) sc__law_lent.nd rfl (Or.inl rfl) (pe_slice sl_list (pv 4) (po_some pe_int) po_none)))) pss_nil)  (pss_cons (ps_if (pt_cmpR op_eq (pe_op op_mod (pe_op op_mod (pe_op op_mul (pv 2) pe_int) pe_int) pe_int) pe_int (nomark _)) (pss_cons (ps_expr (pe_mdef (pv 0) d_Thing_come_up (hr.mono (by omega)) (pa_cons pe_int (pa_cons pe_int (pa_cons (pv 3) pa_nil)))))  (pss_one (ps_expr (pe_bm PySem.F.plainAttrs_list PySem.F.slot_list_append PySem.F.type_list_append mt_append (pv 4) (pa_cons (pe_op op_add pe_int (pe_op op_mul pe_int (pv 3))) pa_nil))))) pss_nil)  (pss_one (ps_ret (pv 4))))))), ?_⟩
    walk_at "wp"
    intro l hl
    obtain ⟨a1, a2⟩ := S.apart S2
    generalize hnn : (cell * 48271 % 1009 % 4).toNat = n
    have hn3 : n ≤ 3 := by omega
    refine ⟨by omega, by omega, ?_⟩
    have sl : Same H (upd H l (.lst [])) := (Same.refl H).new hl
    refine for_gen (xs := rngV 0 n) (LentI C H p d p2 d2 l cell b t t2) ?_ (fun _ _ _ _ _ => Yields.range) ?_ ?_
    · refine ⟨_, _, [], rfl, upd_same, ?_, ?_, fun _ h => (nomatch h), Nat.le_refl _, fun b o e _ _ _ _ => sl _ _ e⟩
      · have := S.same sl
        cases t; cases hn; exact this
      · have := S2.same sl
        cases t2; cases hn2; exact this
    · rintro i v σ H1 hv ⟨x5, x6, n2, rfl, hl1, S1, S21, hi2, hln2, kp⟩
      obtain ⟨hi, rfl⟩ := rngV_at hv
      have ez : (0 : Int) + (i : Int) = (i : Int) := by omega
      rw [ez]
      walk_at "wp"
      intro p1 hp1
      obtain ⟨o, ho, ho2⟩ := atI_int (ns := [0, -1, 7, 1000000000000]) (z := (cell + (i : Int)) * 48271 % 1019 % 4) (by omega) (by show _ < ((4 : Nat) : Int); omega)
      have euk : untilK cell i = o + (i : Int) := by unfold untilK; rw [List.getD_eq_getElem?_getD, ho2]; rfl
      refine rIxL_of (SqL.of upd_same) ho ?_
      have s1 : Same H1 (upd H1 p1 (.lst [.int 0, .int (-1), .int 7, .int 1000000000000])) := (Same.refl H1).new hp1
      generalize upd H1 p1 (.lst [.int 0, .int (-1), .int 7, .int 1000000000000]) = Ha at s1 ⊢
      have S1a := S1.same s1
      have S2a := S21.same s1
      obtain ⟨⟨dx, h1⟩, hd1⟩ := id S1a
      walk_at "wp h1"
      rw [← euk]
      refine ⟨p, d, _, (i : Int), _, rfl, S1a, by rw [notesL_len]; omega, fun H2 S3 f2 => ?_⟩
      obtain ⟨b1, b2⟩ := S1a.apart S2a
      have S4 := S2a.fr f2 npp.symm b1 b2 ndd.symm
      obtain ⟨⟨dx4, h4⟩, hd4⟩ := id S4
      walk_at "wp h4"
      refine ⟨p2, d2, _, (i : Int), 3, rfl, S4, by show n2.length ≤ 900; omega, fun H3 S5 f3 => ?_⟩
      have la := s1 _ _ hl1
      obtain ⟨⟨dx5, h5⟩, hd5⟩ := id S5
      have c1 : l ≠ p := ne_of la h1 (by intro z; cases z)
      have c2 : l ≠ d := ne_of la hd1 (by intro z; cases z)
      have l2 := f2 _ _ la c1 c2
      have c3 : l ≠ p2 := ne_of l2 h4 (by intro z; cases z)
      have c4 : l ≠ d2 := ne_of l2 hd4 (by intro z; cases z)
      have l3 := f3 _ _ l2 c3 c4
      obtain ⟨b3, b4⟩ := S4.apart S3
      have S6 := S3.fr f3 npp b3 b4 ndd
      walk_at "wp"
      refine ⟨Or.inl ⟨rfl, _, SqL.of l3⟩, l, _, _, rfl, rfl, l3, ?_, ?_⟩
      · rw [List.length_map, untilsL_len]
        exact small1000 (by omega)
      · refine ⟨_, _, putK n2 (Sum.inl (i : Int)) (V.int 3), rfl, ?_, ?_, ?_, ?_, ?_, fun b o e e1 e2 e3 e4 => ?_⟩
        · rw [upd_same, untilsL_succ, List.map_append]; rfl
        · obtain ⟨⟨dx6, h6⟩, hd6⟩ := S6
          refine ⟨⟨dx6, by rw [upd_ne c1.symm]; exact h6⟩, ?_⟩
          rw [upd_ne c2.symm, hd6, notesL_put]
        · obtain ⟨⟨dx6, h6⟩, hd6⟩ := S5
          exact ⟨⟨dx6, by rw [upd_ne c3.symm]; exact h6⟩, by rw [upd_ne c4.symm]; exact hd6⟩
        · intro kv hkv
          unfold putK at hkv
          split at hkv
          · obtain ⟨kv', g1, g2⟩ := List.mem_map.mp hkv
            split at g2
            · rw [← g2]; exact ⟨_, rfl⟩
            · rw [← g2]; exact hi2 _ g1
          · rcases List.mem_append.mp hkv with z | z
            · exact hi2 _ z
            · have : kv = (Sum.inl (i : Int), V.int 3) := by simpa using z
              rw [this]; exact ⟨_, rfl⟩
        · have := length_putK n2 (Sum.inl (i : Int) : Key) (V.int 3)
          omega
        · have el : b ≠ l := ne_of_none e hl
          rw [upd_ne el]
          exact f3 _ _ (f2 _ _ (s1 _ _ (kp _ _ e e1 e2 e3 e4)) e1 e2) e3 e4
    · rintro σ H1 ⟨x5, x6, n2, rfl, hl1, S1, S21, hi2, hln2, kp⟩
      rw [rngV_len] at hl1 S1 hln2
      have hu := hr.units
      obtain ⟨⟨dx1, h1⟩, hd1⟩ := id S1
      obtain ⟨⟨dx2, h2⟩, hd2⟩ := id S21
      have c1 : l ≠ p := ne_of hl1 h1 (by intro z; cases z)
      have c2 : l ≠ d := ne_of hl1 hd1 (by intro z; cases z)
      have c3 : l ≠ p2 := ne_of hl1 h2 (by intro z; cases z)
      have c4 : l ≠ d2 := ne_of hl1 hd2 (by intro z; cases z)
      have ok2 : Ok { t2 with notes := n2 } := ⟨hi2, by show n2.length ≤ 900; omega⟩
      have ok1 : Ok { t with notes := notesL cell n } := ⟨ints_notesL cell n, by show (notesL cell n).length ≤ 900; rw [notesL_len]; omega⟩
      have nt1 : noted { t with notes := notesL cell n } = untilsL cell n := by
        unfold noted
        show valsOf (notesL cell n) ++ t.quiet.toList = _
        rw [vals_notesL, hq]
        exact List.append_nil _
      walk_at "wp"
      -- the three ways
      rcases (by omega : cell * 48271 % 1013 % 3 = 0 ∨ cell * 48271 % 1013 % 3 = 1 ∨ cell * 48271 % 1013 % 3 = 2) with e0 | e0 | e0
      · rw [e0]
        refine iteF ?_
        refine iteF ?_
        exact q l _ _ _ H1 (untilsL_lt cell hn3) hl hl1 (by rw [untilsL_len]; omega) S1 S21 ok1 nt1 rfl rfl rfl rfl rfl rfl ok2 kp
      · rw [e0]
        refine iteT fun p1 hp1 => ?_
        have s1 : Same H1 (upd H1 p1 (.lst [])) := (Same.refl H1).new hp1
        have hp1' : (upd H1 p1 (.lst [])) p1 = some (.lst (([] : List Int).map V.int)) := upd_same
        generalize upd H1 p1 (.lst []) = Ha at s1 hp1' ⊢
        have la := s1 _ _ hl1
        refine ⟨_, _, dt_ints (SqL.of la), dt_ints (SqL.of hp1'), lay_list_ints _, lay_list_ints _, by rw [depth_list_ints, depth_list_ints]; omega, _, rfl, ?_⟩
        cases n with
        | zero =>
          refine iteF ?_
          refine iteF ?_
          exact q l _ _ _ Ha (untilsL_lt cell (Nat.zero_le _)) hl la (by rw [untilsL_len]; omega) (S1.same s1) (S21.same s1) ok1 nt1 rfl rfl rfl rfl rfl rfl ok2 fun b o e e1 e2 e3 e4 => s1 _ _ (kp _ _ e e1 e2 e3 e4)
        | succ m =>
          have ne : (!PyData.eqv (.list ((untilsL cell (m + 1)).map PyData.int)) (.list (([] : List Int).map PyData.int))) = true := by
            unfold untilsL
            rw [List.range_succ_eq_map]
            rfl
          rw [ne]
          refine iteT ?_
          have Sa := S1.same s1
          obtain ⟨⟨dxa, ha⟩, hda⟩ := id Sa
          walk_at "wp ha"
          refine ⟨p, d, _, 0, rfl, Sa, fun H2 S3 f2 => ?_⟩
          have l2 := f2 _ _ la c1 c2
          obtain ⟨g1, g2⟩ := Sa.apart (S21.same s1)
          have S4 := (S21.same s1).fr f2 npp.symm g1 g2 ndd.symm
          walk_at "wp"
          refine ⟨l, _, rfl, SqL.of l2, fun l3 hl3 => ?_⟩
          walk_at "wp"
          try rw [decide_eq_false (show ¬ cell * 48271 % 1013 % 3 = 2 by omega)]
          refine iteF ?_
          obtain ⟨v1, v2, v3⟩ := notesL_drop cell m
          have s3 : ∀ o, Same H2 (upd H2 l3 o) := fun o => (Same.refl H2).new hl3
          refine q l3 ((untilsL cell (m + 1)).drop 1) _ _ _ (fun u hu' => untilsL_lt cell hn3 u (List.mem_of_mem_drop hu')) ?_ ?_ ?_ (S3.same (s3 _)) (S4.same (s3 _)) ⟨v2, by show (dropK (notesL cell (m + 1)) (Sum.inl 0 : Key)).length ≤ 900; omega⟩ ?_ rfl rfl rfl rfl rfl rfl ok2 fun b o e e1 e2 e3 e4 => s3 _ _ _ (f2 _ _ (s1 _ _ (kp _ _ e e1 e2 e3 e4)) e1 e2)
          · exact fresh4 (fun b o e e1 e2 e3 e4 => f2 _ _ (s1 _ _ (kp _ _ e e1 e2 e3 e4)) e1 e2) S3 S4 hl3
          · rw [upd_same, cutV_tail]
            · rw [List.map_drop]
            · unfold untilsL
              rw [List.range_succ_eq_map]
              exact fun z => nomatch z
          · rw [List.length_drop, untilsL_len]; omega
          · unfold noted
            show valsOf (dropK (notesL cell (m + 1)) (Sum.inl 0 : Key)) ++ t.quiet.toList = _
            rw [v1, hq]
            exact List.append_nil _
      · rw [e0]
        refine iteF ?_
        refine iteT ?_
        walk_at "wp h1"
        refine ⟨p, d, _, 2, 10, b, rfl, S1, fun H2 S3 f2 => ?_⟩
        have l2 := f2 _ _ hl1 c1 c2
        obtain ⟨g1, g2⟩ := S1.apart S21
        have S4 := S21.fr f2 npp.symm g1 g2 ndd.symm
        walk_at "wp"
        refine ⟨Or.inl ⟨rfl, _, SqL.of l2⟩, l, _, _, rfl, rfl, l2, ?_, ?_⟩
        · rw [List.length_map, untilsL_len]
          exact small1000 (by omega)
        · obtain ⟨⟨dx3, h3⟩, hd3⟩ := S3
          obtain ⟨⟨dx4, h4⟩, hd4⟩ := S4
          refine q l (untilsL cell n ++ [2 + 10 + 2 * b]) { t with notes := notesL cell n, quiet := some (2 + 10 + 2 * b) } { t2 with notes := n2 } _ (fun u hu' => ?_) hl ?_ ?_ ⟨⟨dx3, by rw [upd_ne c1.symm]; exact h3⟩, by rw [upd_ne c2.symm]; exact hd3⟩ ⟨⟨dx4, by rw [upd_ne c3.symm]; exact h4⟩, by rw [upd_ne c4.symm]; exact hd4⟩ ok1 ?_ rfl rfl rfl rfl rfl rfl ok2 fun b' o e e1 e2 e3 e4 => ?_
          · rcases List.mem_append.mp hu' with z | z
            · exact untilsL_lt cell hn3 u z
            · have e9 : u = 2 + 10 + 2 * b := by simpa using z
              have : (3000 : Int) < 10 ^ 40 := by decide
              omega
          · rw [upd_same, List.map_append]
            have : (12 : Int) + 2 * b = 2 + 10 + 2 * b := by omega
            rw [this]
            rfl
          · rw [List.length_append, untilsL_len]; simp; omega
          · unfold noted
            show valsOf (notesL cell n) ++ [2 + 10 + 2 * b] = _
            rw [vals_notesL]
          · have el : b' ≠ l := ne_of_none e hl
            rw [upd_ne el]
            exact f2 _ _ (kp _ _ e e1 e2 e3 e4) e1 e2
/-- two lists of like answers are told to be alike -/
def sp_alike : Sp := fun vs H Q _ => ∃ (a b : Addr) (as : List Ans), vs = [.ref a, .ref b] ∧ Dh H (.ref a) (.list (as.map ansD)) ∧ Dh H (.ref b) (.list (as.map ansD)) ∧ as.length ≤ 900 ∧ Q (.bl true) H
theorem sc__law_alike : FnScope ["_law_found", "_law_due", "_law_k"] ["_law_found", "_law_due"] (defScope (top 12)) := ⟨rfl, rfl, rfl, by decide +kernel, rfl, by decide +kernel, by decide +kernel⟩
structure AlikeI (a b : Addr) (H : Hp) (i : Nat) (σ : St) (H' : Hp) : Prop where
  ex : ∃ x2, σ = [some (.ref a), some (.ref b), x2] ∧ H' = H
theorem lay2 {x : Str} {u : Int} (h : PyData.canLay0 (.str x) = true) : PyData.canLay0 (.tuple [.str x, .int u]) = true := by
  show (PyData.canLay0 (.str x) && (PyData.canLay0 (.int u) && true)) = true
  rw [h]
  rfl
theorem ans_lay (x : Ans) : (ansD x).canLay0 = true ∧ (ansD x).depth ≤ 1 := by
  cases x with
  | nothing => exact ⟨(by decide +kernel), Nat.zero_le _⟩
  | waits u => exact ⟨lay2 (by decide +kernel), Nat.le_refl _⟩
  | changed n => exact ⟨lay2 (by decide +kernel), Nat.le_refl _⟩
theorem ok_alike {f : Addr} {fd : FuncData} (mg_isinstance : mg "isinstance" = none) (mg_str : mg "str" = none) (mg_tuple : mg "tuple" = none) (mg_list : mg "list" = none) (mg_len : mg "len" = none) (mg_range : mg "range" = none)
    (d__law_whole : Def P w K mg base "_law_whole" 1 ["_law_found"] sp_whole) (F : Fun K "_law_alike" "_law_alike" (top 12) f fd) : FnOk P w K mg base CX0 2 f fd ["_law_found", "_law_due"] sp_alike := by
  refine F.ok sc__law_alike (fun vs H Q E h => ?_) (fun cdv A outer s H vs Q E hr h => ?_)
  · obtain ⟨a, b, as, rfl, _⟩ := h
    rfl
  · obtain ⟨a, b, as, rfl, hx, hy, hl, q⟩ := h
    refine ⟨_, (pss_cons (ps_if (PW.pt (pw_or (pt_not (pt_val (pe_callB call_isi rfl mg_isinstance (by decide +kernel) (pa_cons (pv 0) (pa_cons (pe_bltn (v := .ty "list") rfl mg_list (by decide +kernel) rfl) pa_nil))))) (pw_or1 (pt_cmpR op_ne (pe_callB call_len_seq rfl mg_len (by decide +kernel) (pa_cons (pv 0) pa_nil)) (pe_callB call_len_seq rfl mg_len (by decide +kernel) (pa_cons (pv 1) pa_nil)) (nomark _))))) (pss_one (ps_ret pe_bl)) pss_nil)  (pss_cons (ps_forG PassesOwn.never rfl (pi_range1 rfl mg_range (pa_cons (pe_callB call_len_seq rfl mg_len (by decide +kernel) (pa_cons (pv 1) pa_nil)) pa_nil)) (pg_name (i := 2) sc__law_alike.nd rfl (Or.inl rfl))  (pss_cons (ps_if (pt_val (pe_callB call_isi rfl mg_isinstance (by decide +kernel) (pa_cons (pe_ix ix_list (pv 1) (pv 2) (fun _ _ => rfl)) (pa_cons (pe_bltn (v := .ty "tuple") rfl mg_tuple (by decide +kernel) rfl) pa_nil)))) (pss_one (ps_if (PW.pt (pw_or (pt_not (pt_val (pe_callB call_isi rfl mg_isinstance (by decide +kernel) (pa_cons (pe_ix ix_list (pv 0) (pv 2) (fun _ _ => rfl)) (pa_cons (pe_bltn (v := .ty "tuple") rfl mg_tuple (by decide +kernel) rfl) pa_nil))))) (pw_or1 (pt_not (pt_val (pe_def d__law_whole (hr.mono (by omega)) rfl (pa_cons (pe_ix ix_tup (pe_ix ix_list (pv 0) (pv 2) (fun _ _ => rfl)) pe_int (fun _ _ => rfl)) pa_nil))))))) (pss_one (ps_ret pe_bl)) pss_nil)) (pss_one (ps_if (pt_not (pt_val (pe_callB call_isi rfl mg_isinstance (by decide +kernel) (pa_cons (pe_ix ix_list (pv 0) (pv 2) (fun _ _ => rfl)) (pa_cons (pe_bltn (v := .ty "str") rfl mg_str (by decide +kernel) rfl) pa_nil))))) (pss_one (ps_ret pe_bl)) pss_nil)))  (pss_one (ps_if (pt_cmpR op_neD (pe_ix ix_list (pv 0) (pv 2) (fun _ _ => rfl)) (pe_ix ix_list (pv 1) (pv 2) (fun _ _ => rfl)) (nomark _)) (pss_one (ps_ret pe_bl)) pss_nil))))  (pss_one (ps_ret pe_bl)))), ?_⟩
    have hu := hr.units
    cases hx with
    | @lst _ xs _ ha hxs =>
    cases hy with
    | @lst _ ys _ hb hys =>
    have lx : xs.length = as.length := by rw [hxs.length, List.length_map]
    have ly : ys.length = as.length := by rw [hys.length, List.length_map]
    have ta := tyN_lst ha
    walk_at "wp ta"
    refine ⟨xs, Or.inl (SqL.of ha), ys, Or.inl (SqL.of hb), iteNS (by rw [lx, ly]) ⟨ys, Or.inl (SqL.of hb), by omega, by omega, ?_⟩⟩
    rw [Int.toNat_natCast]
    refine for_gen (xs := rngV 0 ys.length) (AlikeI a b H) ⟨_, rfl, rfl⟩ (fun _ _ _ _ _ => Yields.range) ?_ ?_
    · rintro i v σ H' hv ⟨x2, rfl, rfl⟩
      obtain ⟨hi, rfl⟩ := rngV_at hv
      have ez : (0 : Int) + (i : Int) = (i : Int) := by omega
      rw [ez]
      have e1 : xs[i]? = some xs[i] := by rw [List.getElem?_eq_getElem (by omega)]
      have e2 : ys[i]? = some ys[i] := by rw [List.getElem?_eq_getElem hi]
      obtain ⟨d1, g1, g2⟩ := hxs.get e1
      obtain ⟨d2, g3, g4⟩ := hys.get e2
      have ed : d1 = d2 := Option.some.inj (g1.symm.trans g3)
      subst ed
      rw [List.getElem?_map] at g1
      cases ea : as[i]? with
      | none => rw [ea] at g1; cases g1
      | some x =>
        rw [ea] at g1
        obtain rfl := Option.some.inj g1
        generalize xs[i] = vx at *
        generalize ys[i] = vy at *
        walk_at "wp"
        obtain ⟨y1, y2⟩ := ans_lay x
        have fin : rNeD K (A.deeper (PyProof.Rows.envOfC (Str.ofString "_law_alike") (defScope (top 12)) s.heap.objs.size f cdv)) vx vy H' fun z H2 => ∃ k, z = V.bl k ∧ if k = true then Q (V.bl false) H2 else AlikeI a b H' (i + 1) [some (V.ref a), some (V.ref b), some (V.int (i : Int))] H2 := by
          refine ⟨_, _, g2.dt, g4.dt, y1, y1, by omega, _, rfl, ?_⟩
          rw [SeqAt.eqv_refl _ y1]
          exact iteF ⟨_, rfl, rfl⟩
        refine rIxL_of (SqL.of hb) (atI_nat e2) ?_
        cases x with
        | nothing =>
          cases g2
          cases g4
          refine ⟨"str", rfl, ?_⟩
          rw [sT_str_tuple]
          refine iteF (rIxL_of (SqL.of ha) (atI_nat e1) ⟨"str", rfl, ?_⟩)
          rw [sT_str_str]
          exact iteF (rIxL_of (SqL.of ha) (atI_nat e1) (rIxL_of (SqL.of hb) (atI_nat e2) fin))
        | waits u =>
          cases g2 with
          | @tup ax tx _ hax dx =>
          cases g4 with
          | @tup ay ty' _ hay dy =>
          cases dx with
          | cons d1 dx =>
          cases dx with
          | cons d2 dx =>
          cases dx
          cases d2
          refine ⟨"tuple", tyN_tup hay, ?_⟩
          rw [sT_tuple_tuple]
          refine iteT (rIxL_of (SqL.of ha) (atI_nat e1) ⟨"tuple", tyN_tup hax, ?_⟩)
          rw [sT_tuple_tuple]
          refine iteF (rIxL_of (SqL.of ha) (atI_nat e1) (rIxT_of (SqT.of hax) (v := .int u) (show atI _ ((1 : Nat) : Int) = _ from atI_nat rfl) ⟨_, "int", rfl, rfl, _, rfl, ?_⟩))
          rw [sT_int_int, sT_int_bool]
          exact iteF (rIxL_of (SqL.of ha) (atI_nat e1) (rIxL_of (SqL.of hb) (atI_nat e2) fin))
        | changed u =>
          cases g2 with
          | @tup ax tx _ hax dx =>
          cases g4 with
          | @tup ay ty' _ hay dy =>
          cases dx with
          | cons d1 dx =>
          cases dx with
          | cons d2 dx =>
          cases dx
          cases d2
          refine ⟨"tuple", tyN_tup hay, ?_⟩
          rw [sT_tuple_tuple]
          refine iteT (rIxL_of (SqL.of ha) (atI_nat e1) ⟨"tuple", tyN_tup hax, ?_⟩)
          rw [sT_tuple_tuple]
          refine iteF (rIxL_of (SqL.of ha) (atI_nat e1) (rIxT_of (SqT.of hax) (v := .int u) (show atI _ ((1 : Nat) : Int) = _ from atI_nat rfl) ⟨_, "int", rfl, rfl, _, rfl, ?_⟩))
          rw [sT_int_int, sT_int_bool]
          exact iteF (rIxL_of (SqL.of ha) (atI_nat e1) (rIxL_of (SqL.of hb) (atI_nat e2) fin))
    · rintro σ H' ⟨x2, rfl, rfl⟩
      exact q
theorem put_up_one {H : Hp} {p d : Addr} {t : T} {v : Int} {R : VK} {E : XK} (S : ThAt C H p d t) (h : ∀ (bo : Bool) (H1 : Hp) (t1 : T), ThAt C H1 p d t1 → (bo = true ∧ t.waiting = none ∧ t1 = { t with waiting := some v }) ∨ (bo = false ∧ (∃ y, t.waiting = some y) ∧ t1 = t) → Fr2 p d H H1 → R (.bl bo) H1) : sp_put_up C [.ref p, .int v] H R E :=
  ⟨p, d, t, v, rfl, S, fun hw H1 S1 f1 => h true H1 _ S1 (Or.inl ⟨rfl, hw, rfl⟩) f1, fun y hw => h false H t S (Or.inr ⟨rfl, ⟨y, hw⟩, rfl⟩) fun _ _ e _ _ => e⟩
theorem heldO_none {c : Int} {l : List Int} (h : ∀ u ∈ l, u < c) : heldO c l = none := by
  unfold heldO
  refine maxL_none.mpr (List.filter_eq_nil_iff.mpr fun u hu z => ?_)
  have z' : c ≤ u := by simpa using z
  have := h u hu
  omega
theorem run_one {t : T} {c v : Int} (hw : t.waiting = some v) (h : ∀ u ∈ noted t, u < c) : runA t [c] = ([.changed (t.version + 1)], done t v) := by
  have e : att t c = (.changed (t.version + 1), done t v) := by
    unfold att
    rw [hw]
    simp only [heldO_none h]
  show ((att t c).1 :: [], (att t c).2) = _
  rw [e]
theorem mul40 : MulOk (Str.ofString "0") 40 := ⟨by decide, by decide +kernel, by decide +kernel⟩
theorem int40 : PySem.intText? (Str.ofString "1" ++ Txt.mul (Str.ofString "0") 40) = some (10 ^ 40) := by decide +kernel
/-- the thing goes on: t is a thing whose change is done, or waits with 77 and untils below a 1 with 40 noughts -/
def sp_goes_on (C : Addr) : Sp := fun vs H Q _ => ∃ (p d : Addr) (t : T) (dn : Bool), vs = [.ref p, .bl dn] ∧ ThAt C H p d t ∧ Ok t ∧ (∀ u ∈ noted t, u < 10 ^ 40) ∧ (dn = true → t.waiting = none ∧ t.version = 1) ∧ (dn = false → t.waiting = some 77 ∧ t.version = 0) ∧
  ∀ H', (∀ b o, H b = some o → b ≠ p → b ≠ d → H' b = some o) → Q (.bl true) H'
theorem sc__law_goes_on : FnScope ["_law_one", "_law_done", "_law_far"] ["_law_one", "_law_done"] (defScope (top 13)) := ⟨rfl, rfl, rfl, by decide +kernel, rfl, by decide +kernel, by decide +kernel⟩
theorem ok_goes_on {f : Addr} {fd : FuncData} (T : Txt K C) (mg_int : mg "int" = none) (d__law_so : Def P w K mg base "_law_so" 1 ["_law_found", "_law_meant"] (sp_so K 0)) (d__law_alike : Def P w K mg base "_law_alike" 2 ["_law_found", "_law_due"] sp_alike) (d_attempts : Def P w K mg base "attempts" 3 ["thing", "clocks"] (sp_attempts K C)) (d_Thing_put_up : MDef P w K mg base C "put_up" 1 ["self", "value"] (sp_put_up C))
    (F : Fun K "_law_goes_on" "_law_goes_on" (top 13) f fd) : FnOk P w K mg base CX0 4 f fd ["_law_one", "_law_done"] (sp_goes_on C) := by
  refine F.ok sc__law_goes_on (fun vs H Q E h => ?_) (fun cdv A outer s H vs Q E hr h => ?_)
  · obtain ⟨p, d, t, dn, rfl, _⟩ := h
    rfl
  · obtain ⟨p, d, t, dn, rfl, S, ok, hlt, hd1, hd2, q⟩ := h
    refine ⟨_, (pss_cons (ps_set (i := 2) sc__law_goes_on.nd rfl (Or.inl rfl) (pe_callTy call_int_text rfl mg_int (by decide +kernel) (pa_cons (pe_op op_add_str pe_str (pe_op op_mul_str pe_str pe_int)) pa_nil)))  (pss_cons (ps_if (pt_not (pt_val (pe_def d__law_so (hr.mono (by omega)) rfl (pa_cons (pe_mdef (pv 0) d_Thing_put_up (hr.mono (by omega)) (pa_cons pe_int pa_nil)) (pa_cons (pv 1) pa_nil))))) (pss_one (ps_ret pe_bl)) pss_nil)  (pss_cons (ps_if (pt_not (pt_val (pe_def d__law_alike (hr.mono (by omega)) rfl (pa_cons (pe_def d_attempts (hr.mono (by omega)) rfl (pa_cons (pv 0) (pa_cons (pe_lst (pa_cons (pv 2) pa_nil)) pa_nil))) (pa_cons (pe_lst (pa_cons (pe_tup (pa_cons pe_str (pa_cons (pe_op op_add pe_int (pe_callTy call_int1 rfl mg_int (by decide +kernel) (pa_cons (pv 1) pa_nil))) pa_nil))) pa_nil)) pa_nil))))) (pss_one (ps_ret pe_bl)) pss_nil)  (pss_one (ps_ret (pe_and (pe_def d__law_so (hr.mono (by omega)) rfl (pa_cons (pe_fld (pv 0) rfl) (pa_cons (pe_ix ix_list (pe_lst (pa_cons pe_int (pa_cons pe_int pa_nil))) (pe_callTy call_int1 rfl mg_int (by decide +kernel) (pa_cons (pv 1) pa_nil)) (fun _ _ => rfl)) pa_nil))) (pe_one (pe_def d__law_so (hr.mono (by omega)) rfl (pa_cons (pe_fld (pv 0) rfl) (pa_cons (pe_op op_add pe_int (pe_callTy call_int1 rfl mg_int (by decide +kernel) (pa_cons (pv 1) pa_nil))) pa_nil)))))))))), ?_⟩
    obtain ⟨⟨dx, h1⟩, hdd⟩ := id S
    walk_at "wp h1"
    refine ⟨mul40, by decide, _, int40, by decide, put_up_one S fun bo H1 t1 S1 hc f1 => ?_⟩
    have hb : bo = dn := by
      cases dn with
      | true =>
        obtain ⟨w1, w2⟩ := hd1 rfl
        rcases hc with ⟨c1, c2, c3⟩ | ⟨c1, ⟨y, c2⟩, c3⟩
        · exact c1
        · rw [w1] at c2; cases c2
      | false =>
        obtain ⟨w1, w2⟩ := hd2 rfl
        rcases hc with ⟨c1, c2, c3⟩ | ⟨c1, ⟨y, c2⟩, c3⟩
        · rw [w1] at c2; cases c2
        · exact c1
    subst hb
    have facts : Ok t1 ∧ noted t1 = noted t ∧ t1.waiting = some (if bo = true then 88 else 77) ∧ t1.version = (if bo = true then 1 else 0) := by
      rcases hc with ⟨c1, c2, rfl⟩ | ⟨c1, ⟨y, c2⟩, rfl⟩
      · subst c1
        exact ⟨ok, rfl, rfl, (hd1 rfl).2⟩
      · subst c1
        exact ⟨ok, rfl, (hd2 rfl).1, (hd2 rfl).2⟩
    obtain ⟨ok1, nt1, wt1, vs1⟩ := facts
    refine ⟨_, _, .bool bo, rfl, .bl bo, .bl bo, Nat.zero_le _, True.intro, fun H2 s2 => ⟨true, rfl, iteF fun p1 hp1 => ?_⟩⟩
    have s3 : Same H2 (upd H2 p1 (.lst [.int (10 ^ 40)])) := (Same.refl H2).new hp1
    have hp1' : (upd H2 p1 (.lst [.int (10 ^ 40)])) p1 = some (.lst (([10 ^ 40] : List Int).map V.int)) := upd_same
    generalize upd H2 p1 (.lst [.int (10 ^ 40)]) = Ha at s3 hp1' ⊢
    have Sa := S1.same (s2.trans s3)
    obtain ⟨⟨dxa, ha⟩, hda⟩ := id Sa
    refine ⟨p, d, p1, t1, [10 ^ 40], rfl, Sa, ok1, SqL.of hp1', ne_of hp1' ha (by intro z; cases z), by show 1 ≤ 900; decide, ?_⟩
    rw [run_one wt1 (by rw [nt1]; exact hlt)]
    intro l d' H3 hD S3 hd' kp3
    have ev : (1 : Int) + (if bo = true then 1 else 0) = t1.version + 1 := by rw [vs1]; omega
    rw [ev]
    intro p2 hp2 p3 hp3
    have s4 : Same H3 (upd H3 p2 (.tup [.str "changed", .int (t1.version + 1)])) := (Same.refl H3).new hp2
    have s5 : Same (upd H3 p2 (.tup [.str "changed", .int (t1.version + 1)])) (upd (upd H3 p2 (.tup [.str "changed", .int (t1.version + 1)])) p3 (.lst [.ref p2])) := (Same.refl _).new hp3
    have g2 := s5 p2 _ upd_same
    have g3 : (upd (upd H3 p2 (.tup [.str "changed", .int (t1.version + 1)])) p3 (.lst [.ref p2])) p3 = some (.lst [.ref p2]) := upd_same
    have s6 := s4.trans s5
    clear s4 s5
    generalize upd (upd H3 p2 (.tup [.str "changed", .int (t1.version + 1)])) p3 (.lst [.ref p2]) = Hb at s6 g2 g3 ⊢
    refine ⟨l, p3, [.changed (t1.version + 1)], rfl, hD.same s6.d, .lst g3 (.cons (.tup g2 (.cons (.str _) (.cons (.int _) .nil))) .nil), by show 1 ≤ 900; decide, true, rfl, iteF ?_⟩
    have Sb := S3.same s6
    obtain ⟨⟨dxb, hbp⟩, hdb⟩ := id Sb
    walk_at "wp hbp T.cl T.n2"
    intro p4 hp4
    have s7 : Same Hb (upd Hb p4 (.lst [.int 77, .int 88])) := (Same.refl Hb).new hp4
    refine rIxL_of (SqL.of upd_same) (v := .int (if bo = true then 88 else 77)) (by cases bo with
      | true => exact (atI_nat (j := 1) rfl : atI [V.int 77, V.int 88] ((1 : Nat) : Int) = _)
      | false => exact (atI_nat (j := 0) rfl : atI [V.int 77, V.int 88] ((0 : Nat) : Int) = _)) ?_
    generalize upd Hb p4 (.lst [.int 77, .int 88]) = Hc at s7 ⊢
    refine ⟨_, _, .int (if bo = true then 88 else 77), rfl, .int _, .int _, Nat.zero_le _, True.intro, fun H6 s8 => ⟨true, rfl, iteT ?_⟩⟩
    have Sc := Sb.same (s7.trans s8)
    obtain ⟨⟨dxc, hcp⟩, hdc⟩ := id Sc
    walk_at "wp hcp T.cl T.n3"
    refine ⟨_, _, .int (t1.version + 1), rfl, .int _, .int _, Nat.zero_le _, True.intro, fun H7 s9 => q H7 fun b o e e1 e2 => ?_⟩
    exact s9 _ _ (s8 _ _ (s7 _ _ (s6 _ _ (kp3 _ _ (s3 _ _ (s2 _ _ (f1 _ _ e e1 e2))) e1))))
end
end Fb

end

section
set_option maxHeartbeats 4000000
namespace Fb
open PySem L2
local macro_rules | `(tactic| walk_at $x:str) => do
  let ws := x.getString.splitOn " "
  if ws.head! != "wp" then Lean.Macro.throwUnsupported
  let mut hs : Array (Lean.TSyntax `Lean.Parser.Tactic.simpLemma) := #[]
  for z in ws.tail! do
    let ps := z.splitOn ":"
    let mut t : Lean.TSyntax `term := Lean.mkIdent ps.head!.toName
    for p in ps.tail! do
      let a : Lean.TSyntax `term := Lean.mkIdent p.toName
      t ← `($t $a)
    hs := hs.push (← `(Lean.Parser.Tactic.simpLemma| $t:term))
  `(tactic| simp only [cxOf_K, cxOf_A, cxComp_K, cxComp_A, tSeq, tNext, tForG, iRng1, iList, tLst, tAsg, gName, tRet, tRetN, tOp, tVar, tC, rI0, rI, rU, tUn, tChain, tTest, tB, tIfS, tAnd, tOr, tNot, tAndV, tOrV, tNotV, tIsN, tNotN, tCB, tCons, tNil, tCall, rEq, rNe, L2.start, List.map_cons, List.map_nil, List.cons_append, List.nil_append, List.append_nil, List.length_cons, List.length_nil, List.replicate, List.getElem?_cons_zero, List.getElem?_cons_succ, List.set_cons_zero, List.set_cons_succ, Option.some.injEq, V.int.injEq, V.bl.injEq, V.ref.injEq, V.str.injEq, V.ty.injEq, List.cons.injEq, exists_eq_left', exists_and_left, exists_eq_left, and_true, true_and, exists_eq_right, exists_eq_right', Nat.zero_add, Nat.reduceAdd, Nat.reduceSub, and_assoc, ↓reduceIte, Bool.not_true, Bool.not_false, Bool.false_eq_true, Bool.true_and, Bool.false_and, cmul_2, cmul_4, cmul_h, known_bool, known_int, known_str, known_list, known_tuple, known_dict, sT_NoneType_bool, sT_NoneType_int, sT_NoneType_str, sT_NoneType_list, sT_NoneType_tuple, sT_NoneType_dict, sT_bool_bool, sT_bool_int, sT_bool_str, sT_bool_list, sT_bool_tuple, sT_bool_dict, sT_int_bool, sT_int_int, sT_int_str, sT_int_list, sT_int_tuple, sT_int_dict, sT_str_bool, sT_str_int, sT_str_str, sT_str_list, sT_str_tuple, sT_str_dict, sT_list_bool, sT_list_int, sT_list_str, sT_list_list, sT_list_tuple, sT_list_dict, sT_tuple_bool, sT_tuple_int, sT_tuple_str, sT_tuple_list, sT_tuple_tuple, sT_tuple_dict, sT_dict_bool, sT_dict_int, sT_dict_str, sT_dict_list, sT_dict_tuple, sT_dict_dict, tyN_non, tyN_bl, tyN_int, tyN_str, Int.reduceLT, small_of, Nat.reduceLeDiff, scal, not_true_eq_false, not_false_eq_true, reduceCtorEq, decide_true, decide_false, Bool.or_true, Bool.true_or, Bool.or_false, Bool.false_or, Bool.and_true, Bool.and_false, HO.tup.injEq, HO.lst.injEq, tYes, false_and, false_or, or_false, and_false, exists_false, sFld, tFld, tDNewK, tMeth, tMake, tDrop, sDPut, tDPop2, tDVals, tTup, tBM, tBM0, tSl, tPart, tNoPart, upd_same, upd_upd, HO.ins.injEq, fl_keeper, fl_value, fl_version, fl_notes, fl_quiet, fl_waiting, fl_lend, fl_take_back, fl_come_up, fl_put_up, fl_attempt, fl_noted_untils, fl_take_change, put_value, put_version, put_notes, put_quiet, put_waiting, fl_len, $hs,*])

-- WPMORE sFld, tFld, tDNewK, tMeth, tMake, tDrop, sDPut, tDPop2, tDVals, tTup, tBM, tBM0, tSl, tPart, tNoPart, upd_same, upd_upd, HO.ins.injEq, fl_keeper, fl_value, fl_version, fl_notes, fl_quiet, fl_waiting, fl_lend, fl_take_back, fl_come_up, fl_put_up, fl_attempt, fl_noted_untils, fl_take_change, put_value, put_version, put_notes, put_quiet, put_waiting, fl_len
section
variable {P : Program} {w : World} {K : PySem.W.Frag} {mg : Str → Option Value} {base : Heap} {C : Addr}
def sp_law (K : PySem.W.Frag) : Sp := fun vs H Q _ => ∃ (a : Addr) (ns : List Int), vs = [.ref a] ∧ SqL K H a (ns.map V.int) ∧ ns.length ≤ 63 ∧ ∀ H', Q (.bl true) H'
theorem cut_ints (ns : List Int) (lo hi : Option Int) : ∃ cells : List Int, cutV (ns.map V.int) lo hi = cells.map V.int ∧ cells.length ≤ ns.length := by
  unfold cutV
  refine ⟨(ns.drop (HT.sIx (ns.map V.int).length 0 lo)).take (HT.sIx (ns.map V.int).length (ns.map V.int).length hi - HT.sIx (ns.map V.int).length 0 lo), ?_, ?_⟩
  · rw [List.map_take, List.map_drop]
  · rw [List.length_take, List.length_drop]; omega
structure LawI (H7 : Hp) (a p p2 ul cl du : Addr) (t5 : T) (i : Nat) (σ : St) (H' : Hp) : Prop where
  ex : ∃ x7 x8 x9 x10 x11 cs dn ys, σ = [some (.ref a), some (.ref p), some (.ref p2), some (.ref ul), some (.ref cl), some (.ref du), some (.bl dn), x7, x8, x9, x10, x11] ∧ H' cl = some (.lst (cs.map V.int)) ∧ H' du = some (.lst ys) ∧ Dhs H' ys ((runA t5 cs).1.map ansD) ∧ (runA t5 cs).2 = (if dn = true then done t5 77 else t5) ∧ cs.length = i ∧ (∀ b o, H7 b = some o → b ≠ cl → b ≠ du → H' b = some o)
theorem lawI_next {H7 Hx : Hp} {a p p2 ul cl du : Addr} {t5 : T} {i : Nat} {cs : List Int} {ys : List V} {v : V} {ck : Int} {dn' : Bool} {x7 x8 x9 x10 x11 : Option V} (hcl : Hx cl = some (.lst ((cs ++ [ck]).map V.int))) (hdu : Hx du = some (.lst ys)) (hy : Dhs Hx ys ((runA t5 cs).1.map ansD)) (hv : Dh Hx v (ansD (att (runA t5 cs).2 ck).1))
    (hs : (att (runA t5 cs).2 ck).2 = (if dn' = true then done t5 77 else t5)) (hl : cs.length = i) (kp : ∀ b o, H7 b = some o → b ≠ cl → b ≠ du → Hx b = some o) (ncd : cl ≠ du) :
    LawI H7 a p p2 ul cl du t5 (i + 1) [some (.ref a), some (.ref p), some (.ref p2), some (.ref ul), some (.ref cl), some (.ref du), some (.bl dn'), x7, x8, x9, x10, x11] (upd Hx du (.lst (ys ++ [v]))) := by
  have tT : ∀ b xs, Hx b = some (.tup xs) → (upd Hx du (.lst (ys ++ [v]))) b = some (.tup xs) := fun b xs e => by
    rw [upd_ne (ne_of e hdu (by intro z; cases z))]; exact e
  refine ⟨_, _, _, _, _, cs ++ [ck], dn', ys ++ [v], rfl, ?_, upd_same, ?_, ?_, ?_, fun b o e e1 e2 => ?_⟩
  · rw [upd_ne ncd]; exact hcl
  · rw [runA_snoc, List.map_append]
    exact (hy.snoc hv).sameT tT (by rw [noLs_append, ans_noL]; exact ans_noL [_])
  · rw [runA_snoc]; exact hs
  · rw [List.length_append, hl]; rfl
  · rw [upd_ne e2]; exact kp b o e e1 e2
theorem att_none {t : T} {c : Int} (h : t.waiting = none) : att t c = (.nothing, t) := by unfold att; rw [h]
theorem att_held {t : T} {c v u : Int} (h : t.waiting = some v) (h2 : heldO c (noted t) = some u) : att t c = (.waits u, t) := by unfold att; rw [h]; simp only [h2]
theorem att_done {t : T} {c v : Int} (h : t.waiting = some v) (h2 : heldO c (noted t) = none) : att t c = (.changed (t.version + 1), done t v) := by unfold att; rw [h]; simp only [h2]
theorem run_idle {t : T} {c : Int} (h : t.waiting = none) : runA t [c] = ([.nothing], t) := by
  show ((att t c).1 :: [], (att t c).2) = _
  rw [att_none h]
theorem sc_law : FnScope ["_law_script", "_law_one", "_law_other", "_law_untils", "_law_clocks", "_law_due", "_law_done", "_law_cell", "_law_clock", "_law_held", "_law_handed", "_law_value"] ["_law_script"] (defScope (top 14)) := ⟨rfl, rfl, rfl, by decide +kernel, rfl, by decide +kernel, by decide +kernel⟩
theorem ok_law {f : Addr} {fd : FuncData} (T : Txt K C) (mg_len : mg "len" = none) (mg_int : mg "int" = none) (mg_list : mg "list" = none) (mg_max : mg "max" = none)
    (c_Thing : CDef P w K mg base "Thing" C 1 ["self", "keeper", "value"] (sp_init C)) (d__law_at : Def P w K mg base "_law_at" 1 ["_law_script", "_law_k"] (sp_at K)) (d__law_lent : Def P w K mg base "_law_lent" 3 ["_law_one", "_law_other", "_law_cell", "_law_bound"] (sp_lent C))
    (d_Thing_put_up : MDef P w K mg base C "put_up" 1 ["self", "value"] (sp_put_up C)) (d__law_alike : Def P w K mg base "_law_alike" 2 ["_law_found", "_law_due"] sp_alike) (d_attempts : Def P w K mg base "attempts" 3 ["thing", "clocks"] (sp_attempts K C))
    (d__law_whole : Def P w K mg base "_law_whole" 1 ["_law_found"] sp_whole) (d__law_goes_on : Def P w K mg base "_law_goes_on" 4 ["_law_one", "_law_done"] (sp_goes_on C)) (d__law_so : Def P w K mg base "_law_so" 2 ["_law_found", "_law_meant"] (sp_so K 1))
    (F : Fun K "law" "law" (top 14) f fd) : FnOk P w K mg base CX0 5 f fd ["_law_script"] (sp_law K) := by
  refine F.ok sc_law (fun vs H Q E h => ?_) (fun cdv A outer s H vs Q E hr h => ?_)
  · obtain ⟨a, ns, rfl, _⟩ := h
    rfl
  · obtain ⟨a, ns, rfl, hS, hl, q⟩ := h
    refine ⟨_, (pss_cons (ps_set (i := 1) sc_law.nd rfl (Or.inl rfl) (pe_cls c_Thing (hr.mono (by omega)) rfl (pa_cons pe_int (pa_cons (pe_op op_sub (pe_op op_mod (pe_op op_mod (pe_op op_mul (pe_def d__law_at (hr.mono (by omega)) rfl (pa_cons (pv 0) (pa_cons pe_int pa_nil))) pe_int) pe_int) pe_int) pe_int) pa_nil))))  (pss_cons (ps_set (i := 2) sc_law.nd rfl (Or.inl rfl) (pe_cls c_Thing (hr.mono (by omega)) rfl (pa_cons pe_int (pa_cons pe_int pa_nil))))  (pss_cons (ps_set (i := 3) sc_law.nd rfl (Or.inl rfl) (pe_def d__law_lent (hr.mono (by omega)) rfl (pa_cons (pv 1) (pa_cons (pv 2) (pa_cons (pe_def d__law_at (hr.mono (by omega)) rfl (pa_cons (pv 0) (pa_cons pe_int pa_nil))) (pa_cons (pe_op op_mod (pe_op op_mod (pe_op op_mul (pe_def d__law_at (hr.mono (by omega)) rfl (pa_cons (pv 0) (pa_cons pe_int pa_nil))) pe_int) pe_int) pe_int) pa_nil))))))  (pss_cons (ps_if (PW.pt (pw_or (pt_cmpR op_isnot_bl (pe_mdef (pv 1) d_Thing_put_up (hr.mono (by omega)) (pa_cons pe_int pa_nil)) pe_bl (nomark _)) (pw_or1 (pt_cmpR op_isnot_bl (pe_mdef (pv 1) d_Thing_put_up (hr.mono (by omega)) (pa_cons pe_int pa_nil)) pe_bl (nomark _))))) (pss_one (ps_ret pe_bl)) pss_nil)  (pss_cons (ps_set (i := 4) sc_law.nd rfl (Or.inl rfl) (pe_lst pa_nil))  (pss_cons (ps_set (i := 5) sc_law.nd rfl (Or.inl rfl) (pe_lst pa_nil))  (pss_cons (ps_set (i := 6) sc_law.nd rfl (Or.inl rfl) pe_bl)  (pss_cons (ps_forG PassesOwn.never rfl (pi_list (pe_slice sl_list (pv 0) (po_some pe_int) (po_some pe_int))) (pg_name (i := 7) sc_law.nd rfl (Or.inl rfl))  (pss_cons (ps_set (i := 8) sc_law.nd rfl (Or.inr rfl) (pe_ix ix_list (pe_op op_cat (pe_lst (pa_cons pe_int (pa_cons pe_int pa_nil))) (pv 3)) (pe_op op_mod (pe_op op_mod (pe_op op_mul (pv 7) pe_int) pe_int) (pe_op op_add pe_int (pe_callB call_len_seq rfl mg_len (by decide +kernel) (pa_cons (pv 3) pa_nil)))) (fun _ _ => rfl)))  (pss_cons (ps_set (i := 8) sc_law.nd rfl (Or.inr rfl) (pe_op op_sub (pe_op op_add (pv 8) (pe_op op_mod (pe_op op_mod (pe_op op_mul (pv 7) pe_int) pe_int) pe_int)) pe_int))  (pss_cons (ps_expr (pe_bm PySem.F.plainAttrs_list PySem.F.slot_list_append PySem.F.type_list_append mt_append (pv 4) (pa_cons (pv 8) pa_nil)))  (pss_cons (ps_setLc (own := ["_law_until"]) (i := 9) rfl (LcScope.of (by kernel_rfl)) (pi_list (pv 3)) (fun cl C s H fp => ⟨(pg_name (i := 12) (show List.Nodup (α := Str) ["_law_script", "_law_one", "_law_other", "_law_untils", "_law_clocks", "_law_due", "_law_done", "_law_cell", "_law_clock", "_law_held", "_law_handed", "_law_value", "_law_until"] by decide +kernel) rfl (Or.inl rfl)), (pts_one (pt_cmpR op_ge (pv 12) (pv 8) (nomark _))), (pv 12)⟩) sc_law.nd rfl (Or.inl rfl) rfl)  (pss_one (ps_if (pt_val (pv 6)) (pss_one (ps_expr (pe_bm PySem.F.plainAttrs_list PySem.F.slot_list_append PySem.F.type_list_append mt_append (pv 5) (pa_cons pe_str pa_nil)))) (pss_one (ps_if (pt_cmpR op_eqD (pv 9) (pe_lst pa_nil) (nomark _)) (pss_cons (ps_expr (pe_bm PySem.F.plainAttrs_list PySem.F.slot_list_append PySem.F.type_list_append mt_append (pv 5) (pa_cons (pe_tup (pa_cons pe_str (pa_cons pe_int pa_nil))) pa_nil)))  (pss_one (ps_set (i := 6) sc_law.nd rfl (Or.inl rfl) pe_bl))) (pss_one (ps_expr (pe_bm PySem.F.plainAttrs_list PySem.F.slot_list_append PySem.F.type_list_append mt_append (pv 5) (pa_cons (pe_tup (pa_cons pe_str (pa_cons (pe_callB (call_max1 rfl) rfl mg_max (by decide +kernel) (pa_cons (pv 9) pa_nil)) pa_nil))) pa_nil)))))))))))))  (pss_cons (ps_set (i := 10) sc_law.nd rfl (Or.inl rfl) (pe_callTy call_list_of rfl mg_list (by decide +kernel) (pa_cons (pv 4) pa_nil)))  (pss_cons (ps_if (PW.pt (pw_or (pt_not (pt_val (pe_def d__law_alike (hr.mono (by omega)) rfl (pa_cons (pe_def d_attempts (hr.mono (by omega)) rfl (pa_cons (pv 1) (pa_cons (pv 10) pa_nil))) (pa_cons (pv 5) pa_nil))))) (pw_or1 (pt_cmpR op_neD (pv 10) (pv 4) (nomark _))))) (pss_one (ps_ret pe_bl)) pss_nil)  (pss_cons (ps_expr (pe_bm0 PySem.F.plainAttrs_list PySem.F.slot_list_clear PySem.F.type_list_clear mt_clear (pv 10)))  (pss_cons (ps_set (i := 11) sc_law.nd rfl (Or.inl rfl) (pe_op op_sub (pe_op op_mod (pe_op op_mod (pe_op op_mul (pe_def d__law_at (hr.mono (by omega)) rfl (pa_cons (pv 0) (pa_cons pe_int pa_nil))) pe_int) pe_int) pe_int) pe_int))  (pss_cons (ps_if (pt_val (pv 6)) (pss_one (ps_set (i := 11) sc_law.nd rfl (Or.inl rfl) pe_int)) pss_nil)  (pss_cons (ps_if (PW.pt (pw_or (pt_not (pt_val (pe_def d__law_whole (hr.mono (by omega)) rfl (pa_cons (pe_fld (pv 1) rfl) pa_nil)))) (pw_or (pt_cmpR op_ne (pe_fld (pv 1) rfl) (pv 11) (nomark _)) (pw_or1 (pt_cmpR op_ne (pe_fld (pv 1) rfl) (pe_callTy call_int1 rfl mg_int (by decide +kernel) (pa_cons (pv 6) pa_nil)) (nomark _)))))) (pss_one (ps_ret pe_bl)) pss_nil)  (pss_cons (ps_if (pt_not (pt_val (pe_def d__law_goes_on (hr.mono (by omega)) rfl (pa_cons (pv 1) (pa_cons (pv 6) pa_nil))))) (pss_one (ps_ret pe_bl)) pss_nil)  (pss_one (ps_ret (pe_and (pe_cmpR op_eq (pe_fld (pv 2) rfl) pe_int (nomark _)) (pe_and (pe_cmpR op_eq (pe_fld (pv 2) rfl) pe_int (nomark _)) (pe_one (pe_def d__law_so (hr.mono (by omega)) rfl (pa_cons (pe_def d_attempts (hr.mono (by omega)) rfl (pa_cons (pv 2) (pa_cons (pe_lst (pa_cons pe_int pa_nil)) pa_nil))) (pa_cons (pe_lst (pa_cons pe_str pa_nil)) pa_nil))))))))))))))))))))))), ?_⟩
    have hu := hr.units
    walk_at "wp"
    refine ⟨a, ns, 0, rfl, hS, _, rfl, fun p px hp hpx nx => ?_⟩
    generalize hv0 : ns.getD 0 0 = v0
    have sn : Same H (upd (upd H px (.own p)) p (.ins C px [])) := fun b o e => by
      rw [upd_ne (ne_of_none e hp), upd_ne (ne_of_none e hpx)]; exact e
    refine ⟨p, px, 0, _, rfl, upd_same, fun d H1 hd S1 kp1 => ⟨rfl, ?_⟩⟩
    have s1 : Same H H1 := fun b o e => kp1 b o (sn b o e) (ne_of_none e hp)
    have hd0 : H d = none := sn.free hd
    intro p2 px2 hp2 hpx2 nx2
    have sn2 : Same H1 (upd (upd H1 px2 (.own p2)) p2 (.ins C px2 [])) := fun b o e => by
      rw [upd_ne (ne_of_none e hp2), upd_ne (ne_of_none e hpx2)]; exact e
    refine ⟨p2, px2, 1, 5, rfl, upd_same, fun d2 H2 hd2 S2 kp2 => ⟨rfl, ?_⟩⟩
    have s2 : Same H1 H2 := fun b o e => kp2 b o (sn2 b o e) (ne_of_none e hp2)
    have S12 := S1.same s2
    have hp20 : H p2 = none := s1.free hp2
    have hd20 : H d2 = none := s1.free (sn2.free hd2)
    obtain ⟨⟨dx1, h1⟩, hd1⟩ := id S1
    have npp : p ≠ p2 := ne_of_none h1 hp2
    have ndd : d ≠ d2 := ne_of_none hd1 (sn2.free hd2)
    refine ⟨a, ns, 1, rfl, (s1.trans s2).seq hS, ?_⟩
    refine ⟨a, ns, 2, rfl, (s1.trans s2).seq hS, _, rfl, ?_⟩
    generalize ns.getD 1 0 = v1
    generalize ns.getD 2 0 = v2
    refine ⟨p, d, p2, d2, _, _, v1, _, rfl, S12, S2, npp, ndd, rfl, rfl, rfl, by omega, fun ul us t' t2' H3 hus hul hul' hlen S3 S23 ok3 nt3 e1 e2 e3 e4 e5 e6 ok23 kp3 => ?_⟩
    have s3 : Same H H3 := fun b o e => kp3 b o (s2 _ _ (s1 _ _ e)) (ne_of_none e hp) (ne_of_none e hd0) (ne_of_none e hp20) (ne_of_none e hd20)
    have hul0 : H ul = none := (s1.trans s2).free hul
    obtain ⟨⟨dx3, h3⟩, hd3⟩ := id S3
    obtain ⟨⟨dx23, h23⟩, hd23⟩ := id S23
    have u1 : ul ≠ p := ne_of hul' h3 (by intro z; cases z)
    have u2 : ul ≠ d := ne_of hul' hd3 (by intro z; cases z)
    have u3 : ul ≠ p2 := ne_of hul' h23 (by intro z; cases z)
    have u4 : ul ≠ d2 := ne_of hul' hd23 (by intro z; cases z)
    obtain ⟨a1, a2⟩ := S3.apart S23
    refine ⟨dx3, _, h3, fl_put_up, put_up_one S3 fun bo H4 t4 S4 hc f4 => ?_⟩
    rcases hc with ⟨rfl, c2, rfl⟩ | ⟨_, ⟨y, c2⟩, _⟩
    case inr => rw [e3] at c2; cases c2
    refine ⟨true, rfl, iteF ?_⟩
    obtain ⟨⟨dx4, h4⟩, hd4⟩ := id S4
    refine ⟨dx4, _, h4, fl_put_up, put_up_one S4 fun bo H5 t5 S5 hc f5 => ?_⟩
    rcases hc with ⟨_, c3, _⟩ | ⟨rfl, _, rfl⟩
    case inl => cases c3
    refine ⟨false, rfl, iteF ?_⟩
    have S25 : ThAt C H5 p2 d2 t2' := (S23.fr f4 npp.symm a1 a2 ndd.symm).fr f5 npp.symm a1 a2 ndd.symm
    have hul5 := f5 _ _ (f4 _ _ hul' u1 u2) u1 u2
    have s5 : Same H H5 := fun b o e => f5 _ _ (f4 _ _ (s3 _ _ e) (ne_of_none e hp) (ne_of_none e hd0)) (ne_of_none e hp) (ne_of_none e hd0)
    have nt5 : noted { t' with waiting := some 77 } = us := nt3
    have ok5 : Ok { t' with waiting := some 77 } := ok3
    have ev : t'.version = 0 := e2
    generalize ht5 : ({ t' with waiting := some 77 } : Fb.T) = t5 at S5 nt5 ok5
    have w5 : t5.waiting = some 77 := by rw [← ht5]
    have v5 : t5.version = 0 := by rw [← ht5]; exact ev
    have val5 : t5.value = v0 * 48271 % 1031 % 9 - 4 := by rw [← ht5]; exact e1
    intro cl hcl du hdu
    have ncd : cl ≠ du := fun e => by rw [← e, upd_same] at hdu; cases hdu
    have hdu5 : H5 du = none := by rw [upd_ne ncd.symm] at hdu; exact hdu
    have s6 : Same H5 (upd (upd H5 cl (.lst [])) du (.lst [])) := ((Same.refl H5).new hcl).new hdu
    obtain ⟨cells, hcells, hclen⟩ := cut_ints ns (some 3) (some 150)
    refine ⟨a, ns.map V.int, rfl, (s5.trans s6).seq hS, fun sp hsp => ⟨sp, rfl, ⟨_, SqL.of upd_same⟩, ?_⟩⟩
    rw [hcells]
    have s7 : Same H5 (upd (upd (upd H5 cl (.lst [])) du (.lst [])) sp (.lst (cells.map V.int))) := s6.new hsp
    have n1 : cl ≠ sp := fun e => by rw [← e, upd_ne ncd, upd_same] at hsp; cases hsp
    have n2 : du ≠ sp := fun e => by rw [← e, upd_same] at hsp; cases hsp
    have k1 : (upd (upd (upd H5 cl (.lst [])) du (.lst [])) sp (.lst (cells.map V.int))) cl = some (.lst []) := by rw [upd_ne n1, upd_ne ncd, upd_same]
    have k2 : (upd (upd (upd H5 cl (.lst [])) du (.lst [])) sp (.lst (cells.map V.int))) du = some (.lst []) := by rw [upd_ne n2, upd_same]
    have k3 : (upd (upd (upd H5 cl (.lst [])) du (.lst [])) sp (.lst (cells.map V.int))) sp = some (.lst (cells.map V.int)) := upd_same
    generalize upd (upd (upd H5 cl (.lst [])) du (.lst [])) sp (.lst (cells.map V.int)) = H7 at s7 k1 k2 k3 ⊢
    have ul7 := s7 _ _ hul5
    have m1 : ul ≠ cl := ne_of_none hul5 hcl
    have m2 : ul ≠ du := ne_of_none hul5 hdu5
    refine for_gen (xs := cells.map V.int) (LawI H7 a p p2 ul cl du t5) ?_ ?_ ?_ ?_
    · exact ⟨_, _, _, _, _, [], false, [], rfl, k1, k2, .nil, rfl, rfl, fun b o e _ _ => e⟩
    · rintro i σ H8 _ ⟨x7, x8, x9, x10, x11, cs, dn, ys, rfl, h1, h2, h3, h4, h5, kp⟩
      exact Yields.list (SqL.of (kp _ _ k3 n1.symm n2.symm))
    · rintro i v σ H8 hv ⟨x7, x8, x9, x10, x11, cs, dn, ys, rfl, h1, h2, h3, h4, h5, kp⟩
      have hi : i < cells.length := by have := (List.getElem?_eq_some_iff.mp hv).1; rw [List.length_map] at this; exact this
      obtain ⟨z, _, rfl⟩ := mem_ints (List.mem_of_getElem? hv)
      have ul8 := kp _ _ ul7 m1 m2
      walk_at "wp"
      intro p1 hp1
      have t1 : Same H8 (upd H8 p1 (.lst [.int 0, .int 5])) := (Same.refl H8).new hp1
      refine ⟨p1, ul, [.int 0, .int 5], us.map V.int, rfl, rfl, upd_same, t1 _ _ ul8, small_of (by rw [List.length_map]; show 2 + us.length ≤ 1000; omega), fun p3 hp3 => ?_⟩
      have t2 : Same H8 (upd (upd H8 p1 (.lst [.int 0, .int 5])) p3 (.lst ([.int 0, .int 5] ++ us.map V.int))) := t1.new hp3
      have j3 : (upd (upd H8 p1 (.lst [.int 0, .int 5])) p3 (.lst ([.int 0, .int 5] ++ us.map V.int))) p3 = some (.lst ((0 :: 5 :: us).map V.int)) := upd_same
      generalize upd (upd H8 p1 (.lst [.int 0, .int 5])) p3 (.lst ([.int 0, .int 5] ++ us.map V.int)) = H9 at t2 j3 ⊢
      walk_at "wp"
      refine ⟨us.map V.int, Or.inl (SqL.of (t2 _ _ ul8)), ?_⟩
      rw [List.length_map]
      have hpos : (0 : Int) < 2 + (us.length : Int) := by omega
      obtain ⟨o, ho, _⟩ := atI_int (ns := 0 :: 5 :: us) (z := z * 48271 % 1039 % (2 + (us.length : Int))) (Int.emod_nonneg _ (by omega)) (by
        have := Int.emod_lt_of_pos (z * 48271 % 1039) hpos
        simp only [List.length_cons]
        omega)
      refine ⟨hpos, rIxL_of (SqL.of j3) ho ⟨_, rfl, Or.inl ⟨rfl, _, SqL.of (t2 _ _ h1)⟩, ?_⟩⟩
      generalize o + z * 48271 % 1033 % 3 - 1 = ck
      refine ⟨cl, _, _, rfl, rfl, t2 _ _ h1, by rw [List.length_map]; exact small1000 (by omega), ?_⟩
      have h9cl := t2 _ _ h1
      have ul10 : (upd H9 cl (.lst (cs.map V.int ++ [.int ck]))) ul = some (.lst (us.map V.int)) := by rw [upd_ne m1]; exact t2 _ _ ul8
      have du10 : (upd H9 cl (.lst (cs.map V.int ++ [.int ck]))) du = some (.lst ys) := by rw [upd_ne ncd.symm]; exact t2 _ _ h2
      have cl10 : (upd H9 cl (.lst (cs.map V.int ++ [.int ck]))) cl = some (.lst ((cs ++ [ck]).map V.int)) := by rw [upd_same, List.map_append]; rfl
      have kp10 : ∀ b o, H7 b = some o → b ≠ cl → b ≠ du → (upd H9 cl (.lst (cs.map V.int ++ [.int ck]))) b = some o := fun b o e e1 e2 => by rw [upd_ne e1]; exact t2 _ _ (kp _ _ e e1 e2)
      have tt10 : ∀ b xs, H8 b = some (.tup xs) → (upd H9 cl (.lst (cs.map V.int ++ [.int ck]))) b = some (.tup xs) := fun b xs e => by
        have e9 := t2 _ _ e
        rw [upd_ne (ne_of e9 h9cl (by intro z; cases z))]; exact e9
      generalize upd H9 cl (.lst (cs.map V.int ++ [.int ck])) = H10 at ul10 du10 cl10 kp10 tt10 ⊢
      simp only [sLc, tLcR]
      walk_at "wp"
      refine ⟨⟨_, SqL.of ul10⟩, fun D hD => lc_pure (xs := us.map V.int) rfl hD (fun H' h => Yields.list (h.seq (SqL.of ul10))) (by rw [List.length_map]; omega) (leV ck) id (fun x hx H' _ R r => ?_) (fun x hx _ H' _ R r => ?_) ?_⟩
      · obtain ⟨u, _, rfl⟩ := mem_ints hx
        walk_at "wp"
        exact r
      · walk_at "wp"
        exact r
      rw [filter_leV]
      have s11 : Same H10 (upd H10 D (.lst ((us.filter fun u => decide (ck ≤ u)).map V.int))) := (Same.refl H10).new hD
      have D11 : (upd H10 D (.lst ((us.filter fun u => decide (ck ≤ u)).map V.int))) D = some (.lst ((us.filter fun u => decide (ck ≤ u)).map V.int)) := upd_same
      generalize upd H10 D (.lst ((us.filter fun u => decide (ck ≤ u)).map V.int)) = H11 at s11 D11 ⊢
      have hh : heldO ck (noted t5) = maxL (us.filter fun u => decide (ck ≤ u)) := by rw [nt5]; rfl
      generalize hhl : us.filter (fun u => decide (ck ≤ u)) = hl' at D11 hh
      have y11 : Dhs H11 ys ((runA t5 cs).1.map ansD) := (h3.sameT tt10 (ans_noL _)).same s11.d
      have c11 := s11 _ _ cl10
      have d11 := s11 _ _ du10
      have k11 : ∀ b o, H7 b = some o → b ≠ cl → b ≠ du → H11 b = some o := fun b o e e1 e2 => s11 _ _ (kp10 b o e e1 e2)
      have ylen : ys.length < sizeLine := by
        rw [h3.length, List.length_map, runA_len, h5]
        exact small1000 (by omega)
      cases dn with
      | true =>
        walk_at "wp"
        refine ⟨Or.inl ⟨rfl, _, SqL.of d11⟩, du, _, _, rfl, rfl, d11, ylen, ?_⟩
        have h4' : (runA t5 cs).2 = done t5 77 := h4
        refine lawI_next c11 d11 y11 ?_ ?_ h5 k11 ncd
        · rw [h4', att_none rfl]; exact .str _
        · rw [h4', att_none rfl]; rfl
      | false =>
        have h4' : (runA t5 cs).2 = t5 := h4
        walk_at "wp"
        intro q1 hq1
        have s12 : Same H11 (upd H11 q1 (.lst [])) := (Same.refl H11).new hq1
        have g12 : (upd H11 q1 (.lst [])) q1 = some (.lst (([] : List Int).map V.int)) := upd_same
        generalize upd H11 q1 (.lst []) = H12 at s12 g12 ⊢
        refine ⟨_, _, dt_ints (SqL.of (s12 _ _ D11)), dt_ints (SqL.of g12), lay_list_ints _, lay_list_ints _, by rw [depth_list_ints, depth_list_ints]; omega, _, rfl, ?_⟩
        have c12 := s12 _ _ c11
        have d12 := s12 _ _ d11
        have k12 : ∀ b o, H7 b = some o → b ≠ cl → b ≠ du → H12 b = some o := fun b o e e1 e2 => s12 _ _ (k11 b o e e1 e2)
        have y12 := y11.same s12.d
        cases hl' with
        | nil =>
          have hN : heldO ck (noted t5) = none := hh
          refine iteT ?_
          refine ⟨Or.inl ⟨rfl, _, SqL.of d12⟩, fun q2 hq2 => ?_⟩
          have s13 : Same H12 (upd H12 q2 (.tup [.str "changed", .int 1])) := (Same.refl H12).new hq2
          refine ⟨du, _, _, rfl, rfl, s13 _ _ d12, ylen, ?_⟩
          refine lawI_next (s13 _ _ c12) (s13 _ _ d12) (y12.same s13.d) ?_ ?_ h5 (fun b o e e1 e2 => s13 _ _ (k12 b o e e1 e2)) ncd
          · rw [h4', att_done w5 hN, v5]
            exact .tup upd_same (.cons (.str _) (.cons (.int _) .nil))
          · rw [h4', att_done w5 hN]; rfl
        | cons u0 r0 =>
          refine iteF ?_
          refine ⟨Or.inl ⟨rfl, _, SqL.of d12⟩, u0 :: r0, SqL.of (s12 _ _ D11), (fun z => nomatch z), fun m hm1 hm2 q2 hq2 => ?_⟩
          have hN : heldO ck (noted t5) = some m := by rw [hh]; exact maxL_some hm1 hm2
          have s13 : Same H12 (upd H12 q2 (.tup [.str "waits", .int m])) := (Same.refl H12).new hq2
          refine ⟨du, _, _, rfl, rfl, s13 _ _ d12, ylen, ?_⟩
          refine lawI_next (s13 _ _ c12) (s13 _ _ d12) (y12.same s13.d) ?_ ?_ h5 (fun b o e e1 e2 => s13 _ _ (k12 b o e e1 e2)) ncd
          · rw [h4', att_held w5 hN]
            exact .tup upd_same (.cons (.str _) (.cons (.int _) .nil))
          · rw [h4', att_held w5 hN]; rfl
    · rintro σ H8 ⟨x7, x8, x9, x10, x11, cs, dn, ys, rfl, h1, h2, h3, h4, h5, kp⟩
      rw [List.length_map] at h5
      obtain ⟨⟨dx5, h5p⟩, hd5⟩ := id S5
      obtain ⟨⟨dx25, h25p⟩, hd25⟩ := id S25
      have z1 : ∀ {b : Addr} {o : HO}, H5 b = some o → H8 b = some o := fun e => kp _ _ (s7 _ _ e) (ne_of_none e hcl) (ne_of_none e hdu5)
      have S8 : ThAt C H8 p d t5 := ⟨⟨dx5, z1 h5p⟩, z1 hd5⟩
      have S28 : ThAt C H8 p2 d2 t2' := ⟨⟨dx25, z1 h25p⟩, z1 hd25⟩
      have s8 : Same H H8 := fun b o e => z1 (s5 _ _ e)
      walk_at "wp"
      refine ⟨cs.map V.int, Or.inl (SqL.of h1), fun lh hlh => ?_⟩
      have s9 : Same H8 (upd H8 lh (.lst (cs.map V.int))) := (Same.refl H8).new hlh
      have g9 : (upd H8 lh (.lst (cs.map V.int))) lh = some (.lst (cs.map V.int)) := upd_same
      generalize upd H8 lh (.lst (cs.map V.int)) = H9 at s9 g9 ⊢
      have S9 := S8.same s9
      obtain ⟨⟨dx9, h9p⟩, hd9⟩ := id S9
      have b1 : lh ≠ p := ne_of g9 h9p (by intro z; cases z)
      refine ⟨p, d, lh, t5, cs, rfl, S9, ok5, SqL.of g9, b1, by omega, fun l2 d' H10 hD10 S10 hdd' kp10 => ?_⟩
      have sd10 := sameD_keep h9p kp10
      have du9 := s9 _ _ h2
      have cl9 := s9 _ _ h1
      have du10 := (sd10 du).1 _ du9
      have cl10 := (sd10 cl).1 _ cl9
      have lh10 := (sd10 lh).1 _ g9
      refine ⟨l2, du, (runA t5 cs).1, rfl, hD10, .lst du10 ((h3.same s9.d).same sd10), by rw [runA_len]; omega, true, rfl, iteF ?_⟩
      refine ⟨_, _, dt_ints (SqL.of lh10), dt_ints (SqL.of cl10), lay_list_ints _, lay_list_ints _, by rw [depth_list_ints]; omega, _, rfl, ?_⟩
      rw [SeqAt.eqv_refl _ (lay_list_ints _)]
      refine iteF ⟨Or.inl ⟨rfl, _, SqL.of lh10⟩, lh, _, rfl, rfl, lh10, ?_⟩
      obtain ⟨⟨dx10, h10p⟩, hd10⟩ := id S10
      have b2 : lh ≠ d' := ne_of lh10 hd10 (by intro z; cases z)
      have b3 : lh ≠ p := b1
      have lh0 : H lh = none := s8.free hlh
      have S11 : ThAt C (upd H10 lh (.lst [])) p d' (runA t5 cs).2 := ⟨⟨dx10, by rw [upd_ne b3.symm]; exact h10p⟩, by rw [upd_ne b2.symm]; exact hd10⟩
      have s11 : Same H (upd H10 lh (.lst [])) := fun b o e => by
        rw [upd_ne (ne_of_none e lh0)]
        exact kp10 _ _ (s9 _ _ (s8 _ _ e)) (ne_of_none e hp)
      have S29 := S28.same s9
      obtain ⟨⟨dx29, h29p⟩, hd29⟩ := id S29
      obtain ⟨a3, a4⟩ := S9.apart S29
      have S211 : ThAt C (upd H10 lh (.lst [])) p2 d2 t2' := ⟨⟨dx29, by rw [upd_ne (ne_of h29p g9 (by intro z; cases z))]; exact kp10 _ _ h29p npp.symm⟩, by rw [upd_ne (ne_of hd29 g9 (by intro z; cases z))]; exact kp10 _ _ hd29 a4⟩
      have q1 : p2 ≠ d' ∧ d2 ≠ d' := by
        rcases hdd' with z | z
        · rw [z]; exact ⟨a3, ndd.symm⟩
        · exact ⟨ne_of_none h29p z, ne_of_none hd29 z⟩
      generalize upd H10 lh (.lst []) = H11 at S11 s11 S211 ⊢
      refine ⟨a, ns, 0, rfl, s11.seq hS, _, rfl, ?_⟩
      rw [hv0]
      obtain ⟨⟨dx11, h11p⟩, hd11⟩ := id S11
      have fin : ∀ (tX : Fb.T), (runA t5 cs).2 = tX → tX.value = (if dn = true then 77 else v0 * 48271 % 1031 % 9 - 4) ∧ tX.version = (if dn = true then 1 else 0) ∧ Ok tX ∧ (∀ u ∈ noted tX, u < 10 ^ 40) ∧ (dn = true → tX.waiting = none ∧ tX.version = 1) ∧ (dn = false → tX.waiting = some 77 ∧ tX.version = 0) := by
        intro tX eX
        rw [← eX, h4]
        cases dn with
        | true =>
          refine ⟨rfl, ?_, ⟨fun kv z => (nomatch z), Nat.zero_le _⟩, fun u z => (nomatch z), fun _ => ⟨rfl, ?_⟩, fun z => nomatch z⟩
          · show t5.version + 1 = 1
            rw [v5]; rfl
          · show t5.version + 1 = 1
            rw [v5]; rfl
        | false =>
          refine ⟨val5, v5, ok5, ?_, fun z => (nomatch z), fun _ => ⟨w5, v5⟩⟩
          show ∀ u ∈ noted t5, u < 10 ^ 40
          rw [nt5]
          exact hus
      generalize (runA t5 cs).2 = tX at fin S11 h11p hd11
      obtain ⟨f1', f2', f3', f4', f5', f6'⟩ := fin tX rfl
      simp only [sp_whole]
      cases dn
      all_goals
        simp only [↓reduceIte, Bool.false_eq_true] at f1' f2'
        walk_at "wp h11p T.cl T.n2 T.n3"
        refine iteNS f1' (iteNS f2' ?_)
        refine ⟨p, d', tX, _, rfl, S11, f3', f4', f5', f6', fun H12 kp12 => ?_⟩
        obtain ⟨⟨dx211, h211p⟩, hd211⟩ := id S211
        obtain ⟨a5, a6⟩ := S11.apart S211
        have S212 : ThAt C H12 p2 d2 t2' := ⟨⟨dx211, kp12 _ _ h211p npp.symm q1.1⟩, kp12 _ _ hd211 a6 q1.2⟩
        obtain ⟨⟨dx212, h212p⟩, hd212⟩ := id S212
        walk_at "wp h212p T.cl T.n2 T.n3"
        rw [decide_eq_true (show t2'.value = 5 from e4), decide_eq_true (show t2'.version = 0 from e5)]
        refine iteT (iteT fun r1 hr1 => ?_)
        have s13 : Same H12 (upd H12 r1 (.lst [.int 9])) := (Same.refl H12).new hr1
        have g13 : (upd H12 r1 (.lst [.int 9])) r1 = some (.lst (([9] : List Int).map V.int)) := upd_same
        generalize upd H12 r1 (.lst [.int 9]) = H13 at s13 g13 ⊢
        have S213 := S212.same s13
        obtain ⟨⟨dx213, h213p⟩, hd213⟩ := id S213
        refine ⟨p2, d2, r1, t2', [9], rfl, S213, ok23, SqL.of g13, ne_of g13 h213p (by intro z; cases z), by show 1 ≤ 900; decide, ?_⟩
        rw [run_idle (show t2'.waiting = none from e6)]
        intro l3 d3 H14 hD14 S14 _ kp14 r2 hr2
        have s15 : Same H14 (upd H14 r2 (.lst [.str "nothing"])) := (Same.refl H14).new hr2
        exact ⟨_, _, .list [.str "nothing"], rfl, hD14.same s15.d, .lst upd_same (.cons (.str _) .nil), (by show max 0 0 + 1 ≤ 1; decide), (by simp [lenOk, lensOk]), fun H15 _ => q H15⟩
/-! what the top has written, and the law's own head -/
theorem all_mk {l : PySem.W.OpenLaw} {h : Heap} {fa f_held_until f_quiet_until f_Thing___init__ f_Thing_lend f_Thing_take_back f_Thing_come_up f_Thing_put_up f_Thing_attempt f_Thing_noted_untils f_Thing_take_change f_attempts f__law_so f__law_whole f__law_at f__law_lent f__law_alike f__law_goes_on f_law C_Thing : Addr} (X : K.In h) (G : h.Ns mainGlobals mg) (hfa : mg "law" = some (.ref fa))
    {od_held_until an_held_until od_quiet_until an_quiet_until od_Thing___init__ an_Thing___init__ od_Thing_lend an_Thing_lend od_Thing_take_back an_Thing_take_back od_Thing_come_up an_Thing_come_up od_Thing_put_up an_Thing_put_up od_Thing_attempt an_Thing_attempt od_Thing_noted_untils an_Thing_noted_untils od_Thing_take_change an_Thing_take_change od_attempts an_attempts od__law_so an__law_so od__law_whole an__law_whole od__law_at an__law_at od__law_lent an__law_lent od__law_alike an__law_alike od__law_goes_on an__law_goes_on od_law an_law : Option Addr} {sl_held_until sl_quiet_until sl_Thing___init__ sl_Thing_lend sl_Thing_take_back sl_Thing_come_up sl_Thing_put_up sl_Thing_attempt sl_Thing_noted_untils sl_Thing_take_change sl_attempts sl__law_so sl__law_whole sl__law_at sl__law_lent sl__law_alike sl__law_goes_on sl_law : Array (Option Value)} {oc_held_until kV_held_until dc_held_until pm_held_until cd_held_until ct_held_until oc_quiet_until kV_quiet_until dc_quiet_until pm_quiet_until cd_quiet_until ct_quiet_until oc_Thing___init__ kV_Thing___init__ dc_Thing___init__ pm_Thing___init__ cd_Thing___init__ ct_Thing___init__ oc_Thing_lend kV_Thing_lend dc_Thing_lend pm_Thing_lend cd_Thing_lend ct_Thing_lend oc_Thing_take_back kV_Thing_take_back dc_Thing_take_back pm_Thing_take_back cd_Thing_take_back ct_Thing_take_back oc_Thing_come_up kV_Thing_come_up dc_Thing_come_up pm_Thing_come_up cd_Thing_come_up ct_Thing_come_up oc_Thing_put_up kV_Thing_put_up dc_Thing_put_up pm_Thing_put_up cd_Thing_put_up ct_Thing_put_up oc_Thing_attempt kV_Thing_attempt dc_Thing_attempt pm_Thing_attempt cd_Thing_attempt ct_Thing_attempt oc_Thing_noted_untils kV_Thing_noted_untils dc_Thing_noted_untils pm_Thing_noted_untils cd_Thing_noted_untils ct_Thing_noted_untils oc_Thing_take_change kV_Thing_take_change dc_Thing_take_change pm_Thing_take_change cd_Thing_take_change ct_Thing_take_change oc_attempts kV_attempts dc_attempts pm_attempts cd_attempts ct_attempts oc__law_so kV__law_so dc__law_so pm__law_so cd__law_so ct__law_so oc__law_whole kV__law_whole dc__law_whole pm__law_whole cd__law_whole ct__law_whole oc__law_at kV__law_at dc__law_at pm__law_at cd__law_at ct__law_at oc__law_lent kV__law_lent dc__law_lent pm__law_lent cd__law_lent ct__law_lent oc__law_alike kV__law_alike dc__law_alike pm__law_alike cd__law_alike ct__law_alike oc__law_goes_on kV__law_goes_on dc__law_goes_on pm__law_goes_on cd__law_goes_on ct__law_goes_on oc_law kV_law dc_law pm_law cd_law ct_law : Value}
    (a_Thing : PySem.W.nsIn K mainGlobals "Thing" = some (some (.ref C_Thing)))
    (pg_Thing : PySem.W.plainGet K C_Thing Str.empty = true)
    (hd_Thing : PySem.W.hasDictIn K C_Thing = true)
    (po_Thing : PySem.W.plainOver K C_Thing = true)
    (sa_Thing : PySem.W.findIn K (.ref C_Thing) "__setattr__" = some (some (.builtin "object.__setattr__")))
    (mk_Thing : PySem.W.makesIn K C_Thing = true)
    (kc_Thing : PySem.W.keepIn K (.ref C_Thing) = true)
    (na_Thing_keeper : PySem.W.findIn K (.ref C_Thing) "keeper" = some none)
    (na_Thing_value : PySem.W.findIn K (.ref C_Thing) "value" = some none)
    (na_Thing_version : PySem.W.findIn K (.ref C_Thing) "version" = some none)
    (na_Thing_notes : PySem.W.findIn K (.ref C_Thing) "notes" = some none)
    (na_Thing_quiet : PySem.W.findIn K (.ref C_Thing) "quiet" = some none)
    (na_Thing_waiting : PySem.W.findIn K (.ref C_Thing) "waiting" = some none)
    (a_held_until : PySem.W.nsIn K mainGlobals "held_until" = some (some (.ref f_held_until)))
    (l_held_until : K.lookup f_held_until = some ⟨oc_held_until, od_held_until, .func (PySem.W.fnOf "held_until" "held_until" (defArgs (top 2)) (defBody (top 2)) (defScope (top 2)) .none kV_held_until dc_held_until pm_held_until an_held_until cd_held_until ct_held_until), sl_held_until⟩)
    (c_held_until : PySem.W.codeIn K cd_held_until "held_until" = true)
    (k_held_until : PySem.W.keepIn K (.ref f_held_until) = true)
    (a_quiet_until : PySem.W.nsIn K mainGlobals "quiet_until" = some (some (.ref f_quiet_until)))
    (l_quiet_until : K.lookup f_quiet_until = some ⟨oc_quiet_until, od_quiet_until, .func (PySem.W.fnOf "quiet_until" "quiet_until" (defArgs (top 3)) (defBody (top 3)) (defScope (top 3)) .none kV_quiet_until dc_quiet_until pm_quiet_until an_quiet_until cd_quiet_until ct_quiet_until), sl_quiet_until⟩)
    (c_quiet_until : PySem.W.codeIn K cd_quiet_until "quiet_until" = true)
    (k_quiet_until : PySem.W.keepIn K (.ref f_quiet_until) = true)
    (a_Thing___init__ : PySem.W.findIn K (.ref C_Thing) "__init__" = some (some (.ref f_Thing___init__)))
    (i_Thing___init__ : PySem.W.isFn K (.ref f_Thing___init__) = true)
    (l_Thing___init__ : K.lookup f_Thing___init__ = some ⟨oc_Thing___init__, od_Thing___init__, .func (PySem.W.fnOf "__init__" "Thing.__init__" (defArgs (inClass (top 5) 0)) (defBody (inClass (top 5) 0)) (defScope (inClass (top 5) 0)) .none kV_Thing___init__ dc_Thing___init__ pm_Thing___init__ an_Thing___init__ cd_Thing___init__ ct_Thing___init__), sl_Thing___init__⟩)
    (c_Thing___init__ : PySem.W.codeIn K cd_Thing___init__ "Thing.__init__" = true)
    (k_Thing___init__ : PySem.W.keepIn K (.ref f_Thing___init__) = true)
    (a_Thing_lend : PySem.W.findIn K (.ref C_Thing) "lend" = some (some (.ref f_Thing_lend)))
    (i_Thing_lend : PySem.W.isFn K (.ref f_Thing_lend) = true)
    (l_Thing_lend : K.lookup f_Thing_lend = some ⟨oc_Thing_lend, od_Thing_lend, .func (PySem.W.fnOf "lend" "Thing.lend" (defArgs (inClass (top 5) 1)) (defBody (inClass (top 5) 1)) (defScope (inClass (top 5) 1)) .none kV_Thing_lend dc_Thing_lend pm_Thing_lend an_Thing_lend cd_Thing_lend ct_Thing_lend), sl_Thing_lend⟩)
    (c_Thing_lend : PySem.W.codeIn K cd_Thing_lend "Thing.lend" = true)
    (k_Thing_lend : PySem.W.keepIn K (.ref f_Thing_lend) = true)
    (a_Thing_take_back : PySem.W.findIn K (.ref C_Thing) "take_back" = some (some (.ref f_Thing_take_back)))
    (i_Thing_take_back : PySem.W.isFn K (.ref f_Thing_take_back) = true)
    (l_Thing_take_back : K.lookup f_Thing_take_back = some ⟨oc_Thing_take_back, od_Thing_take_back, .func (PySem.W.fnOf "take_back" "Thing.take_back" (defArgs (inClass (top 5) 2)) (defBody (inClass (top 5) 2)) (defScope (inClass (top 5) 2)) .none kV_Thing_take_back dc_Thing_take_back pm_Thing_take_back an_Thing_take_back cd_Thing_take_back ct_Thing_take_back), sl_Thing_take_back⟩)
    (c_Thing_take_back : PySem.W.codeIn K cd_Thing_take_back "Thing.take_back" = true)
    (k_Thing_take_back : PySem.W.keepIn K (.ref f_Thing_take_back) = true)
    (a_Thing_come_up : PySem.W.findIn K (.ref C_Thing) "come_up" = some (some (.ref f_Thing_come_up)))
    (i_Thing_come_up : PySem.W.isFn K (.ref f_Thing_come_up) = true)
    (l_Thing_come_up : K.lookup f_Thing_come_up = some ⟨oc_Thing_come_up, od_Thing_come_up, .func (PySem.W.fnOf "come_up" "Thing.come_up" (defArgs (inClass (top 5) 3)) (defBody (inClass (top 5) 3)) (defScope (inClass (top 5) 3)) .none kV_Thing_come_up dc_Thing_come_up pm_Thing_come_up an_Thing_come_up cd_Thing_come_up ct_Thing_come_up), sl_Thing_come_up⟩)
    (c_Thing_come_up : PySem.W.codeIn K cd_Thing_come_up "Thing.come_up" = true)
    (k_Thing_come_up : PySem.W.keepIn K (.ref f_Thing_come_up) = true)
    (a_Thing_put_up : PySem.W.findIn K (.ref C_Thing) "put_up" = some (some (.ref f_Thing_put_up)))
    (i_Thing_put_up : PySem.W.isFn K (.ref f_Thing_put_up) = true)
    (l_Thing_put_up : K.lookup f_Thing_put_up = some ⟨oc_Thing_put_up, od_Thing_put_up, .func (PySem.W.fnOf "put_up" "Thing.put_up" (defArgs (inClass (top 5) 5)) (defBody (inClass (top 5) 5)) (defScope (inClass (top 5) 5)) .none kV_Thing_put_up dc_Thing_put_up pm_Thing_put_up an_Thing_put_up cd_Thing_put_up ct_Thing_put_up), sl_Thing_put_up⟩)
    (c_Thing_put_up : PySem.W.codeIn K cd_Thing_put_up "Thing.put_up" = true)
    (k_Thing_put_up : PySem.W.keepIn K (.ref f_Thing_put_up) = true)
    (a_Thing_attempt : PySem.W.findIn K (.ref C_Thing) "attempt" = some (some (.ref f_Thing_attempt)))
    (i_Thing_attempt : PySem.W.isFn K (.ref f_Thing_attempt) = true)
    (l_Thing_attempt : K.lookup f_Thing_attempt = some ⟨oc_Thing_attempt, od_Thing_attempt, .func (PySem.W.fnOf "attempt" "Thing.attempt" (defArgs (inClass (top 5) 6)) (defBody (inClass (top 5) 6)) (defScope (inClass (top 5) 6)) .none kV_Thing_attempt dc_Thing_attempt pm_Thing_attempt an_Thing_attempt cd_Thing_attempt ct_Thing_attempt), sl_Thing_attempt⟩)
    (c_Thing_attempt : PySem.W.codeIn K cd_Thing_attempt "Thing.attempt" = true)
    (k_Thing_attempt : PySem.W.keepIn K (.ref f_Thing_attempt) = true)
    (a_Thing_noted_untils : PySem.W.findIn K (.ref C_Thing) "noted_untils" = some (some (.ref f_Thing_noted_untils)))
    (i_Thing_noted_untils : PySem.W.isFn K (.ref f_Thing_noted_untils) = true)
    (l_Thing_noted_untils : K.lookup f_Thing_noted_untils = some ⟨oc_Thing_noted_untils, od_Thing_noted_untils, .func (PySem.W.fnOf "noted_untils" "Thing.noted_untils" (defArgs (inClass (top 5) 7)) (defBody (inClass (top 5) 7)) (defScope (inClass (top 5) 7)) .none kV_Thing_noted_untils dc_Thing_noted_untils pm_Thing_noted_untils an_Thing_noted_untils cd_Thing_noted_untils ct_Thing_noted_untils), sl_Thing_noted_untils⟩)
    (c_Thing_noted_untils : PySem.W.codeIn K cd_Thing_noted_untils "Thing.noted_untils" = true)
    (k_Thing_noted_untils : PySem.W.keepIn K (.ref f_Thing_noted_untils) = true)
    (a_Thing_take_change : PySem.W.findIn K (.ref C_Thing) "take_change" = some (some (.ref f_Thing_take_change)))
    (i_Thing_take_change : PySem.W.isFn K (.ref f_Thing_take_change) = true)
    (l_Thing_take_change : K.lookup f_Thing_take_change = some ⟨oc_Thing_take_change, od_Thing_take_change, .func (PySem.W.fnOf "take_change" "Thing.take_change" (defArgs (inClass (top 5) 8)) (defBody (inClass (top 5) 8)) (defScope (inClass (top 5) 8)) .none kV_Thing_take_change dc_Thing_take_change pm_Thing_take_change an_Thing_take_change cd_Thing_take_change ct_Thing_take_change), sl_Thing_take_change⟩)
    (c_Thing_take_change : PySem.W.codeIn K cd_Thing_take_change "Thing.take_change" = true)
    (k_Thing_take_change : PySem.W.keepIn K (.ref f_Thing_take_change) = true)
    (a_attempts : PySem.W.nsIn K mainGlobals "attempts" = some (some (.ref f_attempts)))
    (l_attempts : K.lookup f_attempts = some ⟨oc_attempts, od_attempts, .func (PySem.W.fnOf "attempts" "attempts" (defArgs (top 6)) (defBody (top 6)) (defScope (top 6)) .none kV_attempts dc_attempts pm_attempts an_attempts cd_attempts ct_attempts), sl_attempts⟩)
    (c_attempts : PySem.W.codeIn K cd_attempts "attempts" = true)
    (k_attempts : PySem.W.keepIn K (.ref f_attempts) = true)
    (a__law_so : PySem.W.nsIn K mainGlobals "_law_so" = some (some (.ref f__law_so)))
    (l__law_so : K.lookup f__law_so = some ⟨oc__law_so, od__law_so, .func (PySem.W.fnOf "_law_so" "_law_so" (defArgs (top 8)) (defBody (top 8)) (defScope (top 8)) .none kV__law_so dc__law_so pm__law_so an__law_so cd__law_so ct__law_so), sl__law_so⟩)
    (c__law_so : PySem.W.codeIn K cd__law_so "_law_so" = true)
    (k__law_so : PySem.W.keepIn K (.ref f__law_so) = true)
    (a__law_whole : PySem.W.nsIn K mainGlobals "_law_whole" = some (some (.ref f__law_whole)))
    (l__law_whole : K.lookup f__law_whole = some ⟨oc__law_whole, od__law_whole, .func (PySem.W.fnOf "_law_whole" "_law_whole" (defArgs (top 9)) (defBody (top 9)) (defScope (top 9)) .none kV__law_whole dc__law_whole pm__law_whole an__law_whole cd__law_whole ct__law_whole), sl__law_whole⟩)
    (c__law_whole : PySem.W.codeIn K cd__law_whole "_law_whole" = true)
    (k__law_whole : PySem.W.keepIn K (.ref f__law_whole) = true)
    (a__law_at : PySem.W.nsIn K mainGlobals "_law_at" = some (some (.ref f__law_at)))
    (l__law_at : K.lookup f__law_at = some ⟨oc__law_at, od__law_at, .func (PySem.W.fnOf "_law_at" "_law_at" (defArgs (top 10)) (defBody (top 10)) (defScope (top 10)) .none kV__law_at dc__law_at pm__law_at an__law_at cd__law_at ct__law_at), sl__law_at⟩)
    (c__law_at : PySem.W.codeIn K cd__law_at "_law_at" = true)
    (k__law_at : PySem.W.keepIn K (.ref f__law_at) = true)
    (a__law_lent : PySem.W.nsIn K mainGlobals "_law_lent" = some (some (.ref f__law_lent)))
    (l__law_lent : K.lookup f__law_lent = some ⟨oc__law_lent, od__law_lent, .func (PySem.W.fnOf "_law_lent" "_law_lent" (defArgs (top 11)) (defBody (top 11)) (defScope (top 11)) .none kV__law_lent dc__law_lent pm__law_lent an__law_lent cd__law_lent ct__law_lent), sl__law_lent⟩)
    (c__law_lent : PySem.W.codeIn K cd__law_lent "_law_lent" = true)
    (k__law_lent : PySem.W.keepIn K (.ref f__law_lent) = true)
    (a__law_alike : PySem.W.nsIn K mainGlobals "_law_alike" = some (some (.ref f__law_alike)))
    (l__law_alike : K.lookup f__law_alike = some ⟨oc__law_alike, od__law_alike, .func (PySem.W.fnOf "_law_alike" "_law_alike" (defArgs (top 12)) (defBody (top 12)) (defScope (top 12)) .none kV__law_alike dc__law_alike pm__law_alike an__law_alike cd__law_alike ct__law_alike), sl__law_alike⟩)
    (c__law_alike : PySem.W.codeIn K cd__law_alike "_law_alike" = true)
    (k__law_alike : PySem.W.keepIn K (.ref f__law_alike) = true)
    (a__law_goes_on : PySem.W.nsIn K mainGlobals "_law_goes_on" = some (some (.ref f__law_goes_on)))
    (l__law_goes_on : K.lookup f__law_goes_on = some ⟨oc__law_goes_on, od__law_goes_on, .func (PySem.W.fnOf "_law_goes_on" "_law_goes_on" (defArgs (top 13)) (defBody (top 13)) (defScope (top 13)) .none kV__law_goes_on dc__law_goes_on pm__law_goes_on an__law_goes_on cd__law_goes_on ct__law_goes_on), sl__law_goes_on⟩)
    (c__law_goes_on : PySem.W.codeIn K cd__law_goes_on "_law_goes_on" = true)
    (k__law_goes_on : PySem.W.keepIn K (.ref f__law_goes_on) = true)
    (a_law : PySem.W.nsIn K mainGlobals "law" = some (some (.ref f_law)))
    (l_law : K.lookup f_law = some ⟨oc_law, od_law, .func (PySem.W.fnOf "law" "law" (defArgs (top 14)) (defBody (top 14)) (defScope (top 14)) .none kV_law dc_law pm_law an_law cd_law ct_law), sl_law⟩)
    (c_law : PySem.W.codeIn K cd_law "law" = true)
    (k_law : PySem.W.keepIn K (.ref f_law) = true)
    (n_bool : PySem.W.nsIn K mainGlobals "bool" = some none)
    (n_dict : PySem.W.nsIn K mainGlobals "dict" = some none)
    (n_int : PySem.W.nsIn K mainGlobals "int" = some none)
    (n_isinstance : PySem.W.nsIn K mainGlobals "isinstance" = some none)
    (n_len : PySem.W.nsIn K mainGlobals "len" = some none)
    (n_list : PySem.W.nsIn K mainGlobals "list" = some none)
    (n_max : PySem.W.nsIn K mainGlobals "max" = some none)
    (n_range : PySem.W.nsIn K mainGlobals "range" = some none)
    (n_str : PySem.W.nsIn K mainGlobals "str" = some none)
    (n_tuple : PySem.W.nsIn K mainGlobals "tuple" = some none) :
    ∃ fd : FuncData, (∀ (s : Shared) (v : Value), BindsTo s fd ⟨[v], []⟩ [("_law_script", v)]) ∧ ∀ base : Heap, K.In base → base.Ns mainGlobals mg → FnOk l.prog w K mg base CX0 5 fa fd ["_law_script"] (sp_law K) := by
  have e := hfa.symm.trans (PySem.W.mg_of X G a_law)
  cases e
  have F_held_until := fun_mk (st := top 2) l_held_until c_held_until k_held_until
  have B_held_until := F_held_until.binds (ps := ["clock", "untils"]) fun _ _ _ _ _ _ us hl => match us, hl with | [_, _], _ => rfl
  have F_quiet_until := fun_mk (st := top 3) l_quiet_until c_quiet_until k_quiet_until
  have B_quiet_until := F_quiet_until.binds (ps := ["clock", "length", "bound"]) fun _ _ _ _ _ _ us hl => match us, hl with | [_, _, _], _ => rfl
  have F_Thing___init__ := fun_mk (st := inClass (top 5) 0) l_Thing___init__ c_Thing___init__ k_Thing___init__
  have B_Thing___init__ := F_Thing___init__.binds (ps := ["self", "keeper", "value"]) fun _ _ _ _ _ _ us hl => match us, hl with | [_, _, _], _ => rfl
  have F_Thing_lend := fun_mk (st := inClass (top 5) 1) l_Thing_lend c_Thing_lend k_Thing_lend
  have B_Thing_lend := F_Thing_lend.binds (ps := ["self", "desk", "until"]) fun _ _ _ _ _ _ us hl => match us, hl with | [_, _, _], _ => rfl
  have F_Thing_take_back := fun_mk (st := inClass (top 5) 2) l_Thing_take_back c_Thing_take_back k_Thing_take_back
  have B_Thing_take_back := F_Thing_take_back.binds (ps := ["self", "desk"]) fun _ _ _ _ _ _ us hl => match us, hl with | [_, _], _ => rfl
  have F_Thing_come_up := fun_mk (st := inClass (top 5) 3) l_Thing_come_up c_Thing_come_up k_Thing_come_up
  have B_Thing_come_up := F_Thing_come_up.binds (ps := ["self", "clock", "length", "bound"]) fun _ _ _ _ _ _ us hl => match us, hl with | [_, _, _, _], _ => rfl
  have F_Thing_put_up := fun_mk (st := inClass (top 5) 5) l_Thing_put_up c_Thing_put_up k_Thing_put_up
  have B_Thing_put_up := F_Thing_put_up.binds (ps := ["self", "value"]) fun _ _ _ _ _ _ us hl => match us, hl with | [_, _], _ => rfl
  have F_Thing_attempt := fun_mk (st := inClass (top 5) 6) l_Thing_attempt c_Thing_attempt k_Thing_attempt
  have B_Thing_attempt := F_Thing_attempt.binds (ps := ["self", "clock"]) fun _ _ _ _ _ _ us hl => match us, hl with | [_, _], _ => rfl
  have F_Thing_noted_untils := fun_mk (st := inClass (top 5) 7) l_Thing_noted_untils c_Thing_noted_untils k_Thing_noted_untils
  have B_Thing_noted_untils := F_Thing_noted_untils.binds (ps := ["self"]) fun _ _ _ _ _ _ us hl => match us, hl with | [_], _ => rfl
  have F_Thing_take_change := fun_mk (st := inClass (top 5) 8) l_Thing_take_change c_Thing_take_change k_Thing_take_change
  have B_Thing_take_change := F_Thing_take_change.binds (ps := ["self"]) fun _ _ _ _ _ _ us hl => match us, hl with | [_], _ => rfl
  have F_attempts := fun_mk (st := top 6) l_attempts c_attempts k_attempts
  have B_attempts := F_attempts.binds (ps := ["thing", "clocks"]) fun _ _ _ _ _ _ us hl => match us, hl with | [_, _], _ => rfl
  have F__law_so := fun_mk (st := top 8) l__law_so c__law_so k__law_so
  have B__law_so := F__law_so.binds (ps := ["_law_found", "_law_meant"]) fun _ _ _ _ _ _ us hl => match us, hl with | [_, _], _ => rfl
  have F__law_whole := fun_mk (st := top 9) l__law_whole c__law_whole k__law_whole
  have B__law_whole := F__law_whole.binds (ps := ["_law_found"]) fun _ _ _ _ _ _ us hl => match us, hl with | [_], _ => rfl
  have F__law_at := fun_mk (st := top 10) l__law_at c__law_at k__law_at
  have B__law_at := F__law_at.binds (ps := ["_law_script", "_law_k"]) fun _ _ _ _ _ _ us hl => match us, hl with | [_, _], _ => rfl
  have F__law_lent := fun_mk (st := top 11) l__law_lent c__law_lent k__law_lent
  have B__law_lent := F__law_lent.binds (ps := ["_law_one", "_law_other", "_law_cell", "_law_bound"]) fun _ _ _ _ _ _ us hl => match us, hl with | [_, _, _, _], _ => rfl
  have F__law_alike := fun_mk (st := top 12) l__law_alike c__law_alike k__law_alike
  have B__law_alike := F__law_alike.binds (ps := ["_law_found", "_law_due"]) fun _ _ _ _ _ _ us hl => match us, hl with | [_, _], _ => rfl
  have F__law_goes_on := fun_mk (st := top 13) l__law_goes_on c__law_goes_on k__law_goes_on
  have B__law_goes_on := F__law_goes_on.binds (ps := ["_law_one", "_law_done"]) fun _ _ _ _ _ _ us hl => match us, hl with | [_, _], _ => rfl
  have F_law := fun_mk (st := top 14) l_law c_law k_law
  have B_law := F_law.binds (ps := ["_law_script"]) fun _ _ _ _ _ _ us hl => match us, hl with | [_], _ => rfl
  refine ⟨PySem.W.fnOf "law" "law" (defArgs (top 14)) (defBody (top 14)) (defScope (top 14)) .none kV_law dc_law pm_law an_law cd_law ct_law, fun s v => .of_eq rfl, fun base _ _ => ?_⟩
  have m_max := PySem.W.mg_none_of X G n_max
  have m_list := PySem.W.mg_none_of X G n_list
  have m_len := PySem.W.mg_none_of X G n_len
  have m_range := PySem.W.mg_none_of X G n_range
  have m_int := PySem.W.mg_none_of X G n_int
  have m_bool := PySem.W.mg_none_of X G n_bool
  have m_str := PySem.W.mg_none_of X G n_str
  have m_dict := PySem.W.mg_none_of X G n_dict
  have m_tuple := PySem.W.mg_none_of X G n_tuple
  have m_isi := PySem.W.mg_none_of X G n_isinstance
  have T : Txt K C_Thing := ⟨⟨pg_Thing, hd_Thing, po_Thing, sa_Thing⟩, na_Thing_keeper, na_Thing_value, na_Thing_version, na_Thing_notes, na_Thing_quiet, na_Thing_waiting⟩
  have d_held_until : Def l.prog w K mg base "held_until" 1 ["clock", "untils"] (sp_held K) := ⟨_, _, PySem.W.mg_of X G a_held_until, k_held_until, B_held_until, ok_held_until m_max F_held_until⟩
  have d_quiet_until : Def l.prog w K mg base "quiet_until" 1 ["clock", "length", "bound"] sp_quiet_until := ⟨_, _, PySem.W.mg_of X G a_quiet_until, k_quiet_until, B_quiet_until, ok_quiet_until F_quiet_until⟩
  have c_Thing : CDef l.prog w K mg base "Thing" C_Thing 1 ["self", "keeper", "value"] (sp_init C_Thing) := ⟨PySem.W.mg_of X G a_Thing, _, _, ⟨mk_Thing, a_Thing___init__, i_Thing___init__, kc_Thing⟩, B_Thing___init__, ok_init T F_Thing___init__⟩
  have d_lend : MDef l.prog w K mg base C_Thing "lend" 1 ["self", "desk", "until"] (sp_lend C_Thing) := ⟨T.cl, _, _, ⟨a_Thing_lend, i_Thing_lend, k_Thing_lend⟩, B_Thing_lend, ok_lend T F_Thing_lend⟩
  have d_take_back : MDef l.prog w K mg base C_Thing "take_back" 1 ["self", "desk"] (sp_take_back C_Thing) := ⟨T.cl, _, _, ⟨a_Thing_take_back, i_Thing_take_back, k_Thing_take_back⟩, B_Thing_take_back, ok_take_back T F_Thing_take_back⟩
  have d_come_up : MDef l.prog w K mg base C_Thing "come_up" 2 ["self", "clock", "length", "bound"] (sp_come_up C_Thing) := ⟨T.cl, _, _, ⟨a_Thing_come_up, i_Thing_come_up, k_Thing_come_up⟩, B_Thing_come_up, ok_come_up T d_quiet_until F_Thing_come_up⟩
  have d_put_up : MDef l.prog w K mg base C_Thing "put_up" 1 ["self", "value"] (sp_put_up C_Thing) := ⟨T.cl, _, _, ⟨a_Thing_put_up, i_Thing_put_up, k_Thing_put_up⟩, B_Thing_put_up, ok_put_up T F_Thing_put_up⟩
  have d_noted : MDef l.prog w K mg base C_Thing "noted_untils" 1 ["self"] (sp_noted C_Thing) := ⟨T.cl, _, _, ⟨a_Thing_noted_untils, i_Thing_noted_untils, k_Thing_noted_untils⟩, B_Thing_noted_untils, ok_noted T m_list F_Thing_noted_untils⟩
  have d_take_change : MDef l.prog w K mg base C_Thing "take_change" 1 ["self"] (sp_take_change C_Thing) := ⟨T.cl, _, _, ⟨a_Thing_take_change, i_Thing_take_change, k_Thing_take_change⟩, B_Thing_take_change, ok_take_change T F_Thing_take_change⟩
  have d_attempt : MDef l.prog w K mg base C_Thing "attempt" 2 ["self", "clock"] (sp_attempt C_Thing) := ⟨T.cl, _, _, ⟨a_Thing_attempt, i_Thing_attempt, k_Thing_attempt⟩, B_Thing_attempt, ok_attempt T d_held_until d_noted d_take_change F_Thing_attempt⟩
  have d_attempts : Def l.prog w K mg base "attempts" 3 ["thing", "clocks"] (sp_attempts K C_Thing) := ⟨_, _, PySem.W.mg_of X G a_attempts, k_attempts, B_attempts, ok_attempts T d_attempt F_attempts⟩
  have d_whole : Def l.prog w K mg base "_law_whole" 1 ["_law_found"] sp_whole := ⟨_, _, PySem.W.mg_of X G a__law_whole, k__law_whole, B__law_whole, ok_law_whole m_isi m_int m_bool F__law_whole⟩
  have d_at : Def l.prog w K mg base "_law_at" 1 ["_law_script", "_law_k"] (sp_at K) := ⟨_, _, PySem.W.mg_of X G a__law_at, k__law_at, B__law_at, ok_at m_len F__law_at⟩
  have d_so0 : Def l.prog w K mg base "_law_so" 0 ["_law_found", "_law_meant"] (sp_so' K 0) := ⟨_, _, PySem.W.mg_of X G a__law_so, k__law_so, B__law_so, ⟨fun _ _ _ _ z => z.elim, fun _ _ _ _ _ _ _ _ _ _ _ _ _ z => z.elim⟩⟩
  have d_so1 : Def l.prog w K mg base "_law_so" 1 ["_law_found", "_law_meant"] (sp_so K 0) := ⟨_, _, PySem.W.mg_of X G a__law_so, k__law_so, B__law_so, ok_so m_isi m_int m_bool m_str m_dict m_tuple m_list m_len m_range d_so0 F__law_so⟩
  have d_so2 : Def l.prog w K mg base "_law_so" 2 ["_law_found", "_law_meant"] (sp_so K 1) := ⟨_, _, PySem.W.mg_of X G a__law_so, k__law_so, B__law_so, ok_so (n := 1) m_isi m_int m_bool m_str m_dict m_tuple m_list m_len m_range d_so1 F__law_so⟩
  have d_lent : Def l.prog w K mg base "_law_lent" 3 ["_law_one", "_law_other", "_law_cell", "_law_bound"] (sp_lent C_Thing) := ⟨_, _, PySem.W.mg_of X G a__law_lent, k__law_lent, B__law_lent, ok_lent T m_range d_lend d_take_back d_come_up F__law_lent⟩
  have d_alike : Def l.prog w K mg base "_law_alike" 2 ["_law_found", "_law_due"] sp_alike := ⟨_, _, PySem.W.mg_of X G a__law_alike, k__law_alike, B__law_alike, ok_alike m_isi m_str m_tuple m_list m_len m_range d_whole F__law_alike⟩
  have d_goes_on : Def l.prog w K mg base "_law_goes_on" 4 ["_law_one", "_law_done"] (sp_goes_on C_Thing) := ⟨_, _, PySem.W.mg_of X G a__law_goes_on, k__law_goes_on, B__law_goes_on, ok_goes_on T m_int d_so1 d_alike d_attempts d_put_up F__law_goes_on⟩
  exact ok_law T m_len m_int m_list m_max c_Thing d_at d_lent d_put_up d_alike d_attempts d_whole d_goes_on d_so2 F_law
theorem walk {l : PySem.W.OpenLaw} {q : Program} {loose : List Str} {XP : (Str → Option Value) → Heap → Prop} {YP : World → Heap → Prop} {d : DefRec} {K : Params → PySem.W.Frag} (hn : l.most = some 63) (hdf : d.params.defaults = [])
    (hY : ∀ (w : World) (h : Heap), YP w h → (K w.params).In h)
    (F : ∀ (w : World) (mg : Str → Option Value) (fa : Addr) (h : Heap), (K w.params).In h → h.Ns mainGlobals mg → mg d.name = some (.ref fa) →
      ∃ fd : FuncData, (∀ (s : Shared) (u : Value), BindsTo s fd ⟨[u], []⟩ [("_law_script", u)]) ∧ ∀ base : Heap, (K w.params).In base → base.Ns mainGlobals mg → FnOk l.prog w (K w.params) mg base CX0 5 fa fd ["_law_script"] (sp_law (K w.params))) :
    PySem.W.WalkO q loose XP YP l.row.toRowW d [] (fun f vs => PySem.call f vs) :=
  L2.walk_of (n := 63) (k := 5) (x := "_law_script") (CX := fun _ => CX0) (sp := fun w => sp_law (K w.params)) hn (by decide) hdf ⟨rfl, by decide, by decide⟩ hY F (fun _ _ a ns hl _ hS => ⟨a, ns, rfl, hS, hl, fun _ => rfl⟩) fun _ _ _ _ _ z => z
end
end Fb
open PySem PySem.W PyProof.Rows
set_option maxRecDepth 100000 in
set_option maxHeartbeats 0 in
theorem PySem.Challenge.cw_freshbook_k06_attempts_holds : PySem.Challenge.rw_freshbook_k06_attempts.Holds := by
  w_on; o_law; k_head; (case hw => w_witness2)
  k_fill
  refine Fb.walk (l := PySem.Challenge.rw_freshbook_k06_attempts) rfl rfl (fun w h Y => PySem.W.kIn_of Y) ?F
  case F =>
    intro w mg fa h KX G hmg
    refine' Fb.all_mk KX G hmg ?a_Thing ?pg_Thing ?hd_Thing ?po_Thing ?sa_Thing ?mk_Thing ?kc_Thing ?na_Thing_keeper ?na_Thing_value ?na_Thing_version ?na_Thing_notes ?na_Thing_quiet ?na_Thing_waiting ?a_held_until ?l_held_until ?c_held_until ?k_held_until ?a_quiet_until ?l_quiet_until ?c_quiet_until ?k_quiet_until ?a_Thing___init__ ?i_Thing___init__ ?l_Thing___init__ ?c_Thing___init__ ?k_Thing___init__ ?a_Thing_lend ?i_Thing_lend ?l_Thing_lend ?c_Thing_lend ?k_Thing_lend ?a_Thing_take_back ?i_Thing_take_back ?l_Thing_take_back ?c_Thing_take_back ?k_Thing_take_back ?a_Thing_come_up ?i_Thing_come_up ?l_Thing_come_up ?c_Thing_come_up ?k_Thing_come_up ?a_Thing_put_up ?i_Thing_put_up ?l_Thing_put_up ?c_Thing_put_up ?k_Thing_put_up ?a_Thing_attempt ?i_Thing_attempt ?l_Thing_attempt ?c_Thing_attempt ?k_Thing_attempt ?a_Thing_noted_untils ?i_Thing_noted_untils ?l_Thing_noted_untils ?c_Thing_noted_untils ?k_Thing_noted_untils ?a_Thing_take_change ?i_Thing_take_change ?l_Thing_take_change ?c_Thing_take_change ?k_Thing_take_change ?a_attempts ?l_attempts ?c_attempts ?k_attempts ?a__law_so ?l__law_so ?c__law_so ?k__law_so ?a__law_whole ?l__law_whole ?c__law_whole ?k__law_whole ?a__law_at ?l__law_at ?c__law_at ?k__law_at ?a__law_lent ?l__law_lent ?c__law_lent ?k__law_lent ?a__law_alike ?l__law_alike ?c__law_alike ?k__law_alike ?a__law_goes_on ?l__law_goes_on ?c__law_goes_on ?k__law_goes_on ?a_law ?l_law ?c_law ?k_law ?n_bool ?n_dict ?n_int ?n_isinstance ?n_len ?n_list ?n_max ?n_range ?n_str ?n_tuple
    (case a_Thing => k_is)
    (case pg_Thing => k_is)
    (case hd_Thing => k_is)
    (case po_Thing => k_is)
    (case sa_Thing => k_is)
    (case mk_Thing => k_is)
    (case kc_Thing => k_is)
    (case na_Thing_keeper => k_is)
    (case na_Thing_value => k_is)
    (case na_Thing_version => k_is)
    (case na_Thing_notes => k_is)
    (case na_Thing_quiet => k_is)
    (case na_Thing_waiting => k_is)
    (case a_held_until => k_is)
    (case l_held_until => k_is)
    (case c_held_until => k_is)
    (case k_held_until => k_is)
    (case a_quiet_until => k_is)
    (case l_quiet_until => k_is)
    (case c_quiet_until => k_is)
    (case k_quiet_until => k_is)
    (case a_Thing___init__ => k_is)
    (case i_Thing___init__ => k_is)
    (case l_Thing___init__ => k_is)
    (case c_Thing___init__ => k_is)
    (case k_Thing___init__ => k_is)
    (case a_Thing_lend => k_is)
    (case i_Thing_lend => k_is)
    (case l_Thing_lend => k_is)
    (case c_Thing_lend => k_is)
    (case k_Thing_lend => k_is)
    (case a_Thing_take_back => k_is)
    (case i_Thing_take_back => k_is)
    (case l_Thing_take_back => k_is)
    (case c_Thing_take_back => k_is)
    (case k_Thing_take_back => k_is)
    (case a_Thing_come_up => k_is)
    (case i_Thing_come_up => k_is)
    (case l_Thing_come_up => k_is)
    (case c_Thing_come_up => k_is)
    (case k_Thing_come_up => k_is)
    (case a_Thing_put_up => k_is)
    (case i_Thing_put_up => k_is)
    (case l_Thing_put_up => k_is)
    (case c_Thing_put_up => k_is)
    (case k_Thing_put_up => k_is)
    (case a_Thing_attempt => k_is)
    (case i_Thing_attempt => k_is)
    (case l_Thing_attempt => k_is)
    (case c_Thing_attempt => k_is)
    (case k_Thing_attempt => k_is)
    (case a_Thing_noted_untils => k_is)
    (case i_Thing_noted_untils => k_is)
    (case l_Thing_noted_untils => k_is)
    (case c_Thing_noted_untils => k_is)
    (case k_Thing_noted_untils => k_is)
    (case a_Thing_take_change => k_is)
    (case i_Thing_take_change => k_is)
    (case l_Thing_take_change => k_is)
    (case c_Thing_take_change => k_is)
    (case k_Thing_take_change => k_is)
    (case a_attempts => k_is)
    (case l_attempts => k_is)
    (case c_attempts => k_is)
    (case k_attempts => k_is)
    (case a__law_so => k_is)
    (case l__law_so => k_is)
    (case c__law_so => k_is)
    (case k__law_so => k_is)
    (case a__law_whole => k_is)
    (case l__law_whole => k_is)
    (case c__law_whole => k_is)
    (case k__law_whole => k_is)
    (case a__law_at => k_is)
    (case l__law_at => k_is)
    (case c__law_at => k_is)
    (case k__law_at => k_is)
    (case a__law_lent => k_is)
    (case l__law_lent => k_is)
    (case c__law_lent => k_is)
    (case k__law_lent => k_is)
    (case a__law_alike => k_is)
    (case l__law_alike => k_is)
    (case c__law_alike => k_is)
    (case k__law_alike => k_is)
    (case a__law_goes_on => k_is)
    (case l__law_goes_on => k_is)
    (case c__law_goes_on => k_is)
    (case k__law_goes_on => k_is)
    (case a_law => k_is)
    (case l_law => k_is)
    (case c_law => k_is)
    (case k_law => k_is)
    (case n_bool => k_is)
    (case n_dict => k_is)
    (case n_int => k_is)
    (case n_isinstance => k_is)
    (case n_len => k_is)
    (case n_list => k_is)
    (case n_max => k_is)
    (case n_range => k_is)
    (case n_str => k_is)
    (case n_tuple => k_is)

end
