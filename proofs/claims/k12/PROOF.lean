import PyProof.Rows.All
import Wide.All
import OpenK.AllK
import Wide.FinOn
import Lean
import PyProof.EqAt
import PyProof.EqKinds
import PyProof.TupleCall
import OpenK.KRaise
import OpenK.KOwn
import KE.KTryMore
import PyProof.ExcBaseAll.ValueError
import PyProof.DictWalks
import KE.KDictSum
import PyProof.Rows.SortStr
import KE.KIsAll
import PySem.Str
import PyProof.Rows.StrSplitCount
import PyProof.Rows.ReprOcc
import KE.RegKTryMore
import PySem.Challenge.RW_freshbook_k12_things_on_lines
set_option Elab.async false
set_option linter.all false
set_option maxRecDepth 100000
/-! THE HAND LAYER, for ints, bools, texts, own classes, LISTS and tuples (index, slices, in, append, pop ..), calls, loops. Paste it whole ahead of your own text; what your proof does not reach may be deleted. -/
namespace L2
open PySem PySem.Spec PyProof.Rows

/-- a key: an int or a str -/
abbrev Key := Sum Int Str
def keyIs : Key → Value → Bool
  | .inl k, v => Value.isInt k v
  | .inr x, v => Value.isStrOf x v
def keyH (w : World) : Key → Int
  | .inl k => hashInt k
  | .inr x => hashStr w x
theorem keyIs_shape : ∀ {k : Key} {v : Value}, keyIs k v = true → (∃ i t, k = Sum.inl i ∧ v = Value.int i t) ∨ (∃ x t, k = Sum.inr x ∧ v = Value.str x t)
  | .inl i, v, h => by
    obtain ⟨t, e⟩ := Value.isInt_shape (k := i) (v := v) h
    exact .inl ⟨i, t, rfl, e⟩
  | .inr x, v, h => by
    obtain ⟨t, e⟩ := Value.isStrOf_shape (x := x) (v := v) h
    exact .inr ⟨x, t, rfl, e⟩
theorem keyIs_int (i : Int) (t : Tok) : keyIs (.inl i) (.int i t) = true := by simp [keyIs, Value.isInt]
theorem keyIs_str (x : Str) (t : Tok) : keyIs (.inr x) (.str x t) = true := by simp [keyIs, Value.isStrOf]
theorem key_ll (a b : Int) : decide ((Sum.inl a : Key) = Sum.inl b) = (a == b) := by
  by_cases e : a = b
  · subst e; simp
  · have h : ¬ (Sum.inl a : Key) = Sum.inl b := fun q => e (Sum.inl.inj q)
    rw [decide_eq_false h]
    exact (beq_eq_false_iff_ne.mpr e).symm
theorem key_rr (a b : Str) : decide ((Sum.inr a : Key) = Sum.inr b) = decide (a = b) := by
  by_cases e : a = b
  · subst e; simp
  · have h : ¬ (Sum.inr a : Key) = Sum.inr b := fun q => e (Sum.inr.inj q)
    rw [decide_eq_false h, decide_eq_false e]
theorem key_lr (a : Int) (b : Str) : decide ((Sum.inl a : Key) = Sum.inr b) = false := decide_eq_false (fun q => nomatch q)
theorem key_rl (a : Str) (b : Int) : decide ((Sum.inr a : Key) = Sum.inl b) = false := decide_eq_false (fun q => nomatch q)

def mixKind (prog : Program) (w : World) : PySem.KeyKind prog w Key where
  is := keyIs
  hash := keyH w
  inj := fun v a b ha hb => by
    rcases keyIs_shape ha with ⟨i, t, rfl, rfl⟩ | ⟨x, t, rfl, rfl⟩
    · rcases keyIs_shape hb with ⟨j, u, rfl, e⟩ | ⟨y, u, rfl, e⟩
      · injection e with e1 _; rw [e1]
      · exact nomatch e
    · rcases keyIs_shape hb with ⟨j, u, rfl, e⟩ | ⟨y, u, rfl, e⟩
      · exact nomatch e
      · injection e with e1 _; rw [e1]
  byValue := fun k v h => by
    rcases keyIs_shape h with ⟨i, t, rfl, rfl⟩ | ⟨x, t, rfl, rfl⟩ <;> rfl
  pyHash := fun hv h => by
    rcases keyIs_shape hv with ⟨i, t, rfl, rfl⟩ | ⟨x, t, rfl, rfl⟩
    · exact wpAny_pyHash_int h
    · exact wpAny_pyHash_str h
  eqBool := fun hu hv h => by
    rcases keyIs_shape hu with ⟨i, t, rfl, rfl⟩ | ⟨x, t, rfl, rfl⟩
    · rcases keyIs_shape hv with ⟨j, u, rfl, rfl⟩ | ⟨y, u, rfl, rfl⟩
      · rw [key_ll] at h; exact wpAny_eqBool_int h
      · rw [key_lr] at h; exact SeqAt.EqAt.int_str i t y u _ _ _ _ h
    · rcases keyIs_shape hv with ⟨j, u, rfl, rfl⟩ | ⟨y, u, rfl, rfl⟩
      · rw [key_rl] at h; exact SeqAt.EqAt.str_int x t j u _ _ _ _ h
      · rw [key_rr] at h; exact wpAny_eqBool_str h
  «strs» := fun k x t v h => by
    rcases keyIs_shape h with ⟨i, u, rfl, e⟩ | ⟨y, u, rfl, e⟩
    · exact nomatch e
    · injection e with e1 _
      subst e1
      cases v <;> rfl

theorem mixKind_int (prog : Program) (w : World) (i : Int) (t : Tok) : (mixKind prog w).is (.inl i) (.int i t) = true := keyIs_int i t
theorem mixKind_str (prog : Program) (w : World) (x : Str) (t : Tok) : (mixKind prog w).is (.inr x) (.str x t) = true := keyIs_str x t
end L2

namespace L2
open PySem PySem.Spec PyProof.Rows

/-- a value, without the heap -/
inductive V where
  | non | bl (b : Bool) | int (i : Int) | str (x : Str) | byt (b : Array UInt8) | flt (b : UInt64) | ref (a : Addr) | ty (n : String)
  deriving DecidableEq

def RelV : V → Value → Prop
  | .non, u => u = Value.none
  | .bl b, u => u = Value.bool b
  | .int i, u => ∃ t, u = Value.int i t
  | .str x, u => ∃ t, u = Value.str x t
  | .byt b, u => ∃ t, u = Value.bytes b t
  | .flt b, u => ∃ t, u = Value.float b t
  | .ref a, u => u = Value.ref a
  | .ty n, u => u = Value.type n

abbrev Vals : List V → List Value → Prop := Paired RelV
theorem Vals.length {xs : List V} {us : List Value} (r : Vals xs us) : xs.length = us.length := Paired.length r
theorem Vals.get : ∀ {xs : List V} {us : List Value} {i : Nat} {x : V}, Vals xs us → xs[i]? = some x → ∃ u, us[i]? = some u ∧ RelV x u
  | _, _, _, _, .nil, e => by simp at e
  | _, _, 0, _, .cons r _, e => by simp at e; subst e; exact ⟨_, rfl, r⟩
  | _, _, i + 1, x, .cons _ t, e => by
    obtain ⟨u, h1, h2⟩ := Vals.get (i := i) (x := x) t (by simpa using e)
    exact ⟨u, by simpa using h1, h2⟩
theorem Vals.set {x : V} {u : Value} (r : RelV x u) : ∀ {xs : List V} {us : List Value} (i : Nat), Vals xs us → Vals (xs.set i x) (us.set i u)
  | _, _, _, .nil => .nil
  | _, _, 0, .cons _ t => .cons r t
  | _, _, i + 1, .cons q t => .cons q (Vals.set r i t)
theorem Vals.append : ∀ {xs ys : List V} {us ws : List Value}, Vals xs us → Vals ys ws → Vals (xs ++ ys) (us ++ ws)
  | _, _, _, _, .nil, s => s
  | _, _, _, _, .cons r t, s => .cons r (Vals.append t s)
theorem Vals.take : ∀ {xs : List V} {us : List Value} (n : Nat), Vals xs us → Vals (xs.take n) (us.take n)
  | _, _, 0, _ => .nil
  | _, _, _ + 1, .nil => .nil
  | _, _, n + 1, .cons r t => .cons r (Vals.take n t)
theorem Vals.drop : ∀ {xs : List V} {us : List Value} (n : Nat), Vals xs us → Vals (xs.drop n) (us.drop n)
  | _, _, 0, r => r
  | _, _, _ + 1, .nil => .nil
  | _, _, n + 1, .cons _ t => Vals.drop n t
theorem Vals.none_of : ∀ {xs : List V} {us : List Value} {i : Nat}, Vals xs us → xs[i]? = none → us[i]? = none := fun {xs us i} r e => by
  have h1 := r.length
  have h2 : xs.length ≤ i := List.getElem?_eq_none_iff.mp e
  exact List.getElem?_eq_none_iff.mpr (by omega)

def RelO : Option V → Option Value → Prop
  | some v, some u => RelV v u
  | none, none => True
  | _, _ => False
def KV {κ : Type} : List (κ × V) → List (κ × Value) → Prop := Paired fun (p : κ × V) (q : κ × Value) => p.1 = q.1 ∧ RelV p.2 q.2

/-- a key of a dict (00_mix): an int or a text -/
def kV : Key → V
  | .inl i => .int i
  | .inr x => .str x

/-- what stands at a tracked address -/
inductive HO where
  /-- a list -/
  | lst (xs : List V)
  /-- a tuple (never changes) -/
  | tup (xs : List V)
  /-- a dict whose keys are ints and texts; one whose keys are tuples of ints and texts (the empty one is both) -/
  | dK (kvs : List (Key × V)) | dT (kvs : List (List Key × V))
  /-- a set of ints: its members, its size -/
  | set (S : Int → Bool) (n : Nat)
  /-- an instance of the class at C, its dict at dx, its attributes -/
  | ins (C dx : Addr) (fs : List (Str × V))
  /-- the dict of the instance at x -/
  | own (x : Addr)
  /-- the dict of an exception -/
  | xd (fs : List (Str × V))
  /-- a bound method, f of x -/
  | met (f x : Addr)
  /-- a range object lo, lo + 1, .. below hi -/
  | rng (lo hi : Int)
  /-- a thing that is known to the object (the script; a dict while a loop walks it): read, never written while it is so -/
  | frz (o : Obj) (u : HO)
  /-- a code object's table -/
  | tbl (ps : Array Value)
  /-- any other thing, by what is true of its one object (a def of one's own: SetO a S n := HO.ext fun h => ..) -/
  | ext (φ : Heap → Prop)

abbrev Hp := Addr → Option HO
def upd (H : Hp) (a : Addr) (o : HO) : Hp := fun b => if b = a then some o else H b
theorem upd_same {H : Hp} {a : Addr} {o : HO} : upd H a o a = some o := by unfold upd; rw [if_pos rfl]
theorem upd_ne {H : Hp} {a b : Addr} {o : HO} (h : b ≠ a) : upd H a o b = H b := by unfold upd; rw [if_neg h]
theorem upd_upd {H : Hp} {a : Addr} {o u : HO} : upd (upd H a o) a u = upd H a u := by
  funext b; unfold upd; split <;> rfl
/-- two objects of different content stand apart -/
theorem ne_of {H : Hp} {a b : Addr} {o u : HO} (h : H a = some o) (h' : H b = some u) (d : o ≠ u) : a ≠ b := by
  intro e; subst e; rw [h] at h'; exact d (Option.some.inj h')
theorem ne_of_none {H : Hp} {a b : Addr} {o : HO} (h : H a = some o) (h' : H b = none) : a ≠ b := by
  intro e; subst e; rw [h] at h'; cases h'

section
variable (P : Program) (w : World)
def ObjOk (H : Hp) (h : Heap) (a : Addr) : HO → Prop
  | .lst xs => xs.length ≤ sizeLine ∧ ∃ (its : List Value) (n : Nat), Vals xs its ∧ h.get? a = some { cls := .type "list", data := .seq its.toArray n }
  | .tup xs => xs.length ≤ sizeLine ∧ ∃ its : List Value, Vals xs its ∧ IsTup h a its.toArray
  | .dK kvs => kvs.length ≤ sizeLine ∧ (a == sysModules) = false ∧ ∃ vs, KV kvs vs ∧ h.DictOf (mixKind P w) a vs
  | .dT kvs => kvs.length ≤ sizeLine ∧ (a == sysModules) = false ∧ ∃ xs : List (List Key × Addr × Value),
      Paired (fun (p : List Key × V) (q : List Key × Addr × Value) => p.1 = q.1 ∧ H q.2.1 = some (.tup (p.1.map kV)) ∧ RelV p.2 q.2.2) kvs xs ∧
      ∃ o es ep, h.get? a = some o ∧ o.ExactDict ∧ o.data = .dict es ep ∧ es.toList = xs.map (entryOfKey (tupleKind (mixKind P w))) ∧ (xs.map (·.1)).Nodup
  | .set S n => h.SetOf (intKind P w) a S n
  | .ins C dx fs => H dx = some (.own a) ∧ fs.length ≤ 1000 ∧ dx ≠ a ∧ h.get? a = some (PySem.W.instObj C dx) ∧
      ∃ mA, h.Ns1 dx mA ∧ (∀ f, RelO (fs.lookup f) (mA f)) ∧ PySem.Within mA (fs.map (·.1))
  | .own _ => ∃ o, h.get? a = some o
  | .xd fs => ∃ mA, h.Ns1 a mA ∧ ∀ f, RelO (fs.lookup f) (mA f)
  | .rng lo hi => ∃ t u v, h.get? a = some { cls := .type "range", data := .fields #[.int lo t, .int hi u, .int 1 v] }
  | .frz o u => h.get? a = some o ∧ ObjOk H h a u
  | .tbl ps => h.get? a = some { cls := .none, data := .fields ps }
  | .met f x => h.get? a = some (PySem.W.methodObj (.ref f) (.ref x))
  | .ext φ => φ h ∧ (∃ o, h.get? a = some o) ∧ ∀ h1 h2 : Heap, φ h1 → (∀ o, h1.get? a = some o → h2.get? a = some o) → φ h2
/-- the abstract heap is held -/
def HOk (H : Hp) (h : Heap) : Prop := ∀ a o, H a = some o → ObjOk P w H h a o
end

section
variable {P : Program} {w : World} {H H' : Hp} {h h' : Heap} {a : Addr} {o : HO}
theorem ObjOk.lt (x : ObjOk P w H h a o) : a < h.objs.size := by
  cases o with
  | lst xs => obtain ⟨_, _, _, _, e⟩ := x; exact Heap.lt_size e
  | tup xs => obtain ⟨_, _, _, p⟩ := x; exact p.lt
  | dK kvs => obtain ⟨_, _, _, _, o, _, _, e, _⟩ := x; exact Heap.lt_size e
  | dT kvs => obtain ⟨_, _, _, _, o, _, _, e, _⟩ := x; exact Heap.lt_size e
  | set S n => obtain ⟨o, _, _, _, e, _⟩ := x; exact Heap.lt_size e
  | ins C dx fs => obtain ⟨_, _, _, e, _⟩ := x; exact Heap.lt_size e
  | own y => obtain ⟨_, e⟩ := x; exact Heap.lt_size e
  | xd fs => obtain ⟨_, ⟨_, _, _, e, _⟩, _⟩ := x; exact Heap.lt_size e
  | rng lo hi => obtain ⟨_, _, _, e⟩ := x; exact Heap.lt_size e
  | frz ob u => obtain ⟨e, _⟩ := x; exact Heap.lt_size e
  | tbl ps => exact Heap.lt_size (show h.get? a = some _ from x)
  | met f y => exact Heap.lt_size (show h.get? a = some _ from x)
  | ext φ => obtain ⟨_, ⟨_, e⟩, _⟩ := x; exact Heap.lt_size e
theorem Paired.mapP {α β : Type} {F G : α → β → Prop} : ∀ {l₁ : List α} {l₂ : List β}, Paired F l₁ l₂ → (∀ a b, F a b → G a b) → Paired G l₁ l₂
  | _, _, .nil, _ => .nil
  | _, _, .cons r t, f => .cons (f _ _ r) (Paired.mapP t f)
/-- what an object's description leans on: its own object, its own dict, the tuples -/
theorem ObjOk.stay (x : ObjOk P w H h a o) (k : ∀ b u, (b = a ∨ H b = some (.own a)) → h.get? b = some u → h'.get? b = some u)
    (ho : ∀ b, H b = some (.own a) → H' b = some (.own a)) (ht : ∀ b xs, H b = some (.tup xs) → H' b = some (.tup xs)) : ObjOk P w H' h' a o := by
  induction o with
  | lst xs => obtain ⟨z, its, n, r, e⟩ := x; exact ⟨z, its, n, r, k _ _ (.inl rfl) e⟩
  | tup xs => obtain ⟨z, its, r, ob, e, c⟩ := x; exact ⟨z, its, r, ob, k _ _ (.inl rfl) e, c⟩
  | dK kvs => obtain ⟨z, y, vs, r, ob, es, ep, e, c⟩ := x; exact ⟨z, y, vs, r, ob, es, ep, k _ _ (.inl rfl) e, c⟩
  | dT kvs =>
    obtain ⟨z, y, xs, r, ob, es, ep, e, c⟩ := x
    exact ⟨z, y, xs, Paired.mapP r fun p q z => ⟨z.1, ht _ _ z.2.1, z.2.2⟩, ob, es, ep, k _ _ (.inl rfl) e, c⟩
  | set S n => obtain ⟨ob, es, ep, t, e, c⟩ := x; exact ⟨ob, es, ep, t, k _ _ (.inl rfl) e, c⟩
  | ins C dx fs =>
    obtain ⟨d, z, ne, e, mA, ⟨od, es, ep, e2, c⟩, r⟩ := x
    exact ⟨ho _ d, z, ne, k _ _ (.inl rfl) e, mA, ⟨od, es, ep, k _ _ (.inr d) e2, c⟩, r⟩
  | own y => obtain ⟨ob, e⟩ := x; exact ⟨ob, k _ _ (.inl rfl) e⟩
  | xd fs => obtain ⟨mA, ⟨od, es, ep, e, c⟩, r⟩ := x; exact ⟨mA, ⟨od, es, ep, k _ _ (.inl rfl) e, c⟩, r⟩
  | rng lo hi => obtain ⟨t, u, v, e⟩ := x; exact ⟨t, u, v, k _ _ (.inl rfl) e⟩
  | frz ob u ih => obtain ⟨e, q⟩ := x; exact ⟨k _ _ (.inl rfl) e, ih q⟩
  | tbl ps =>
    have e : h.get? a = some { cls := .none, data := .fields ps } := x
    show h'.get? a = some { cls := .none, data := .fields ps }
    exact k a _ (.inl rfl) e
  | met f y =>
    have e : h.get? a = some (PySem.W.methodObj (.ref f) (.ref y)) := x
    show h'.get? a = some (PySem.W.methodObj (.ref f) (.ref y))
    exact k a _ (.inl rfl) e
  | ext φ => obtain ⟨p, ⟨o, e⟩, st⟩ := x; exact ⟨st _ _ p fun o q => k _ _ (.inl rfl) q, ⟨o, k _ _ (.inl rfl) e⟩, st⟩
theorem HOk.lt (x : HOk P w H h) (e : H a = some o) : a < h.objs.size := (x a o e).lt
theorem HOk.fresh (x : HOk P w H h) (e : h.objs.size ≤ a) : H a = none := by
  cases q : H a with
  | none => rfl
  | some u => exact absurd (Nat.lt_of_lt_of_le (x.lt q) e) (Nat.lt_irrefl _)
/-- every object of the heap is kept -/
theorem HOk.kept (x : HOk P w H h) (k : ∀ b u, h.get? b = some u → h'.get? b = some u) : HOk P w H h' := fun a o e =>
  (x a o e).stay (fun b u _ q => k b u q) (fun _ q => q) fun _ _ q => q
/-- a new object is laid and tracked -/
theorem HOk.laid (x : HOk P w H h) (k : ∀ b u, h.get? b = some u → h'.get? b = some u) (hp : h.objs.size ≤ a) (new : ObjOk P w (upd H a o) h' a o) : HOk P w (upd H a o) h' := fun b u e => by
  have hn := x.fresh hp
  by_cases hb : b = a
  · subst hb; rw [upd_same] at e; cases e; exact new
  · rw [upd_ne hb] at e
    exact (x b u e).stay (fun c v _ q => k c v q) (fun c q => by rw [upd_ne (ne_of_none q hn)]; exact q) fun c xs q => by rw [upd_ne (ne_of_none q hn)]; exact q
end

/-- what may be read as u: it is u, or a known u -/
def Rd (H : Hp) (a : Addr) (u : HO) : Prop := H a = some u ∨ ∃ o, H a = some (.frz o u)
theorem Rd.of {H : Hp} {a : Addr} {u : HO} (h : H a = some u) : Rd H a u := .inl h
theorem Rd.ok {P : Program} {w : World} {H : Hp} {h : Heap} {a : Addr} {u : HO} (r : Rd H a u) (x : HOk P w H h) : ObjOk P w H h a u := by
  rcases r with r | ⟨o, r⟩
  · exact x a u r
  · obtain ⟨_, q⟩ := x a _ r
    exact q
/-- what may be written -/
def Mut : Option HO → Prop
  | some (.lst _) => True
  | some (.dK _) => True
  | some (.dT _) => True
  | some (.set _ _) => True
  | some (.ins _ _ _) => True
  | some (.ext _) => True
  | _ => False
section
variable {P : Program} {w : World} {H : Hp} {h h' : Heap} {x e : Addr} {o' : HO}
/-- the object at e is changed: x itself, or the dict of the instance x -/
theorem HOk.write (ok : HOk P w H h) (mu : Mut (H x)) (he : e = x ∨ H e = some (.own x)) (k : ∀ b u, b ≠ e → h.get? b = some u → h'.get? b = some u) (heo : ∃ u, h'.get? e = some u)
    (new : ObjOk P w (upd H x o') h' x o') : HOk P w (upd H x o') h' := fun b u q => by
  have nown : ∀ c y, H c = some (.own y) → c ≠ x := fun c y r z => by subst z; rw [r] at mu; exact mu
  have ntup : ∀ c xs, H c = some (.tup xs) → c ≠ x := fun c xs r z => by subst z; rw [r] at mu; exact mu
  by_cases hb : b = x
  · subst hb; rw [upd_same] at q; cases q; exact new
  · rw [upd_ne hb] at q
    by_cases hbe : b = e
    · have q' : H b = some (.own x) := by
        rcases he with z | z
        · exact absurd (hbe.trans z) hb
        · rw [hbe]; exact z
      rw [q] at q'; cases q'
      obtain ⟨v, hv⟩ := heo
      exact ⟨v, by rw [hbe]; exact hv⟩
    · refine (ok b u q).stay (fun c v hc r => k c v ?_ r) (fun c r => by rw [upd_ne (nown c b r)]; exact r) fun c xs r => by rw [upd_ne (ntup c xs r)]; exact r
      rcases hc with rfl | hc
      · exact hbe
      · rintro rfl
        rcases he with z | z
        · exact nown c b hc z
        · rw [hc] at z; cases z; exact hb rfl
end

/-! ### kept unless tracked; of the frames at fs (the callers') the slots may change (an exception that passes writes there); of the records at ex (iterators) nothing is said -/
structure Un (fs ex : List Addr) (H H' : Hp) (h h' : Heap) : Prop where
  keep : ∀ b o, h.get? b = some o → H b = none → b ∉ fs → b ∉ ex → h'.get? b = some o
  slot : ∀ b o, h.get? b = some o → H b = none → b ∈ fs → b ∉ ex → ∃ sl, h'.get? b = some { o with slots := sl }
  free : ∀ b o, h.get? b = some o → H b = none → b ∉ ex → H' b = none
  there : ∀ b o, h.get? b = some o → b ∉ ex → ∃ o', h'.get? b = some o'
  tups : ∀ b xs, H b = some (.tup xs) → H' b = some (.tup xs)
  frzs : ∀ b o u, H b = some (.frz o u) → H' b = some (.frz o u)
  tbls : ∀ b ps, H b = some (.tbl ps) → ∃ more, H' b = some (.tbl (ps ++ more))
section
variable {fs fs' ex ex' : List Addr} {H H1 H2 : Hp} {h h1 h2 h' : Heap} {a x e : Addr} {o : HO}
theorem Un.any (u : Un fs ex H H1 h h1) {b : Addr} {ob : Obj} (q : h.get? b = some ob) (n : H b = none) (hx : b ∉ ex) : ∃ sl, h1.get? b = some { ob with slots := sl } := by
  by_cases hb : b ∈ fs
  · exact u.slot b ob q n hb hx
  · exact ⟨ob.slots, u.keep b ob q n hb hx⟩
theorem Un.trans (a : Un fs ex H H1 h h1) (b : Un fs ex H1 H2 h1 h2) : Un fs ex H H2 h h2 where
  keep := fun c ob q n hc hx => b.keep c ob (a.keep c ob q n hc hx) (a.free c ob q n hx) hc hx
  slot := fun c ob q n hc hx => by
    obtain ⟨sl, e1⟩ := a.slot c ob q n hc hx
    obtain ⟨sl', e2⟩ := b.slot c _ e1 (a.free c ob q n hx) hc hx
    exact ⟨sl', e2⟩
  free := fun c ob q n hx => by
    obtain ⟨o', e1⟩ := a.there c ob q hx
    exact b.free c o' e1 (a.free c ob q n hx) hx
  there := fun c ob q hx => by
    obtain ⟨o', e1⟩ := a.there c ob q hx
    exact b.there c o' e1 hx
  tups := fun c xs q => b.tups c xs (a.tups c xs q)
  frzs := fun c ob xs q => b.frzs c ob xs (a.frzs c ob xs q)
  tbls := fun c ps q => by
    obtain ⟨m1, e1⟩ := a.tbls c ps q
    obtain ⟨m2, e2⟩ := b.tbls c _ e1
    exact ⟨m1 ++ m2, by rw [e2, Array.append_assoc]⟩
theorem Un.kept (k : ∀ b u, h.get? b = some u → h'.get? b = some u) : Un fs ex H H h h' :=
  ⟨fun b ob q _ _ _ => k b ob q, fun b ob q _ _ _ => ⟨ob.slots, k b ob q⟩, fun _ _ _ n _ => n, fun b ob q _ => ⟨ob, k b ob q⟩, fun _ _ q => q, fun _ _ _ q => q, fun _ ps q => ⟨#[], by rw [q]; simp⟩⟩
theorem Un.refl : Un fs ex H H h h := Un.kept fun _ _ q => q
theorem Un.laid (k : ∀ b u, h.get? b = some u → h'.get? b = some u) (hp : h.objs.size ≤ a) (hn : H a = none) : Un fs ex H (upd H a o) h h' where
  keep := fun b u q _ _ _ => k b u q
  slot := fun b u q _ _ _ => ⟨u.slots, k b u q⟩
  free := fun b u q n _ => by rw [upd_ne (Nat.ne_of_lt (Nat.lt_of_lt_of_le (Heap.lt_size q) hp))]; exact n
  there := fun b u q _ => ⟨u, k b u q⟩
  tups := fun b xs q => by rw [upd_ne (ne_of_none q hn)]; exact q
  frzs := fun b u xs q => by rw [upd_ne (ne_of_none q hn)]; exact q
  tbls := fun b ps q => ⟨#[], by rw [upd_ne (ne_of_none q hn), q]; simp⟩
theorem Un.write (mu : Mut (H x)) (he : e = x ∨ H e = some (.own x)) (k : ∀ b u, b ≠ e → h.get? b = some u → h'.get? b = some u) (heo : ∃ u, h'.get? e = some u) : Un fs ex H (upd H x o) h h' := by
  have hx : ∀ b, H b = none → b ≠ x := fun b n z => by subst z; rw [n] at mu; exact mu
  have hb : ∀ b, H b = none → b ≠ e := fun b n z => by
    subst z
    rcases he with r | r
    · exact hx b n r
    · rw [n] at r; cases r
  have hm : ∀ b u, H b = some u → ¬ Mut (some u) → b ≠ x := fun b u q nm z => by subst z; rw [q] at mu; exact nm mu
  refine ⟨fun b u q n _ _ => k b u (hb b n) q, fun b u q n _ _ => ⟨u.slots, k b u (hb b n) q⟩, fun b u q n _ => by rw [upd_ne (hx b n)]; exact n, fun b u q _ => ?_,
    fun b xs q => by rw [upd_ne (hm b _ q fun z => z)]; exact q, fun b u xs q => by rw [upd_ne (hm b _ q fun z => z)]; exact q, fun b ps q => ⟨#[], by rw [upd_ne (hm b _ q fun z => z), q]; simp⟩⟩
  by_cases hbe : b = e
  · subst hbe; exact heo
  · exact ⟨u, k b u hbe q⟩
theorem Un.mono (u : Un fs ex H H1 h h1) (hs : ∀ b ∈ fs, b ∈ fs') (hx : ∀ b ∈ ex, b ∈ ex') : Un fs' ex' H H1 h h1 :=
  ⟨fun b ob q n hb he => u.keep b ob q n (fun z => hb (hs b z)) fun z => he (hx b z), fun _ _ q n _ he => u.any q n fun z => he (hx _ z), fun b ob q n he => u.free b ob q n fun z => he (hx b z), fun b ob q he => u.there b ob q fun z => he (hx b z), u.tups, u.frzs, u.tbls⟩
end

/-! ### the heap without what is tracked -/
def trk (h : Heap) (H : Hp) : List Addr := (List.range h.objs.size).filter fun a => (H a).isSome
def hidT (h : Heap) (H : Hp) : Heap := PySem.W.hideAll h (trk h H)
theorem hidT_size (h : Heap) (H : Hp) : (hidT h H).objs.size = h.objs.size := PySem.W.hideAll_size _ _
theorem hidT_get {h : Heap} {H : Hp} {b : Addr} {o : Obj} (e : h.get? b = some o) (n : H b = none) : (hidT h H).get? b = some o :=
  PySem.W.hideAll_get _ e fun hm => by
    have q : (H b).isSome = true := (List.mem_filter.mp hm).2
    rw [n] at q; simp at q
theorem of_hidT {h : Heap} {H : Hp} {b : Addr} {o : Obj} (e : (hidT h H).get? b = some o) : h.get? b = some o ∧ H b = none := by
  have e' : h.get? b = some o := PySem.W.of_hideAll (trk h H) e
  refine ⟨e', ?_⟩
  cases q : H b with
  | none => rfl
  | some x =>
    have hm : b ∈ trk h H := List.mem_filter.mpr ⟨List.mem_range.mpr (Heap.lt_size e'), by simp [q]⟩
    have z : (hidT h H).get? b = none := PySem.W.hideAll_none (trk h H) hm
    rw [z] at e; cases e

/-! ### OpenK's ledger, filled with every new object but one -/
def allNews (g h : Heap) (L : Addr) : List (Addr × Obj) := (List.range h.objs.size).filterMap fun a => if a = L ∨ (g.get? a).isSome = true then none else (h.get? a).map fun o => (a, o)
def rest (g h : Heap) (L d : Addr) : List (Addr × Obj) := (allNews g h L).filter fun p => decide (p.1 ≠ d)
end L2

namespace L2
open PySem PySem.Spec PyProof.Rows

/-- the module's facts, over the base: the heap at the law's entry without what is tracked there -/
structure Mod (K : PySem.W.Frag) (mg : Str → Option Value) (base : Heap) : Prop where
  kin : K.In base
  glob : base.Ns mainGlobals mg
  blt : ∃ mb, base.Ns builtinsNs mb ∧ ∀ x : Str, x ≠ "__name__" → mb x = bootBuiltins x
  nolimit : base.NoLimit

/-- the context: a def's body (or a comprehension's block) running. base: fixed through the whole law; s₀, H₀: the entry; outer: the frames whose slots others may change (a def's callers); stack: all frames that run;
   ex: iterators that were made ahead of the entry and are walked here (a comprehension's); fn: the names whose cells were made at the entry (a def: all; a comprehension's block: its own); calm: not within an except suite; pn: pins that every state bears; xe: what is wanted of an exception that leaves the code -/
structure Cx where
  prog : Program
  w : World
  K : PySem.W.Frag
  mg : Str → Option Value
  base : Heap
  A : Around
  N : List Str
  s₀ : Shared
  H₀ : Hp
  env : Env
  outer : List Env
  stack : List Env
  ex : List Addr
  fn : Str → Bool
  calm : Bool
  pn : List (Addr × Obj)
  xe : Value → Shared → Prop
/-- the callers' frames -/
def frs (l : List Env) : List Addr := l.filterMap (·.frame)
abbrev Cx.fs (X : Cx) : List Addr := frs X.outer

def Vis (sc : Scope) (x : Str) : Prop := sc.names.lookup x = some .local ∨ sc.names.lookup x = some .cell ∨ sc.names.lookup x = some .free
def Loc (sc : Scope) (x : Str) : Prop := sc.names.lookup x = some .local ∨ sc.names.lookup x = some .cell
def Look (env : Env) (h : Heap) (m : Str → Option Value) (x : Str) (u : Value) : Prop :=
  (env.kindOf x = some .local ∧ m x = some u) ∨ ((env.kindOf x = some .cell ∨ env.kindOf x = some .free) ∧ ∃ c, env.cells.lookup x = some c ∧ h.IsCell c (some u))

structure Cx.Ok (X : Cx) : Prop where
  mod : Mod X.K X.mg X.base
  kind : X.env.scope.kind = .function
  glob : X.env.globals = mainGlobals
  blt : X.env.builtins = builtinsNs
  above : X.s₀.heap.objs.size ≤ X.env.locals
  inj : ∀ x y c, X.env.cells.lookup x = some c → X.env.cells.lookup y = some c → x = y
  has : ∀ x, (X.env.kindOf x = some .cell ∨ X.env.kindOf x = some .free) → ∃ c, X.env.cells.lookup x = some c
  cab : ∀ x c, X.fn x = true → X.env.cells.lookup x = some c → X.s₀.heap.objs.size ≤ c
  hd : X.calm = true → X.A.handled = none
  frames : X.A.frames = some X.stack
  stk : X.stack = X.outer ∨ (X.stack = X.env :: X.outer ∧ X.env.frame = some X.env.locals)
  exf : ∀ b ∈ X.ex, b ≠ X.env.locals ∧ ∀ x c, X.env.cells.lookup x = some c → c ≠ b
  bs : ∀ b o, X.base.get? b = some o → X.s₀.heap.get? b = some o ∧ X.H₀ b = none
  bsz : X.base.objs.size ≤ X.s₀.heap.objs.size
  noex : ∀ b o, X.base.get? b = some o → b ∉ X.ex
  exfs : ∀ b ∈ X.ex, b ∉ X.fs
  funs : X.s₀.heap.FunFrames X.base X.outer
  frf : ∀ b ∈ X.fs, X.H₀ b = none

structure Inv (X : Cx) (pins : List (Addr × Obj)) (σ : List (Option V)) (H : Hp) (s : Shared) : Prop where
  ok : X.Ok
  os : s.os = X.s₀.os
  bare : AllBare s.gens
  base : Un X.fs X.ex X.H₀ H X.s₀.heap s.heap
  loc : ∃ m, s.heap.Ns X.env.locals m ∧ ∀ (i : Nat) (x : Str) (v : V), X.N[i]? = some x → σ[i]? = some (some v) → Vis X.env.scope x → ∃ u, RelV v u ∧ Look X.env s.heap m x u
  cell : ∀ x c, X.env.cells.lookup x = some c → ∃ v, s.heap.IsCell c v
  free : H X.env.locals = none
  freeC : ∀ x c, X.env.cells.lookup x = some c → H c = none
  pin : ∀ p ∈ X.pn ++ pins, s.heap.get? p.1 = some p.2 ∧ H p.1 = none ∧ p.1 ≠ X.env.locals ∧ p.1 ∉ X.fs ∧ ∀ v, p.2.data ≠ .cell v
  hok : HOk X.prog X.w H s.heap
  len : σ.length = X.N.length

section
variable {X : Cx} {pins : List (Addr × Obj)} {σ : List (Option V)} {H H' : Hp} {s : Shared} {h' : Heap}

theorem Cx.Ok.nofr (ok : X.Ok) {b : Addr} {o : Obj} (e : X.base.get? b = some o) : b ∉ X.fs := fun hb => by
  have := (ok.funs.mem hb).1
  rw [e] at this; cases this
theorem Inv.bs (I : Inv X pins σ H s) : ∀ b o, X.base.get? b = some o → s.heap.get? b = some o ∧ H b = none := fun b o e =>
  ⟨I.base.keep b o (I.ok.bs b o e).1 (I.ok.bs b o e).2 (I.ok.nofr e) (I.ok.noex b o e), I.base.free b o (I.ok.bs b o e).1 (I.ok.bs b o e).2 (I.ok.noex b o e)⟩
theorem Inv.bk (I : Inv X pins σ H s) : ∀ b o, X.base.get? b = some o → s.heap.get? b = some o := fun b o e => (I.bs b o e).1
theorem Inv.mod (I : Inv X pins σ H s) : Mod X.K X.mg X.base := I.ok.mod
theorem Inv.kIn (I : Inv X pins σ H s) : X.K.In s.heap := I.ok.mod.kin.keeps I.bk
theorem Inv.nolimit (I : Inv X pins σ H s) : s.heap.NoLimit := I.ok.mod.nolimit.keeps I.bk
/-- the frame over the base: for OpenK's rules (K.In X.base is I.mod.kin) -/
theorem Inv.fr (I : Inv X pins σ H s) : ∃ m, Fr X.base X.env.locals s.heap m :=
  let ⟨m, hn, _⟩ := I.loc
  ⟨m, hn, I.bk, Nat.le_trans I.ok.bsz I.ok.above⟩
theorem Inv.lt (I : Inv X pins σ H s) : X.env.locals < s.heap.objs.size := let ⟨_, hn, _⟩ := I.loc; hn.lt
theorem Inv.sz (I : Inv X pins σ H s) : X.s₀.heap.objs.size ≤ s.heap.objs.size := Nat.le_trans I.ok.above (Nat.le_of_lt I.lt)
theorem Inv.nofs (I : Inv X pins σ H s) {a : Addr} (h : s.heap.objs.size ≤ a) : a ∉ X.fs := fun hb => by
  obtain ⟨_, o, ho, _⟩ := I.ok.funs.mem hb
  exact absurd (Nat.lt_of_lt_of_le (Heap.lt_size ho) (Nat.le_trans I.sz h)) (Nat.lt_irrefl _)
theorem Inv.cne (I : Inv X pins σ H s) : ∀ x c, X.env.cells.lookup x = some c → c ≠ X.env.locals := fun x c e z => by
  obtain ⟨v, o, ho, hd⟩ := I.cell x c e
  obtain ⟨m, ⟨o', es, ep, ho', hd', _⟩, _⟩ := I.loc
  rw [z, ho'] at ho; cases ho; rw [hd'] at hd; cases hd
theorem Inv.funs (I : Inv X pins σ H s) : s.heap.FunFrames X.base X.outer := by
  have all : ∀ (l : List Env), (∀ b ∈ frs l, b ∈ X.fs) → X.s₀.heap.FunFrames X.base l → s.heap.FunFrames X.base l := by
    intro l
    induction l with
    | nil => intro _ _; trivial
    | cons env r ih =>
      intro hs hl
      obtain ⟨hk, ⟨L, o, hf, hn, ho, hd⟩, hr⟩ := hl
      have hL : L ∈ X.fs := hs L (by unfold frs; rw [List.filterMap_cons, hf]; exact List.mem_cons_self)
      obtain ⟨sl, e⟩ := I.base.slot L o ho (I.ok.frf L hL) hL fun z => I.ok.exfs L z hL
      exact ⟨hk, ⟨L, _, hf, hn, e, hd⟩, ih (fun b hb => hs b (by unfold frs; rw [List.filterMap_cons, hf]; exact List.mem_cons_of_mem _ hb)) hr⟩
  exact all X.outer (fun _ hb => hb) I.ok.funs

/-- the frames that run, for a call -/
theorem Inv.stack (I : Inv X pins σ H s) : s.heap.FunFrames X.base X.stack := by
  rcases I.ok.stk with e | ⟨e, hf⟩
  · rw [e]; exact I.funs
  · rw [e]
    obtain ⟨m, hn, _⟩ := I.loc
    refine .cons (by rw [I.ok.kind]; decide) hf hn ?_ I.funs
    exact Heap.get?_none_of_le (Nat.le_trans I.ok.bsz I.ok.above)
theorem Inv.stkSub (I : Inv X pins σ H s) : ∀ b ∈ frs X.stack, b ∈ X.env.locals :: X.fs := fun b hb => by
  rcases I.ok.stk with e | ⟨e, hf⟩
  · rw [e] at hb; exact List.mem_cons_of_mem _ hb
  · rw [e] at hb
    unfold frs at hb
    rw [List.filterMap_cons, hf] at hb
    exact hb
theorem Inv.stkFree (I : Inv X pins σ H s) : ∀ b ∈ frs X.stack, H b = none := fun b hb => by
  rcases List.mem_cons.mp (I.stkSub b hb) with e | hb
  · rw [e]; exact I.free
  · obtain ⟨_, o, ho, _⟩ := I.ok.funs.mem hb
    exact I.base.free b o ho (I.ok.frf b hb) fun z => I.ok.exfs b z hb

/-- THE STEP: the untracked objects but the frame and the records at ch are kept (the callers' frames up to slots), the frame's map is kept, the new abstract heap is held -/
theorem Inv.step {g' : Array GenState} {t' : Nat} {d' : Drawn} {ch : List Addr} (I : Inv X pins σ H s)
    (hch : ∀ b ∈ ch, (b ∈ X.ex ∨ X.s₀.heap.objs.size ≤ b) ∧ b ≠ X.env.locals ∧ (∀ x c, X.env.cells.lookup x = some c → c ≠ b) ∧ ∀ p ∈ X.pn ++ pins, p.1 ≠ b)
    (keep : ∀ b o, b ≠ X.env.locals → b ∉ X.fs → b ∉ ch → s.heap.get? b = some o → H b = none → h'.get? b = some o)
    (slot : ∀ b o, b ≠ X.env.locals → b ∈ X.fs → b ∉ ch → s.heap.get? b = some o → H b = none → ∃ sl, h'.get? b = some { o with slots := sl }) (free : ∀ b o, b ∉ ch → s.heap.get? b = some o → H b = none → H' b = none)
    (there : ∀ b o, b ∉ ch → s.heap.get? b = some o → ∃ o', h'.get? b = some o')
    (tups : ∀ b xs, H b = some (.tup xs) → H' b = some (.tup xs)) (frzs : ∀ b o u, H b = some (.frz o u) → H' b = some (.frz o u)) (tbls : ∀ b ps, H b = some (.tbl ps) → ∃ more, H' b = some (.tbl (ps ++ more)))
    (ns : ∀ m, s.heap.Ns X.env.locals m → h'.Ns X.env.locals m) (hok : HOk X.prog X.w H' h') (hg : AllBare g') :
    Inv X pins σ H' { s with heap := h', gens := g', drawn := d', toks := t' } := by
  have neL : ∀ b o, X.s₀.heap.get? b = some o → b ≠ X.env.locals := fun b o e => Nat.ne_of_lt (Nat.lt_of_lt_of_le (Heap.lt_size e) I.ok.above)
  have neC : ∀ b o, X.s₀.heap.get? b = some o → b ∉ X.ex → b ∉ ch := fun b o e hx hb => by
    rcases (hch b hb).1 with z | z
    · exact hx z
    · exact absurd (Nat.lt_of_lt_of_le (Heap.lt_size e) z) (Nat.lt_irrefl _)
  have cellK : ∀ x c, X.env.cells.lookup x = some c → ∀ v, s.heap.IsCell c v → h'.IsCell c v := fun x c e v ⟨o, ho, hd⟩ => by
    have nch : c ∉ ch := fun z => (hch c z).2.2.1 x c e rfl
    by_cases hc : c ∈ X.fs
    · obtain ⟨sl, q⟩ := slot c o (I.cne x c e) hc nch ho (I.freeC x c e)
      exact ⟨_, q, hd⟩
    · exact ⟨o, keep c o (I.cne x c e) hc nch ho (I.freeC x c e), hd⟩
  refine ⟨I.ok, I.os, hg, ⟨fun b o e n hb hx => ?_, fun b o e n hb hx => ?_, fun b o e n hx => ?_, fun b o e hx => ?_, fun b xs e => tups b xs (I.base.tups b xs e), fun b o xs e => frzs b o xs (I.base.frzs b o xs e), fun b ps e => ?_⟩, ?_, fun x c e => ?_, ?_, fun x c e => ?_, fun p hp => ?_, hok, I.len⟩
  · exact keep b o (neL b o e) hb (neC b o e hx) (I.base.keep b o e n hb hx) (I.base.free b o e n hx)
  · obtain ⟨sl, e1⟩ := I.base.slot b o e n hb hx
    obtain ⟨sl', e2⟩ := slot b _ (neL b o e) hb (neC b o e hx) e1 (I.base.free b o e n hx)
    exact ⟨sl', e2⟩
  · obtain ⟨o', e1⟩ := I.base.there b o e hx
    exact free b o' (neC b o e hx) e1 (I.base.free b o e n hx)
  · obtain ⟨o', e1⟩ := I.base.there b o e hx
    exact there b o' (neC b o e hx) e1
  · obtain ⟨m1, e1⟩ := I.base.tbls b ps e
    obtain ⟨m2, e2⟩ := tbls b _ e1
    exact ⟨m1 ++ m2, by rw [e2, Array.append_assoc]⟩
  · obtain ⟨m, hn, hl⟩ := I.loc
    refine ⟨m, ns m hn, fun i x v e1 e2 e3 => ?_⟩
    obtain ⟨u, r, l⟩ := hl i x v e1 e2 e3
    refine ⟨u, r, ?_⟩
    rcases l with l | ⟨k, c, e, z⟩
    · exact .inl l
    · exact .inr ⟨k, c, e, cellK x c e _ z⟩
  · obtain ⟨v, z⟩ := I.cell x c e
    exact ⟨v, cellK x c e v z⟩
  · obtain ⟨m, ⟨o, _, _, ho, _⟩, _⟩ := I.loc
    exact free _ o (fun z => (hch _ z).2.1 rfl) ho I.free
  · obtain ⟨v, o, ho, hd⟩ := I.cell x c e
    exact free c o (fun z => (hch c z).2.2.1 x c e rfl) ho (I.freeC x c e)
  · obtain ⟨e, n, ne, nf, d⟩ := I.pin p hp
    have nch : p.1 ∉ ch := fun z => (hch p.1 z).2.2.2 p hp rfl
    exact ⟨keep p.1 p.2 ne nf nch e n, free p.1 p.2 nch e n, ne, nf, d⟩
/-- .. where the frame's own object is kept too -/
theorem Inv.un {t' : Nat} (I : Inv X pins σ H s) (u : Un X.fs [] H H' s.heap h') (hok : HOk X.prog X.w H' h') : Inv X pins σ H' { s with heap := h', toks := t' } := by
  obtain ⟨m, ⟨o, es, ep, ho, r⟩, _⟩ := id I.loc
  obtain ⟨sl, hL⟩ := u.any ho I.free (by simp)
  exact I.step (g' := s.gens) (d' := s.drawn) (ch := []) (fun _ z => nomatch z) (fun b o _ hb _ e n => u.keep b o e n hb (by simp)) (fun b o _ hb _ e n => u.slot b o e n hb (by simp)) (fun b o _ e n => u.free b o e n (by simp)) (fun b o _ e => u.there b o e (by simp)) u.tups u.frzs u.tbls (fun m' hm => by
    obtain ⟨o', es', ep', ho', r'⟩ := hm
    rw [ho] at ho'; cases ho'
    exact ⟨_, es', ep', hL, r'⟩) hok I.bare
/-- behind a call (or a comprehension's block): the slots of this frame may have changed too, the records at ch may have turned -/
theorem Inv.call {g' : Array GenState} {t' : Nat} {d' : Drawn} {ch : List Addr} (I : Inv X pins σ H s) (u : Un (frs X.stack) ch H H' s.heap h') (hok : HOk X.prog X.w H' h') (hg : AllBare g')
    (hch : ∀ b ∈ ch, (b ∈ X.ex ∨ X.s₀.heap.objs.size ≤ b) ∧ b ≠ X.env.locals ∧ (∀ x c, X.env.cells.lookup x = some c → c ≠ b) ∧ ∀ p ∈ X.pn ++ pins, p.1 ≠ b) :
    Inv X pins σ H' { s with heap := h', gens := g', drawn := d', toks := t' } := by
  obtain ⟨m, ⟨o, es, ep, ho, r⟩, _⟩ := id I.loc
  obtain ⟨sl, hL⟩ := u.any ho I.free fun z => (hch _ z).2.1 rfl
  exact I.step (ch := ch) hch (fun b o hL hb hc e n => u.keep b o e n (fun z => (List.mem_cons.mp (I.stkSub b z)).elim hL hb) hc) (fun b o _ _ hc e n => u.any e n hc) (fun b o hc e n => u.free b o e n hc) (fun b o hc e => u.there b o e hc) u.tups u.frzs u.tbls (fun m' hm => by
    obtain ⟨o', es', ep', ho', r'⟩ := hm
    rw [ho] at ho'; cases ho'
    exact ⟨_, es', ep', hL, r'⟩) hok hg
/-- an untracked record of ours (an iterator) has turned -/
theorem Inv.turned {t' : Nat} {it : Addr} (I : Inv X pins σ H s) (k : ∀ b o, b ≠ it → s.heap.get? b = some o → h'.get? b = some o) (hn : H it = none) (hL : it ≠ X.env.locals)
    (h1 : it ∈ X.ex ∨ X.s₀.heap.objs.size ≤ it) (h2 : ∀ x c, X.env.cells.lookup x = some c → c ≠ it) (h3 : ∀ p ∈ X.pn ++ pins, p.1 ≠ it) : Inv X pins σ H { s with heap := h', toks := t' } := by
  have nit : ∀ b u, H b = some u → b ≠ it := fun b u e z => by rw [z, hn] at e; cases e
  refine I.step (g' := s.gens) (d' := s.drawn) (ch := [it]) (fun b hb => ?_) (fun b o _ _ hc e _ => k b o (fun z => hc (by simp [z])) e) (fun b o _ _ hc e _ => ⟨o.slots, k b o (fun z => hc (by simp [z])) e⟩) (fun _ _ _ _ n => n)
    (fun b o hc e => ⟨o, k b o (fun z => hc (by simp [z])) e⟩) (fun _ _ e => e) (fun _ _ _ e => e) (fun b ps e => ⟨#[], by rw [e]; simp⟩) (fun m hm => ?_) (fun b u e => ?_) I.bare
  · have e : b = it := by simpa using hb
    subst e
    exact ⟨h1, hL, h2, h3⟩
  · obtain ⟨o, es, ep, ho, r⟩ := hm
    exact ⟨o, es, ep, k _ o (Ne.symm hL) ho, r⟩
  · refine (I.hok b u e).stay (fun c v hc q => k c v ?_ q) (fun _ q => q) fun _ _ q => q
    rcases hc with z | z
    · rw [z]; exact nit b u e
    · exact nit c _ z
theorem Inv.tok (I : Inv X pins σ H s) (t : Nat) : Inv X pins σ H { s with toks := t } := I.un (h' := s.heap) (t' := t) Un.refl I.hok
/-- all objects kept -/
theorem Inv.kept {t' : Nat} (I : Inv X pins σ H s) (k : ∀ b u, s.heap.get? b = some u → h'.get? b = some u) : Inv X pins σ H { s with heap := h', toks := t' } := I.un (Un.kept k) (I.hok.kept k)
/-- a new object laid and tracked -/
theorem Inv.laid {a : Addr} {o : HO} {t' : Nat} (I : Inv X pins σ H s) (k : ∀ b u, s.heap.get? b = some u → h'.get? b = some u) (hp : s.heap.objs.size ≤ a) (new : ObjOk X.prog X.w (upd H a o) h' a o) :
    Inv X pins σ (upd H a o) { s with heap := h', toks := t' } := I.un (Un.laid k hp (I.hok.fresh hp)) (I.hok.laid k hp new)
/-- an object written -/
theorem Inv.write {x e : Addr} {o : HO} {t' : Nat} (I : Inv X pins σ H s) (mu : Mut (H x)) (he : e = x ∨ H e = some (.own x)) (k : ∀ b u, b ≠ e → s.heap.get? b = some u → h'.get? b = some u) (heo : ∃ u, h'.get? e = some u)
    (new : ObjOk X.prog X.w (upd H x o) h' x o) : Inv X pins σ (upd H x o) { s with heap := h', toks := t' } := I.un (Un.write mu he k heo) (I.hok.write mu he k heo new)
/-- forgetting slots, pins -/
theorem Inv.weak {σ' : List (Option V)} (I : Inv X pins σ H s) (hl : σ'.length = σ.length) (w : ∀ (i : Nat) v, σ'[i]? = some (some v) → σ[i]? = some (some v)) : Inv X pins σ' H s :=
  ⟨I.ok, I.os, I.bare, I.base, let ⟨m, hn, hl'⟩ := I.loc; ⟨m, hn, fun i x v e1 e2 e3 => hl' i x v e1 (w i v e2) e3⟩, I.cell, I.free, I.freeC, I.pin, I.hok, hl.trans I.len⟩
theorem Inv.pins_of {pins' : List (Addr × Obj)} (I : Inv X pins σ H s) (h : ∀ p ∈ pins', s.heap.get? p.1 = some p.2 ∧ H p.1 = none ∧ p.1 ≠ X.env.locals ∧ p.1 ∉ X.fs ∧ ∀ v, p.2.data ≠ .cell v) : Inv X pins' σ H s :=
  ⟨I.ok, I.os, I.bare, I.base, I.loc, I.cell, I.free, I.freeC, fun p hp => (List.mem_append.mp hp).elim (fun z => I.pin p (List.mem_append_left _ z)) (h p), I.hok, I.len⟩

theorem nodup_ix {N : List Str} (hN : N.Nodup) {i j : Nat} {x : Str} (a : N[i]? = some x) (b : N[j]? = some x) : i = j := by
  obtain ⟨h1, e1⟩ := List.getElem?_eq_some_iff.mp a
  obtain ⟨h2, e2⟩ := List.getElem?_eq_some_iff.mp b
  exact (List.getElem_inj hN).mp (e1.trans e2.symm)

/-- a name is stored; what changed -/
theorem store_ok2 {M : Model} {A : Around} {E : Value → Shared → Prop} {i : Nat} {x : Str} {v : V} {u : Value} {Q : Unit → Shared → Prop} (I : Inv X pins σ H s) (hN : X.N.Nodup) (hi : X.N[i]? = some x) (hx : Loc X.env.scope x) (r : RelV v u)
    (h : ∀ s', Inv X pins (σ.set i (some v)) H s' → (∃ a, Heap.SameBut a s.heap s'.heap ∧ (a = X.env.locals ∨ X.env.cells.lookup x = some a)) → Q () s') (hf : X.fn x = true ∨ X.env.scope.names.lookup x = some .local := by first | exact .inl rfl | exact .inr rfl | assumption) : wpAny M A (storeName X.env x u) Q E s := by
  obtain ⟨m, hn, hl⟩ := id I.loc
  have hcls : (X.env.scope.kind == .class || (X.env.scope.kind == .module && X.env.locals != X.env.globals)) = false := by rw [I.ok.kind]; rfl
  have hiσ : i < σ.length := by rw [I.len]; exact (List.getElem?_eq_some_iff.mp hi).1
  have cne := I.cne
  have tracked : ∀ {a : Addr} {h' : Heap}, (∃ o, s.heap.get? a = some o ∧ H a = none) → Heap.SameBut a s.heap h' → HOk X.prog X.w H h' := fun {a h'} ha hs b ob e => by
    obtain ⟨_, _, hfree⟩ := ha
    refine (I.hok b ob e).stay (fun c w' hc q => (hs.2 c ?_).trans q) (fun _ q => q) fun _ _ q => q
    rintro rfl
    rcases hc with rfl | hc
    · rw [hfree] at e; cases e
    · rw [hfree] at hc; cases hc
  rcases hx with hk | hk
  · refine wpAny_storeName_local hk hn (fun h' hn' hs => ?_) hcls
    obtain ⟨oL, _, _, hoL, _⟩ := id hn
    refine h _ ⟨I.ok, I.os, I.bare, ⟨fun b o e n hb hx => ?_, fun b o e n hb hx => ?_, I.base.free, fun b o e hx => ?_, I.base.tups, I.base.frzs, I.base.tbls⟩, ⟨_, hn', fun j y v' e1 e2 e3 => ?_⟩, fun y c e => ?_, I.free, I.freeC, fun p hp => ?_, tracked ⟨oL, hoL, I.free⟩ hs, by simpa using I.len⟩ ⟨_, hs, .inl rfl⟩
    · exact (hs.2 b (Nat.ne_of_lt (Nat.lt_of_lt_of_le (Heap.lt_size e) I.ok.above))).trans (I.base.keep b o e n hb hx)
    · obtain ⟨sl, e1⟩ := I.base.slot b o e n hb hx
      exact ⟨sl, (hs.2 b (Nat.ne_of_lt (Nat.lt_of_lt_of_le (Heap.lt_size e) I.ok.above))).trans e1⟩
    · obtain ⟨o', e1⟩ := I.base.there b o e hx
      exact ⟨o', (hs.2 b (Nat.ne_of_lt (Nat.lt_of_lt_of_le (Heap.lt_size e) I.ok.above))).trans e1⟩
    · by_cases hj : j = i
      · subst hj
        rw [hi] at e1; cases e1
        rw [List.getElem?_set_self hiσ] at e2
        cases e2
        exact ⟨u, r, .inl ⟨hk, by simp⟩⟩
      · rw [List.getElem?_set_ne (Ne.symm hj)] at e2
        obtain ⟨u', r', q⟩ := hl j y v' e1 e2 e3
        refine ⟨u', r', ?_⟩
        rcases q with ⟨k, e⟩ | ⟨k, c, e, z⟩
        · refine .inl ⟨k, ?_⟩
          have : y ≠ x := fun e => hj (nodup_ix hN e1 (e ▸ hi))
          simp [this, e]
        · exact .inr ⟨k, c, e, z.sameBut hs (cne y c e)⟩
    · obtain ⟨w', z⟩ := I.cell y c e
      exact ⟨w', z.sameBut hs (cne y c e)⟩
    · obtain ⟨e, n, ne, nf, d⟩ := I.pin p hp
      exact ⟨(hs.2 p.1 ne).trans e, n, ne, nf, d⟩
  · have hfn : X.fn x = true := by
      rcases hf with z | z
      · exact z
      · rw [z] at hk; cases hk
    obtain ⟨c, hc⟩ := I.ok.has x (.inl hk)
    obtain ⟨w', z⟩ := I.cell x c hc
    refine wpAny_storeName_cell I.ok.kind hk hc z (fun h' hc' hs => ?_)
    obtain ⟨oc, hoc, hocd⟩ := id z
    refine h { s with heap := h' } ⟨I.ok, I.os, I.bare, ⟨fun b o e n hb hx => ?_, fun b o e n hb hx => ?_, I.base.free, fun b o e hx => ?_, I.base.tups, I.base.frzs, I.base.tbls⟩, ⟨m, hn.sameBut hs (Ne.symm (cne x c hc)), fun j y v' e1 e2 e3 => ?_⟩, fun y c' e => ?_, I.free, I.freeC, fun p hp => ?_, tracked ⟨oc, hoc, I.freeC x c hc⟩ hs, by simpa using I.len⟩ ⟨c, hs, .inr hc⟩
    · exact (hs.2 b (Nat.ne_of_lt (Nat.lt_of_lt_of_le (Heap.lt_size e) (I.ok.cab x c hfn hc)))).trans (I.base.keep b o e n hb hx)
    · obtain ⟨sl, e1⟩ := I.base.slot b o e n hb hx
      exact ⟨sl, (hs.2 b (Nat.ne_of_lt (Nat.lt_of_lt_of_le (Heap.lt_size e) (I.ok.cab x c hfn hc)))).trans e1⟩
    · obtain ⟨o', e1⟩ := I.base.there b o e hx
      exact ⟨o', (hs.2 b (Nat.ne_of_lt (Nat.lt_of_lt_of_le (Heap.lt_size e) (I.ok.cab x c hfn hc)))).trans e1⟩
    · by_cases hj : j = i
      · subst hj
        rw [hi] at e1; cases e1
        rw [List.getElem?_set_self hiσ] at e2
        cases e2
        exact ⟨u, r, .inr ⟨.inl hk, c, hc, hc'⟩⟩
      · rw [List.getElem?_set_ne (Ne.symm hj)] at e2
        obtain ⟨u', r', q⟩ := hl j y v' e1 e2 e3
        refine ⟨u', r', ?_⟩
        rcases q with q | ⟨k, c', e, z'⟩
        · exact .inl q
        · refine .inr ⟨k, c', e, z'.sameBut hs ?_⟩
          rintro rfl
          exact hj (nodup_ix hN e1 (I.ok.inj _ _ _ e hc ▸ hi))
    · by_cases hcc : c' = c
      · subst hcc; exact ⟨_, hc'⟩
      · obtain ⟨w2, z2⟩ := I.cell y c' e
        exact ⟨w2, z2.sameBut hs hcc⟩
    · obtain ⟨e, n, ne, nf, d⟩ := I.pin p hp
      refine ⟨(hs.2 p.1 ?_).trans e, n, ne, nf, d⟩
      intro q
      rw [q, hoc] at e
      have q' : oc = p.2 := Option.some.inj e
      exact d w' (by rw [← q']; exact hocd)
theorem store_ok {M : Model} {A : Around} {E : Value → Shared → Prop} {i : Nat} {x : Str} {v : V} {u : Value} {Q : Unit → Shared → Prop} (I : Inv X pins σ H s) (hN : X.N.Nodup) (hi : X.N[i]? = some x) (hx : Loc X.env.scope x) (r : RelV v u)
    (h : ∀ s', Inv X pins (σ.set i (some v)) H s' → Q () s') (hf : X.fn x = true ∨ X.env.scope.names.lookup x = some .local := by first | exact .inl rfl | exact .inr rfl | assumption) : wpAny M A (storeName X.env x u) Q E s :=
  store_ok2 I hN hi hx r (fun s' I' _ => h s' I') hf
/-- behind a call or a block, the state as it is -/
theorem Inv.call' {s' : Shared} {ch : List Addr} (I : Inv X pins σ H s) (ho : s'.os = s.os) (u : Un (frs X.stack) ch H H' s.heap s'.heap) (hok : HOk X.prog X.w H' s'.heap) (hg : AllBare s'.gens)
    (hch : ∀ b ∈ ch, (b ∈ X.ex ∨ X.s₀.heap.objs.size ≤ b) ∧ b ≠ X.env.locals ∧ (∀ x c, X.env.cells.lookup x = some c → c ≠ b) ∧ ∀ p ∈ X.pn ++ pins, p.1 ≠ b) : Inv X pins σ H' s' := by
  obtain ⟨h', g', d', t', o'⟩ := s'
  have e : o' = s.os := ho
  subst e
  exact I.call (g' := g') (t' := t') (d' := d') u hok hg hch
end

/-! ### the judgements -/
/-- an exception: its class, its own dict's address (where it has one), the abstract heap behind it -/
abbrev XK := Value → Option Addr → Hp → Prop
abbrev St := List (Option V)
abbrev VK := V → Hp → Prop
/-- an expression's reading; a test's; an argument list's -/
abbrev TE := St → Hp → VK → Prop
abbrev TT := St → Hp → (Bool → Hp → Prop) → Prop
abbrev TA := St → Hp → (List V → Hp → Prop) → Prop
/-- what is wanted behind a statement -/
structure Ends where
  nx : St → Hp → Prop
  rt : VK
  bk : St → Hp → Prop := fun _ _ => False
  ct : St → Hp → Prop := fun _ _ => False
abbrev TS := Ends → St → Hp → Prop

def EP (X : Cx) (pins : List (Addr × Obj)) (σ : St) (Q : VK) (u : Value) (s' : Shared) : Prop := ∃ v H', Inv X pins σ H' s' ∧ RelV v u ∧ Q v H'
def TP (X : Cx) (pins : List (Addr × Obj)) (σ : St) (Q : Bool → Hp → Prop) (b : Bool) (s' : Shared) : Prop := ∃ H', Inv X pins σ H' s' ∧ Q b H'
def AP (X : Cx) (pins : List (Addr × Obj)) (σ : St) (Q : List V → Hp → Prop) (us : List Value) (s' : Shared) : Prop := ∃ vs H', Inv X pins σ H' s' ∧ Vals vs us ∧ Q vs H'
def SP (X : Cx) (pins : List (Addr × Obj)) (D : Ends) (f : Flow) (s' : Shared) : Prop :=
  match f with
  | .next => ∃ σ' H', Inv X pins σ' H' s' ∧ D.nx σ' H'
  | .brk => ∃ σ' H', Inv X pins σ' H' s' ∧ D.bk σ' H'
  | .cont => ∃ σ' H', Inv X pins σ' H' s' ∧ D.ct σ' H'
  | .ret u => ∃ v σ' H', Inv X pins σ' H' s' ∧ RelV v u ∧ D.rt v H'

def PE (X : Cx) (e : Expr) (t : TE) : Prop :=
  ∀ (pins : List (Addr × Obj)) (s : Shared) (σ : St) (H : Hp) (Q : VK), Inv X pins σ H s → t σ H Q → wpAny (model X.prog X.w) X.A (eval e X.env) (EP X pins σ Q) X.xe s
def PT (X : Cx) (e : Expr) (t : TT) : Prop :=
  ∀ (pins : List (Addr × Obj)) (s : Shared) (σ : St) (H : Hp) (Q : Bool → Hp → Prop), Inv X pins σ H s → t σ H Q → wpAny (model X.prog X.w) X.A (isTrue e X.env (eval e X.env)) (TP X pins σ Q) X.xe s
/-- a test whatever its 'whole' is (and, or) -/
def PW (X : Cx) (e : Expr) (t : TT) : Prop :=
  ∀ (whole : Sem Value) (pins : List (Addr × Obj)) (s : Shared) (σ : St) (H : Hp) (Q : Bool → Hp → Prop), Inv X pins σ H s → t σ H Q → wpAny (model X.prog X.w) X.A (isTrue e X.env whole) (TP X pins σ Q) X.xe s
theorem PW.pt {X : Cx} {e : Expr} {t : TT} (h : PW X e t) : PT X e t := h _
/-- an argument list (no star), from the left -/
def PA (X : Cx) (es : List Expr) (t : TA) : Prop :=
  ∀ (pos : Pos) (pins : List (Addr × Obj)) (s : Shared) (σ : St) (H : Hp) (Q : List V → Hp → Prop), Inv X pins σ H s → t σ H Q → wpAny (model X.prog X.w) X.A (spliced (backTo pos (starEach es X.env))) (AP X pins σ Q) X.xe s
def PS (X : Cx) (st : Stmt) (t : TS) : Prop :=
  ∀ (pins : List (Addr × Obj)) (s : Shared) (σ : St) (H : Hp) (D : Ends), Inv X pins σ H s → t D σ H → wpAny (model X.prog X.w) X.A (exec st X.env) (SP X pins D) X.xe s
def PSs (X : Cx) (st : List Stmt) (t : TS) : Prop :=
  ∀ (pins : List (Addr × Obj)) (s : Shared) (σ : St) (H : Hp) (D : Ends), Inv X pins σ H s → t D σ H → wpAny (model X.prog X.w) X.A (execs st X.env) (SP X pins D) X.xe s
/-- weaken the end -/
theorem thn {α : Type} {t : Sem α} {Q Q' : α → Shared → Prop} {M : Model} {A : Around} {E : Value → Shared → Prop} {s : Shared} (h : wpAny M A t Q E s) (hQ : ∀ a s, Q a s → Q' a s) : wpAny M A t Q' E s := wpAny_mono h hQ fun _ _ x => x
end L2

namespace L2
open PySem PySem.Spec PyProof.Rows
section
variable {X : Cx}


/-! ### names and constants -/
def tVar (i : Nat) : TE := fun σ H Q => ∃ v, σ[i]? = some (some v) ∧ Q v H
def tC (v : V) : TE := fun _ H Q => Q v H
theorem pe_var {i : Nat} {x : Str} {pos : Pos} (hN : X.N[i]? = some x) (hv : Vis X.env.scope x) (hd : (x == ("__debug__" : Str)) = false := by decide) (hcd : (x == ("__classdict__" : Str)) = false := by decide) : PE X (.Name x pos) (tVar i) := by
  intro pins s σ H Q I h
  obtain ⟨v, e, h⟩ := h
  obtain ⟨m, hn, hl⟩ := I.loc
  obtain ⟨u, r, l⟩ := hl i x v hN e hv
  have fin : EP X pins σ Q u s := ⟨v, H, I, r, h⟩
  rcases l with ⟨hk, hm⟩ | ⟨hk, c, hc, hcell⟩
  · exact wpAny_Name (wpAny_loadName_local I.ok.kind hk hn hm fin) hd
  · rcases hk with hk | hk
    · exact wpAny_Name (wpAny_loadName_cell I.ok.kind hk hc hcell fin) hd
    · exact wpAny_Name (wpAny_loadName_free I.ok.kind hk hc hcell fin hcd) hd
theorem pe_int {i j pos} : PE X (.Constant (.int i) j pos) (tC (.int i)) := fun _ _ _ H _ I h => wpAny_Constant_int ⟨.int i, H, I.tok _, ⟨_, rfl⟩, h⟩
theorem pe_bl {b j pos} : PE X (.Constant (.bool b) j pos) (tC (.bl b)) := fun _ _ _ H _ I h => Constant_bool ⟨.bl b, H, I, rfl, h⟩
theorem pe_str {x j pos} : PE X (.Constant (.str x) j pos) (tC (.str x)) := fun _ _ _ H _ I h => Calls.Constant_str ⟨.str x, H, I.tok _, ⟨_, rfl⟩, h⟩

/-- a global name of the def -/
def Gl (X : Cx) (x : Str) : Prop := X.env.kindOf x = some .globalImplicit
theorem ld_glob {E : Value → Shared → Prop} {pins : List (Addr × Obj)} {s : Shared} {σ : St} {H : Hp} {x : Str} {u : Value} {pos : Pos} {Q : Value → Shared → Prop} (I : Inv X pins σ H s) (hg : Gl X x) (hm : X.mg x = some u) (h : Q u s)
    (hd : (x == ("__debug__" : Str)) = false := by decide) : wpAny (model X.prog X.w) X.A (eval (.Name x pos) X.env) Q E s :=
  Calls.Name_function_global I.ok.kind hg (Calls.loadGlobal_global (by rw [I.ok.glob]; exact I.mod.glob.keeps I.bk) hm h) hd
theorem ld_blt {E : Value → Shared → Prop} {pins : List (Addr × Obj)} {s : Shared} {σ : St} {H : Hp} {x : Str} {u : Value} {pos : Pos} {Q : Value → Shared → Prop} (I : Inv X pins σ H s) (hg : Gl X x) (hm : X.mg x = none) (hv : bootBuiltins x = some u) (h : Q u s)
    (hn : x ≠ "__name__" := by decide) (hd : (x == ("__debug__" : Str)) = false := by decide) : wpAny (model X.prog X.w) X.A (eval (.Name x pos) X.env) Q E s := by
  obtain ⟨mb, h1, h2⟩ := I.mod.blt
  exact Calls.Name_function_global I.ok.kind hg (Calls.loadGlobal_builtin (by rw [I.ok.glob]; exact I.mod.glob.keeps I.bk) hm (by rw [I.ok.blt]; exact h1.keeps I.bk) ((h2 x hn).trans hv) h) hd
/-- a module's constant, a class, a function, as a value -/
theorem pe_glob {x : Str} {v : V} {u : Value} {pos : Pos} (hg : Gl X x) (hm : X.mg x = some u) (r : RelV v u) (hd : (x == ("__debug__" : Str)) = false := by decide) : PE X (.Name x pos) (tC v) :=
  fun _ _ _ H _ I h => ld_glob I hg hm ⟨v, H, I, r, h⟩ hd
theorem pe_bltn {x : Str} {v : V} {u : Value} {pos : Pos} (hg : Gl X x) (hm : X.mg x = none) (hv : bootBuiltins x = some u) (r : RelV v u) (hn : x ≠ "__name__" := by decide) (hd : (x == ("__debug__" : Str)) = false := by decide) : PE X (.Name x pos) (tC v) :=
  fun _ _ _ H _ I h => ld_blt I hg hm hv ⟨v, H, I, r, h⟩ hn hd

/-! ### arithmetic -/
variable {a b : Expr} {ta tb : TE} {pos : Pos}

/-! ### comparisons -/
def PC (X : Cx) (op : CmpOp) (a b : Expr) (t : TE) : Prop :=
  ∀ (pins : List (Addr × Obj)) (s : Shared) (σ : St) (H : Hp) (Q : VK), Inv X pins σ H s → t σ H Q →
    wpAny (model X.prog X.w) X.A (eval a X.env) (fun v s₁ => wpAny (model X.prog X.w) X.A (eval b X.env) (fun u s₂ => wpAny (model X.prog X.w) X.A (compareOp op v u) (EP X pins σ Q) X.xe s₂) X.xe s₁) X.xe s
theorem nobehind (b : Expr) {op : CmpOp} (h : op ≠ .In) (h2 : op ≠ .NotIn) : behindInMarks op b = false := by
  have e1 : (op == CmpOp.In) = false := by cases op <;> first | rfl | exact absurd rfl h
  have e2 : (op == CmpOp.NotIn) = false := by cases op <;> first | rfl | exact absurd rfl h2
  cases b <;> simp [behindInMarks, e1, e2]
/-- is None -/
def tIsN (ta : TE) : TE := fun σ H Q => ta σ H fun x H1 => Q (.bl (decide (x = .non))) H1
def tNotN (ta : TE) : TE := fun σ H Q => ta σ H fun x H1 => Q (.bl (!decide (x = .non))) H1
theorem RelV.none_iff {x : V} {v : Value} (r : RelV x v) : (v == Value.none) = decide (x = .non) := by
  cases x with
  | non => cases r; rfl
  | bl _ => cases r; rfl
  | int _ => obtain ⟨t, rfl⟩ := r; rfl
  | str _ => obtain ⟨t, rfl⟩ := r; rfl
  | byt _ => obtain ⟨t, rfl⟩ := r; rfl
  | flt _ => obtain ⟨t, rfl⟩ := r; rfl
  | ref _ => cases r; rfl
  | ty _ => cases r; rfl
theorem pc_isN {j pos'} (ha : PE X a ta) : PC X .Is a (.Constant .none j pos') (tIsN ta) := by
  intro pins s σ H Q I h
  refine thn (ha pins s σ H _ I h) fun v s1 ⟨x, H1, I1, r1, q1⟩ => ?_
  exact Constant_none (is_none_gen ⟨.bl _, H1, I1, by rw [r1.none_iff]; rfl, q1⟩)
/-- a comparison as a value, as a test -/
def tB (t : TE) : TT := fun σ H Q => t σ H fun x H1 => ∃ c, x = .bl c ∧ Q c H1
theorem pe_cmp {op : CmpOp} {t : TE} (h : PC X op a b t) (h1 : behindInMarks op b = false := by first | exact nobehind _ (by decide) (by decide) | rfl) : PE X (.Compare a [op] [b] pos) t := fun pins s σ H Q I hw => wpAny_Compare1 (h pins s σ H Q I hw) h1
theorem pt_cmp {op : CmpOp} {t : TE} (h : PC X op a b t) (h1 : behindInMarks op b = false := by first | exact nobehind _ (by decide) (by decide) | rfl) : PT X (.Compare a [op] [b] pos) (tB t) := by
  intro pins s σ H Q I hw
  refine wpAny_isTrue_Compare1 (thn (h pins s σ H _ I hw) fun v s1 h1 => thn h1 fun u s2 h2 => thn h2 fun c s3 ⟨x, H1, I1, r1, q1⟩ => ?_) h1
  obtain ⟨d, rfl, q⟩ := q1
  cases r1
  exact wpAny_truthy_bool ⟨H1, I1, q⟩
/-- an expression whose value is a bool, as a test -/
theorem pt_val {e : Expr} {t : TE} (h : PE X e t) (he : ∀ whole, isTrue e X.env whole = (do let v ← whole; standAt e.pos; holding [v] (truthy v)) := by intro _; rfl) : PT X e (tB t) := by
  intro pins s σ H Q I hw
  refine isTrue_plain (thn (h pins s σ H _ I hw) fun v s1 ⟨x, H1, I1, r1, q1⟩ => ?_) (he _)
  obtain ⟨d, rfl, q⟩ := q1
  cases r1
  exact wpAny_truthy_bool ⟨H1, I1, q⟩

/-! ### and, or, not -/
variable {tA tB' : TT} {rest : List Expr}
def tAnd (t u : TT) : TT := fun σ H Q => t σ H fun c H1 => if c = true then u σ H1 Q else Q false H1
def tOr (t u : TT) : TT := fun σ H Q => t σ H fun c H1 => if c = true then Q true H1 else u σ H1 Q
def tNot (t : TT) : TT := fun σ H Q => t σ H fun c H1 => Q (!c) H1
theorem pw_and1 (ha : PT X a tA) : PW X (.BoolOp .And [a] pos) tA := by
  intro wh pins s σ H Q I h
  refine isTrue_and (thn (ha pins s σ H Q I h) fun c s1 e => ?_)
  cases c with
  | true => exact isTrue_and_nil e
  | false => exact e
theorem pw_or1 (ha : PT X a tA) : PW X (.BoolOp .Or [a] pos) tA := by
  intro wh pins s σ H Q I h
  refine isTrue_or (thn (ha pins s σ H Q I h) fun c s1 e => ?_)
  cases c with
  | false => exact isTrue_or_nil e
  | true => exact e
theorem pw_and (ha : PT X a tA) (hb : PW X (.BoolOp .And (b :: rest) pos) tB') : PW X (.BoolOp .And (a :: b :: rest) pos) (tAnd tA tB') := by
  intro wh pins s σ H Q I h
  refine isTrue_and (thn (ha pins s σ H _ I h) fun c s1 ⟨H1, I1, q1⟩ => ?_)
  cases c with
  | true => exact hb wh pins s1 σ H1 Q I1 q1
  | false => exact ⟨H1, I1, q1⟩
theorem pw_or (ha : PT X a tA) (hb : PW X (.BoolOp .Or (b :: rest) pos) tB') : PW X (.BoolOp .Or (a :: b :: rest) pos) (tOr tA tB') := by
  intro wh pins s σ H Q I h
  refine isTrue_or (thn (ha pins s σ H _ I h) fun c s1 ⟨H1, I1, q1⟩ => ?_)
  cases c with
  | true => exact ⟨H1, I1, q1⟩
  | false => exact hb wh pins s1 σ H1 Q I1 q1
theorem pt_not (ha : PT X a tA) : PT X (.UnaryOp .Not a pos) (tNot tA) := by
  intro pins s σ H Q I h
  exact isTrue_not (ha pins s σ H (fun c H1 => Q (!c) H1) I h)
/-- .. as values (bools) -/
def tAndV (ta tb : TE) : TE := fun σ H Q => ta σ H fun x H1 => ∃ c, x = .bl c ∧ if c = true then tb σ H1 Q else Q (.bl false) H1
def tOrV (ta tb : TE) : TE := fun σ H Q => ta σ H fun x H1 => ∃ c, x = .bl c ∧ if c = true then Q (.bl true) H1 else tb σ H1 Q
def tNotV (ta : TE) : TE := fun σ H Q => ta σ H fun x H1 => ∃ c, x = .bl c ∧ Q (.bl (!c)) H1
theorem pe_one {op} {t : TE} (h : PE X a t) : PE X (.BoolOp op [a] pos) t := fun pins s σ H Q I hw => BoolOp_one (h pins s σ H Q I hw)
theorem pe_and (ha : PE X a ta) (hb : PE X (.BoolOp .And (b :: rest) pos) tb) : PE X (.BoolOp .And (a :: b :: rest) pos) (tAndV ta tb) := by
  intro pins s σ H Q I h
  refine BoolOp_and (thn (ha pins s σ H _ I h) fun v s1 ⟨x, H1, I1, r1, q1⟩ => ?_)
  obtain ⟨c, rfl, q1⟩ := q1
  cases r1
  refine wpAny_truthy_bool ?_
  cases c with
  | true => exact hb pins s1 σ H1 Q I1 q1
  | false => exact ⟨.bl false, H1, I1, rfl, q1⟩
theorem pe_not (ha : PE X a ta) : PE X (.UnaryOp .Not a pos) (tNotV ta) := by
  intro pins s σ H Q I h
  refine UnaryOp_ (thn (ha pins s σ H _ I h) fun v s1 ⟨x, H1, I1, r1, q1⟩ => ?_)
  obtain ⟨c, rfl, q1⟩ := q1
  cases r1
  exact not_of (wpAny_truthy_bool ⟨.bl (!c), H1, I1, rfl, q1⟩)
/-- a if t else b -/
def tIf (t : TT) (ta tb : TE) : TE := fun σ H Q => t σ H fun c H1 => if c = true then ta σ H1 Q else tb σ H1 Q
theorem pe_ifExp {c : Expr} (hc : PT X c tA) (ha : PE X a ta) (hb : PE X b tb) : PE X (.IfExp c a b pos) (tIf tA ta tb) := by
  intro pins s σ H Q I h
  refine wpAny_IfExp (thn (hc pins s σ H _ I h) fun d s1 ⟨H1, I1, q1⟩ => ?_)
  cases d with
  | true => exact ha pins s1 σ H1 Q I1 q1
  | false => exact hb pins s1 σ H1 Q I1 q1
end
end L2

namespace L2
open PySem PySem.Spec PyProof.Rows

/-! ### a list, a tuple that is read: tracked, frozen, or an object of the module -/
def SqL (K : PySem.W.Frag) (H : Hp) (a : Addr) (xs : List V) : Prop :=
  Rd H a (.lst xs) ∨
    ∃ (o : Obj) (its : Array Value) (n : Nat), K.lookup a = some o ∧ o.cls = .type "list" ∧ o.dict = none ∧ o.data = .seq its n ∧ its.size ≤ sizeLine ∧ Vals xs its.toList
def SqT (K : PySem.W.Frag) (H : Hp) (a : Addr) (xs : List V) : Prop :=
  Rd H a (.tup xs) ∨
    ∃ (o : Obj) (its : Array Value) (n : Nat), K.lookup a = some o ∧ o.cls = .type "tuple" ∧ o.data = .seq its n ∧ its.size ≤ sizeLine ∧ Vals xs its.toList
def absV : Value → Option V
  | .none => some .non
  | .bool b => some (.bl b)
  | .int i _ => some (.int i)
  | .str x _ => some (.str x)
  | .bytes b _ => some (.byt b)
  | .float b _ => some (.flt b)
  | .ref a => some (.ref a)
  | .type n => some (.ty n)
  | _ => none
theorem RelV.abs {x : V} {u : Value} (r : RelV x u) : absV u = some x := by
  cases x with
  | non => cases r; rfl
  | bl _ => cases r; rfl
  | int _ => obtain ⟨t, rfl⟩ := r; rfl
  | str _ => obtain ⟨t, rfl⟩ := r; rfl
  | byt _ => obtain ⟨t, rfl⟩ := r; rfl
  | flt _ => obtain ⟨t, rfl⟩ := r; rfl
  | ref _ => cases r; rfl
  | ty _ => cases r; rfl
theorem RelV.inj {x y : V} {u : Value} (r : RelV x u) (q : RelV y u) : x = y := Option.some.inj (r.abs.symm.trans q.abs)
theorem Vals.inj : ∀ {xs ys : List V} {us : List Value}, Vals xs us → Vals ys us → xs = ys
  | _, _, _, .nil, .nil => rfl
  | _, _, _, .cons r t, .cons r' t' => by rw [r.inj r', Vals.inj t t']
section
variable {X : Cx} {pins : List (Addr × Obj)} {σ : St} {H : Hp} {s : Shared} {a : Addr} {xs ys : List V}
theorem SqL.of {K : PySem.W.Frag} (h : H a = some (.lst xs)) : SqL K H a xs := .inl (.inl h)
theorem SqT.of {K : PySem.W.Frag} (h : H a = some (.tup xs)) : SqT K H a xs := .inl (.inl h)
theorem Inv.list (I : Inv X pins σ H s) (h : SqL X.K H a xs) : ∃ its : List Value, Vals xs its ∧ PlainL s.heap a its.toArray ∧ xs.length ≤ sizeLine := by
  rcases h with h | ⟨o, its, n, hk, hc, hd, hs, hz, r⟩
  · obtain ⟨z, its, n, r, e⟩ := h.ok I.hok
    exact ⟨its, r, ⟨_, n, e, rfl, rfl, rfl⟩, z⟩
  · refine ⟨its.toList, r, ⟨o, n, I.kIn a o hk, hc, hd, by simpa using hs⟩, ?_⟩
    have e := r.length
    simp only [Array.length_toList] at e
    omega
theorem Inv.tuple (I : Inv X pins σ H s) (h : SqT X.K H a xs) : ∃ its : List Value, Vals xs its ∧ IsTup s.heap a its.toArray ∧ xs.length ≤ sizeLine := by
  rcases h with h | ⟨o, its, n, hk, hc, hs, hz, r⟩
  · obtain ⟨z, its, r, p⟩ := h.ok I.hok
    exact ⟨its, r, p, z⟩
  · refine ⟨its.toList, r, ⟨o, I.kIn a o hk, hc, n, by simpa using hs⟩, ?_⟩
    have e := r.length
    simp only [Array.length_toList] at e
    omega
theorem Inv.list_inj (I : Inv X pins σ H s) (h : SqL X.K H a xs) (h' : SqL X.K H a ys) : xs = ys := by
  obtain ⟨its, r, ⟨o, n, e, _, _, d⟩, _⟩ := I.list h
  obtain ⟨its', r', ⟨o', n', e', _, _, d'⟩, _⟩ := I.list h'
  rw [e] at e'; cases e'
  rw [d] at d'
  injection d' with d1 _
  have : its = its' := by simpa using congrArg Array.toList d1
  subst this
  exact r.inj r'
end

/-! ### another wish about exceptions -/
abbrev Cx.wish (X : Cx) (E : Value → Shared → Prop) : Cx := { X with xe := E }
/-- no exception leaves -/
abbrev Cx.nox (X : Cx) : Cx := X.wish fun _ _ => False
theorem Cx.Ok.wish {X : Cx} (ok : X.Ok) (E : Value → Shared → Prop) : (X.wish E).Ok :=
  ⟨ok.mod, ok.kind, ok.glob, ok.blt, ok.above, ok.inj, ok.has, ok.cab, ok.hd, ok.frames, ok.stk, ok.exf, ok.bs, ok.bsz, ok.noex, ok.exfs, ok.funs, ok.frf⟩
theorem Cx.Ok.unwish {X : Cx} {E : Value → Shared → Prop} (ok : (X.wish E).Ok) : X.Ok :=
  ⟨ok.mod, ok.kind, ok.glob, ok.blt, ok.above, ok.inj, ok.has, ok.cab, ok.hd, ok.frames, ok.stk, ok.exf, ok.bs, ok.bsz, ok.noex, ok.exfs, ok.funs, ok.frf⟩
section
variable {X : Cx} {pins : List (Addr × Obj)} {σ : St} {H : Hp} {s : Shared} {E : Value → Shared → Prop}
theorem Inv.wish (I : Inv X pins σ H s) (E : Value → Shared → Prop) : Inv (X.wish E) pins σ H s := ⟨I.ok.wish E, I.os, I.bare, I.base, I.loc, I.cell, I.free, I.freeC, I.pin, I.hok, I.len⟩
theorem Inv.unwish (I : Inv (X.wish E) pins σ H s) : Inv X pins σ H s := ⟨I.ok.unwish, I.os, I.bare, I.base, I.loc, I.cell, I.free, I.freeC, I.pin, I.hok, I.len⟩
theorem SP.unwish {D : Ends} {f : Flow} {s' : Shared} (h : SP (X.wish E) pins D f s') : SP X pins D f s' := by
  cases f with
  | next => obtain ⟨σ', H', I, q⟩ := h; exact ⟨σ', H', I.unwish, q⟩
  | brk => obtain ⟨σ', H', I, q⟩ := h; exact ⟨σ', H', I.unwish, q⟩
  | cont => obtain ⟨σ', H', I, q⟩ := h; exact ⟨σ', H', I.unwish, q⟩
  | ret u => obtain ⟨v, σ', H', I, r, q⟩ := h; exact ⟨v, σ', H', I.unwish, r, q⟩
theorem PE.nox {e : Expr} {t : TE} (h : PE X.nox e t) : PE X e t := fun pins s σ H Q I hw =>
  wpAny_mono (h pins s σ H Q (I.wish _) hw) (fun _ _ ⟨v, H', I', r, q⟩ => ⟨v, H', I'.unwish, r, q⟩) fun _ _ z => False.elim z
theorem PT.nox {e : Expr} {t : TT} (h : PT X.nox e t) : PT X e t := fun pins s σ H Q I hw =>
  wpAny_mono (h pins s σ H Q (I.wish _) hw) (fun _ _ ⟨H', I', q⟩ => ⟨H', I'.unwish, q⟩) fun _ _ z => False.elim z
theorem PSs.nox {st : List Stmt} {t : TS} (h : PSs X.nox st t) : PSs X st t := fun pins s σ H D I hw =>
  wpAny_mono (h pins s σ H D (I.wish _) hw) (fun _ _ q => q.unwish) fun _ _ z => False.elim z
end

/-! ### blocks and small statements -/
section
variable {X : Cx} {st : Stmt} {rest : List Stmt} {t u : TS} {e : Expr} {te : TE} {pos : Pos}
def tNext : TS := fun D σ H => D.nx σ H
def tSeq (t u : TS) : TS := fun D σ H => t { D with nx := u D } σ H
theorem pss_nil : PSs X [] tNext := fun _ _ σ H _ I h => wpAny_execs_nil ⟨σ, H, I, h⟩
theorem pss_cons (h1 : PS X st t) (h2 : PSs X rest u) : PSs X (st :: rest) (tSeq t u) := by
  intro pins s σ H D I h
  refine wpAny_execs_cons (thn (h1 pins s σ H { D with nx := u D } I h) fun f s1 q => ?_)
  cases f with
  | next =>
    obtain ⟨σ', H', I', q⟩ := q
    exact h2 pins s1 σ' H' D I' q
  | ret v => exact q
  | brk => exact q
  | cont => exact q
theorem pss_one (h1 : PS X st t) : PSs X [st] t := by
  intro pins s σ H D I h
  refine wpAny_execs_cons (thn (h1 pins s σ H D I h) fun f s1 q => ?_)
  cases f with
  | next => exact wpAny_execs_nil q
  | ret v => exact q
  | brk => exact q
  | cont => exact q
/-- in a def's body nothing is shown -/
theorem Inv.quiet {pins : List (Addr × Obj)} {σ : St} {H : Hp} {s : Shared} (I : Inv X pins σ H s) : interactive X.env = false := by simp [interactive, I.ok.kind]
/-- an expression whose value is dropped -/
def tDrop (te : TE) : TS := fun D σ H => te σ H fun _ H1 => D.nx σ H1
theorem ps_expr (he : PE X e te) (hs : swapsWith e none pos.line X.env = pure false := by rfl) : PS X (.Expr e pos) (tDrop te) := by
  intro pins s σ H D I h
  exact wpAny_Expr_any (thn (he pins s σ H _ I h) fun v s1 ⟨x, H1, I1, r1, q1⟩ => ⟨σ, H1, I1, q1⟩) I.quiet hs
def tRet (te : TE) : TS := fun D σ H => te σ H D.rt
theorem ps_ret (he : PE X e te) : PS X (.Return (some e) pos) (tRet te) := by
  intro pins s σ H D I h
  exact wpAny_Return_some (thn (he pins s σ H _ I h) fun v s1 ⟨x, H1, I1, r1, q1⟩ => ⟨x, σ, H1, I1, r1, q1⟩)
def tRetN : TS := fun D _ H => D.rt .non H
def tIfS (c : TT) (t u : TS) : TS := fun D σ H => c σ H fun b H1 => if b = true then t D σ H1 else u D σ H1
theorem ps_if {c : Expr} {a b : List Stmt} {tc : TT} (hc : PT X c tc) (ha : PSs X a t) (hb : PSs X b u) : PS X (.If c a b pos) (tIfS tc t u) := by
  intro pins s σ H D I h
  refine wpAny_If (thn (hc pins s σ H _ I h) fun d s1 ⟨H1, I1, q1⟩ => ?_)
  cases d with
  | true => exact ha pins s1 σ H1 D I1 q1
  | false => exact hb pins s1 σ H1 D I1 q1
/-- code that the proof never comes to -/
def tNever : TS := fun _ _ _ => False
theorem ps_never : PS X st tNever := fun _ _ _ _ _ _ h => h.elim
end

/-! ### targets -/
abbrev TG := V → St → Hp → (St → Hp → Prop) → Prop
abbrev TGs := List V → St → Hp → (St → Hp → Prop) → Prop
def PG (X : Cx) (target : Expr) (t : TG) : Prop :=
  ∀ (pins : List (Addr × Obj)) (s : Shared) (σ : St) (H : Hp) (v : V) (u : Value) (Q : St → Hp → Prop), Inv X pins σ H s → RelV v u → t v σ H Q →
    wpAny (model X.prog X.w) X.A (assign target X.env u) (fun _ s' => ∃ σ' H', Inv X pins σ' H' s' ∧ Q σ' H') X.xe s
/-- several targets, one after another -/
def PGs (X : Cx) (ts : List Expr) (t : TGs) : Prop :=
  ∀ (pins : List (Addr × Obj)) (s : Shared) (σ : St) (H : Hp) (vs : List V) (us : List Value) (Q : St → Hp → Prop), Inv X pins σ H s → Vals vs us → t vs σ H Q →
    wpAny (model X.prog X.w) X.A (assignInOrder ((assignEach ts X.env).map (·.2)) us) (fun _ s' => ∃ σ' H', Inv X pins σ' H' s' ∧ Q σ' H') X.xe s
/-- o[i] = v, by values -/
abbrev TSet := V → V → V → Hp → (Hp → Prop) → Prop
section
variable {X : Cx} {pos : Pos}
def gName (i : Nat) : TG := fun v σ H Q => Q (σ.set i (some v)) H
theorem pg_name {i : Nat} {x : Str} (hN : X.N.Nodup) (hi : X.N[i]? = some x) (hx : Loc X.env.scope x) (hf : X.fn x = true ∨ X.env.scope.names.lookup x = some .local := by first | exact .inl rfl | exact .inr rfl | assumption) : PG X (.Name x pos) (gName i) := by
  intro pins s σ H v u Q I r h
  exact wpAny_assign_Name (store_ok I hN hi hx r (fun s' I' => ⟨_, H, I', h⟩) hf)
def gNil : TGs := fun vs σ H Q => vs = [] ∧ Q σ H
def gCons (t : TG) (u : TGs) : TGs := fun vs σ H Q => ∃ v r, vs = v :: r ∧ t v σ H fun σ' H' => u r σ' H' Q
theorem pgs_nil : PGs X [] gNil := by
  intro pins s σ H vs us Q I r h
  obtain ⟨e, h⟩ := h
  subst e
  cases r
  exact assignInOrder_nil ⟨σ, H, I, h⟩
theorem pgs_cons {e : Expr} {es : List Expr} {t : TG} {u : TGs} (h1 : PG X e t) (h2 : PGs X es u)
    (hs : (assignEach (e :: es) X.env).map (·.2) = assign e X.env :: (assignEach es X.env).map (·.2) := by rfl) : PGs X (e :: es) (gCons t u) := by
  intro pins s σ H vs us Q I r h
  obtain ⟨v, vr, e1, h⟩ := h
  subst e1
  cases r with
  | cons r rr =>
    rw [hs]
    refine assignInOrder_cons (thn (h1 pins s σ H _ _ _ I r h) fun _ s1 ⟨σ1, H1, I1, q1⟩ => ?_)
    exact h2 pins s1 σ1 H1 _ _ Q I1 rr q1
/-- (a, b, ..) = a tuple of that length -/
def gTup (K : PySem.W.Frag) (n : Nat) (t : TGs) : TG := fun v σ H Q => ∃ a xs, v = .ref a ∧ SqT K H a xs ∧ xs.length = n ∧ t xs σ H Q
theorem pg_tup {es : List Expr} {k : Nat} {t : TGs} {n : Nat} (hc : X.calm = true) (h : PGs X es t)
    (hn : (assignEach es X.env).length = n := by rfl) (hst : (assignEach es X.env).findIdx? (·.1) = none := by rfl) : PG X (.Tuple es k pos) (gTup X.K n t) := by
  intro pins s σ H v u Q I r hw
  obtain ⟨a, xs, e1, hq, hl, hw⟩ := hw
  subst e1
  cases r
  obtain ⟨its, rv, ht, hz⟩ := I.tuple hq
  refine assign_Tuple_tuple (I.ok.hd hc) ht (by simp [hn, ← hl, rv.length]) hst fun h' hx => ?_
  have I1 : Inv X pins σ H { s with heap := h' } := I.kept (t' := s.toks) fun b o e => hx b o (Nat.ne_of_lt (Heap.lt_size e)) e
  exact h pins _ σ H xs _ Q I1 (by simpa using rv) hw
/-- o[i] = .. -/
def gSub (to ti : TE) (t : TSet) : TG := fun v σ H Q => to σ H fun o H1 => ti σ H1 fun i H2 => t o i v H2 fun H3 => Q σ H3
/-- target = value -/
def tAsg (te : TE) (g : TG) : TS := fun D σ H => te σ H fun x H1 => g x σ H1 D.nx
/-- name = value -/
theorem ps_set {i : Nat} {x : Str} {e : Expr} {te : TE} {pos' : Pos} (hN : X.N.Nodup) (hi : X.N[i]? = some x) (hx : Loc X.env.scope x) (he : PE X e te) (hs : swapsWith e (some (.Name x pos')) pos.line X.env = pure false := by rfl) (hf : X.fn x = true ∨ X.env.scope.names.lookup x = some .local := by first | exact .inl rfl | exact .inr rfl | assumption) :
    PS X (.Assign [.Name x pos'] e pos) (tAsg te (gName i)) := by
  intro pins s σ H D I h
  refine wpAny_Assign_Name (thn (he pins s σ H _ I h) fun v s1 ⟨y, H1, I1, r1, q1⟩ => ?_) hs
  exact store_ok I1 hN hi hx r1 (fun s2 I2 => ⟨_, H1, I2, q1⟩) hf
end

/-! ### while -/
section
variable {X : Cx} {pos : Pos}
end

/-! ### what a loop or a comprehension walks -/
/-- at turn i: it yields x (the heap may grow), or it stops -/
structure It where
  go : Nat → Hp → Prop
  yld : Nat → Hp → V → Hp → Prop
  stop : Nat → Hp → Prop
/-- the iterator's own objects may turn: they are not the frame's, not pinned, younger than the entry (or a comprehension's own) -/
def FpOk (X : Cx) (pins : List (Addr × Obj)) (H : Hp) (b : Addr) : Prop :=
  H b = none ∧ b ≠ X.env.locals ∧ b ∉ X.fs ∧ (b ∈ X.ex ∨ X.s₀.heap.objs.size ≤ b) ∧ (∀ x c, X.env.cells.lookup x = some c → c ≠ b) ∧ ∀ p ∈ X.pn ++ pins, p.1 ≠ b
theorem Inv.fpOk {X : Cx} {pins : List (Addr × Obj)} {σ : St} {H H' : Hp} {s : Shared} {b : Addr} (I : Inv X pins σ H s) (hb : s.heap.objs.size ≤ b) (hn : H' b = none) : FpOk X pins H' b := by
  refine ⟨hn, Nat.ne_of_gt (Nat.lt_of_lt_of_le I.lt hb), I.nofs hb, .inr (Nat.le_trans I.sz hb), fun x c e z => ?_, fun p hp z => ?_⟩
  · obtain ⟨v, q⟩ := I.cell x c e
    exact absurd (Nat.lt_of_lt_of_le q.lt (by rw [z]; exact hb)) (Nat.lt_irrefl _)
  · exact absurd (Nat.lt_of_lt_of_le (Heap.lt_size (I.pin p hp).1) (by rw [z]; exact hb)) (Nat.lt_irrefl _)
structure Turn (P : Program) (w : World) (K : PySem.W.Frag) (tg : Expr) (J : It) (fp : List Addr) (it : Addr) (tn : Nat → Heap → Prop) : Prop where
  mem : it ∈ fp
  obj : ∀ i h, tn i h → ∀ b ∈ fp, ∃ o, h.get? b = some o ∧ ∀ v, o.data ≠ .cell v
  keep : ∀ i h h', tn i h → (∀ b ∈ fp, ∀ o, h.get? b = some o → h'.get? b = some o) → tn i h'
  item : ∀ (X : Cx), X.prog = P → X.w = w → X.K = K → X.calm = true → ∀ (i : Nat) (pins : List (Addr × Obj)) (s : Shared) (σ : St) (H : Hp) (E : Value → Shared → Prop), Inv X pins σ H s → (∀ b ∈ fp, FpOk X pins H b) → tn i s.heap → J.go i H →
    wpAny (model P w) X.A (pyNext (.ref it)) (fun r s1 => ∃ u, r = some u ∧
      wpAny (model P w) X.A (letOwnedTupleGo tg (.ref it) u) (fun _ s2 => ∃ x H', Inv X pins σ H' s2 ∧ RelV x u ∧ J.yld i H x H' ∧ tn (i + 1) s2.heap ∧ ∀ b ∈ fp, H' b = none) E s1) E s
  done : ∀ (X : Cx), X.prog = P → X.w = w → X.K = K → X.calm = true → ∀ (i : Nat) (pins : List (Addr × Obj)) (s : Shared) (σ : St) (H : Hp) (E : Value → Shared → Prop), Inv X pins σ H s → (∀ b ∈ fp, FpOk X pins H b) → tn i s.heap → J.stop i H →
    wpAny (model P w) X.A (pyNext (.ref it)) (fun r s1 => r = none ∧ Inv X pins σ H s1) E s
  self : ∀ (A : Around) (i : Nat) (s : Shared) (Q : Value → Shared → Prop) (E : Value → Shared → Prop), tn i s.heap → Q (.ref it) s → wpAny (model P w) A (pyIter (.ref it)) Q E s
abbrev TI := St → Hp → (It → Hp → Prop) → Prop
/-- an iterator has come -/
def PIE (X : Cx) (pins : List (Addr × Obj)) (σ : St) (tg : Expr) (R : It → Hp → Prop) (itv : Value) (s2 : Shared) : Prop :=
  ∃ (it : Addr) (fp : List Addr) (tn : Nat → Heap → Prop) (J : It) (H' : Hp), itv = .ref it ∧ Inv X pins σ H' s2 ∧ Turn X.prog X.w X.K tg J fp it tn ∧ tn 0 s2.heap ∧ (∀ b ∈ fp, FpOk X pins H' b) ∧ R J H'
def PI (X : Cx) (tg iter : Expr) (wi : TI) : Prop :=
  ∀ (pins : List (Addr × Obj)) (s : Shared) (σ : St) (H : Hp) (R : It → Hp → Prop), Inv X pins σ H s → wi σ H R →
    wpAny (model X.prog X.w) X.A (eval iter X.env) (fun v s1 => wpAny (model X.prog X.w) X.A (pyIter v) (PIE X pins σ tg R) X.xe s1) X.xe s

/-- the step ahead of the store is nothing for an iterator that keeps no tuple -/
theorem go_of {M : Model} {A : Around} {E : Value → Shared → Prop} {s : Shared} {tg : Expr} {it : Addr} {u : Value} {o : Obj} {n : String} {vs : Array Value} {Q : Unit → Shared → Prop} (ho : s.heap.get? it = some o) (hc : o.cls = .type n) (hd : o.data = .fields vs)
    (hn : ["enumerate", "zip", "dict_itemiterator", "dict_reverseitemiterator", "odict_iterator", "itertools.zip_longest", "itertools.pairwise"].contains n = false) (hQ : Q () s) : wpAny M A (letOwnedTupleGo tg (.ref it) u) Q E s := by
  unfold letOwnedTupleGo
  cases tg <;> first
    | exact wpAny_pure hQ
    | (cases u <;> first
        | exact wpAny_pure hQ
        | (refine wpAny_bind (wpAny_load ho ?_)
           rw [hc, hd]
           show wpAny M A (if (["enumerate", "zip", "dict_itemiterator", "dict_reverseitemiterator", "odict_iterator", "itertools.zip_longest", "itertools.pairwise"].contains n && vs[0]? == some (rawInt _)) = true then _ else _) Q E s
           rw [if_neg (by intro h; rw [hn, Bool.false_and] at h; cases h)]
           exact wpAny_pure hQ))

/-- the list at a, as it stands at each turn (a loop may append to it) -/
def Itl (K : PySem.W.Frag) (a : Addr) : It :=
  ⟨fun i H => ∃ xs x, SqL K H a xs ∧ xs[i]? = some x, fun i H x H' => H' = H ∧ ∀ xs, SqL K H a xs → xs[i]? = some x, fun i H => ∃ xs, SqL K H a xs ∧ xs.length ≤ i⟩
def Itt (K : PySem.W.Frag) (a : Addr) : It :=
  ⟨fun i H => ∃ xs x, SqT K H a xs ∧ xs[i]? = some x, fun i H x H' => H' = H ∧ ∀ xs, SqT K H a xs → xs[i]? = some x, fun i H => ∃ xs, SqT K H a xs ∧ xs.length ≤ i⟩
/-- lo, lo + 1, .. (n of them) -/
def Itr (lo : Int) (n : Nat) : It := ⟨fun i _ => i < n, fun i H x H' => H' = H ∧ x = .int (lo + i), fun i _ => n ≤ i⟩
theorem turn_list {P : Program} {w : World} {K : PySem.W.Frag} {tg : Expr} (a it : Addr) : Turn P w K tg (Itl K a) [it] it (fun i h => h.IsListIter it a i) where
  mem := by simp
  obj := fun i h st b hb => by
    have e : b = it := by simpa using hb
    subst e
    obtain ⟨o, e, c, d⟩ := st
    exact ⟨o, e, fun v z => by rw [d] at z; cases z⟩
  keep := fun i h h' st k => st.at fun o e => k it (by simp) o e
  item := by
    intro X hP hw hK hc i pins s σ H E I hf st hg
    subst hP hw hK
    obtain ⟨xs, x, hq, hx⟩ := hg
    obtain ⟨its, rv, p, hz⟩ := I.list hq
    obtain ⟨u, hu, ru⟩ := rv.get hx
    obtain ⟨f0, f1, f2, f3, f4, f5⟩ := hf it (by simp)
    refine wpAny_pyNext_list_item st p.isList (x := u) (by simpa using hu) fun h' st' sb => ?_
    have I1 : Inv X pins σ H { s with heap := h' } := I.turned (t' := s.toks) (fun b o hb e => (sb.2 b hb).trans e) f0 f1 f3 f4 f5
    obtain ⟨o, e, c, d⟩ := id st'
    exact ⟨u, rfl, go_of (s := { s with heap := h' }) e c d (by decide) ⟨x, H, I1, ru, ⟨rfl, fun ys hy => by rw [I.list_inj hy hq]; exact hx⟩, st', fun b hb => (hf b hb).1⟩⟩
  done := by
    intro X hP hw hK hc i pins s σ H E I hf st hg
    subst hP hw hK
    obtain ⟨xs, hq, hx⟩ := hg
    obtain ⟨its, rv, p, hz⟩ := I.list hq
    obtain ⟨f0, f1, f2, f3, f4, f5⟩ := hf it (by simp)
    have hl := rv.length
    exact wpAny_pyNext_list_end (I.ok.hd hc) st p.isList (by simp; omega) fun h' eb => ⟨rfl, I.turned (t' := s.toks) (fun b o hb e => eb b o hb e) f0 f1 f3 f4 f5⟩
  self := fun _ _ _ _ _ st h => wpAny_pyIter_listiter st h
theorem turn_range {P : Program} {w : World} {K : PySem.W.Frag} {tg : Expr} (it : Addr) (lo : Int) (n : Nat) : Turn P w K tg (Itr lo n) [it] it (fun i h => IsRangeIter h it (lo + (i : Nat) * 1) ((n : Int) - (i : Nat)) 1) where
  mem := by simp
  obj := fun i h st b hb => by
    have e : b = it := by simpa using hb
    subst e
    exact ⟨_, st, fun v z => by
      have z' : Data.fields _ = Data.cell v := z
      cases z'⟩
  keep := fun i h h' st k => k it (by simp) _ st
  item := by
    intro X hP hw hK hc i pins s σ H E I hf st hg
    subst hP hw hK
    obtain ⟨f0, f1, f2, f3, f4, f5⟩ := hf it (by simp)
    have W := Walks.range (prog := X.prog) (w := X.w) (I.ok.hd hc) it lo 1 n
    refine W.item i s _ _ hg st fun v h' tk hv st' kk => ?_
    obtain ⟨t, rfl⟩ := hv
    have I1 : Inv X pins σ H { s with heap := h', toks := tk } := I.turned (fun b o hb e => kk b o (by simpa using hb) e) f0 f1 f3 f4 f5
    refine ⟨_, rfl, go_of (s := { s with heap := h', toks := tk }) (n := "range_iterator") st' rfl rfl (by decide) ⟨.int (lo + i), H, I1, ⟨t, ?_⟩, ⟨rfl, rfl⟩, st', fun b hb => (hf b hb).1⟩⟩
    rw [Int.mul_one]
  done := by
    intro X hP hw hK hc i pins s σ H E I hf st hg
    subst hP hw hK
    obtain ⟨f0, f1, f2, f3, f4, f5⟩ := hf it (by simp)
    exact wpAny_pyNext_range_end (I.ok.hd hc) st (by have : n ≤ i := hg; omega) fun h' eb => ⟨rfl, I.turned (t' := s.toks) (fun b o hb e => eb b o hb e) f0 f1 f3 f4 f5⟩
  self := fun _ _ _ _ _ st h => wpAny_pyIter_rangeiter st h
end L2

namespace L2
open PySem PySem.Spec PyProof.Rows
section
variable {X : Cx} {tg : Expr}
def iList (K : PySem.W.Frag) (tl : TE) : TI := fun σ H R => tl σ H fun x H1 => ∃ a, x = .ref a ∧ (∃ xs, SqL K H1 a xs) ∧ R (Itl K a) H1
def iTup (K : PySem.W.Frag) (tl : TE) : TI := fun σ H R => tl σ H fun x H1 => ∃ a, x = .ref a ∧ (∃ xs, SqT K H1 a xs) ∧ R (Itt K a) H1
theorem pi_list {l : Expr} {tl : TE} (hl : PE X l tl) : PI X tg l (iList X.K tl) := by
  intro pins s σ H R I h
  refine thn (hl pins s σ H _ I h) fun v s1 ⟨x, H1, I1, r1, q1⟩ => ?_
  obtain ⟨a, e, ⟨xs, hq⟩, q⟩ := q1
  subst e
  cases r1
  obtain ⟨its, rv, p, hz⟩ := I1.list hq
  refine wpAny_pyIter_list p.isList ?_
  refine ⟨s1.heap.objs.size, [s1.heap.objs.size], _, _, H1, rfl, I1.kept (t' := s1.toks) fun b o e => Heap.get?_push_of_some _ e, turn_list a _, ⟨_, Heap.get?_push_size _ rfl, rfl, rfl⟩, fun b hb => ?_, q⟩
  have e : b = s1.heap.objs.size := by simpa using hb
  subst e
  exact I1.fpOk (Nat.le_refl _) (I1.hok.fresh (Nat.le_refl _))
/-- a range object just made, walked -/
theorem range_it {pins : List (Addr × Obj)} {σ : St} {H : Hp} {s : Shared} {R : It → Hp → Prop} {E : Value → Shared → Prop} {lo hi : Int} {t u v : Tok} {tk : Nat} (I : Inv X pins σ H s) (h1 : -(2 ^ 62) ≤ lo) (h2 : lo < 2 ^ 62) (h3 : -(2 ^ 62) ≤ hi) (h4 : hi < 2 ^ 62)
    (q : R (Itr lo (hi - lo).toNat) H) : wpAny (model X.prog X.w) X.A (pyIter (.ref s.heap.objs.size)) (PIE X pins σ tg R) E { s with heap := s.heap.push { cls := .type "range", data := .fields #[.int lo t, .int hi u, .int 1 v] }, toks := tk } := by
  refine wpAny_pyIter_range (IsRange.new ..) (small_one h1 h2 h3 h4) ?_
  have I1 : Inv X pins σ H { s with heap := s.heap.push { cls := .type "range", data := .fields #[.int lo t, .int hi u, .int 1 v] }, toks := tk } := I.kept fun b o e => Heap.get?_push_of_some _ e
  refine ⟨(s.heap.push { cls := .type "range", data := .fields #[.int lo t, .int hi u, .int 1 v] }).objs.size, [(s.heap.push { cls := .type "range", data := .fields #[.int lo t, .int hi u, .int 1 v] }).objs.size], _, _, H, rfl,
    I1.kept (t' := tk) fun b o e => Heap.get?_push_of_some _ e, turn_range _ lo (hi - lo).toNat, ?_, fun b hb => ?_, q⟩
  · have e1 : lo + ((0 : Nat) : Int) * 1 = lo := by simp
    have e2 : (((hi - lo).toNat : Nat) : Int) - ((0 : Nat) : Int) = Builtin.Range.rangeSize lo hi 1 := by rw [rangeSize_one]; split <;> omega
    show IsRangeIter _ _ (lo + ((0 : Nat) : Int) * 1) ((((hi - lo).toNat : Nat) : Int) - ((0 : Nat) : Int)) 1
    rw [e1, e2]
    exact Heap.get?_push_size _ rfl
  · have e : b = (s.heap.push { cls := .type "range", data := .fields #[.int lo t, .int hi u, .int 1 v] }).objs.size := by simpa using hb
    subst e
    exact I1.fpOk (Nat.le_refl _) (I1.hok.fresh (Nat.le_refl _))
def iRng1 (ta : TA) : TI := fun σ H R => ta σ H fun vs H1 => ∃ j : Int, vs = [.int j] ∧ -(2 ^ 62) ≤ j ∧ j < 2 ^ 62 ∧ R (Itr 0 j.toNat) H1
def iRng2 (ta : TA) : TI := fun σ H R => ta σ H fun vs H1 => ∃ i j : Int, vs = [.int i, .int j] ∧ (-(2 ^ 62) ≤ i ∧ i < 2 ^ 62 ∧ -(2 ^ 62) ≤ j ∧ j < 2 ^ 62) ∧ R (Itr i (j - i).toNat) H1
theorem pi_range1 {a : Expr} {ta : TA} {p pos : Pos} (hg : Gl X "range") (hm : X.mg "range" = none) (ha : PA X [a] ta) (hs : starEach [a] X.env = [(false, eval a X.env)] := by rfl) : PI X tg (.Call (.Name "range" p) [a] [] pos) (iRng1 ta) := by
  intro pins s σ H R I h
  refine Call_ (ld_blt I hg hm boot_range (PyProof.Rows.callWith_type1 (thn (ha pos pins s σ H _ I h) fun us s1 ⟨vs, H1, I1, r1, q1⟩ => ?_) hs rfl))
  obtain ⟨j, e, q1, q2, q⟩ := q1
  subst e
  cases r1 with
  | cons r rr =>
    cases rr
    obtain ⟨t, rfl⟩ := r
    exact call_range_1 (range_it I1 (by omega) (by omega) q1 q2 (by simpa using q))
theorem pi_range2 {a b : Expr} {ta : TA} {p pos : Pos} (hg : Gl X "range") (hm : X.mg "range" = none) (ha : PA X [a, b] ta) (hs : starEach [a, b] X.env = [(false, eval a X.env), (false, eval b X.env)] := by rfl) (hs2 : starEach [b] X.env = [(false, eval b X.env)] := by rfl) :
    PI X tg (.Call (.Name "range" p) [a, b] [] pos) (iRng2 ta) := by
  intro pins s σ H R I h
  refine Call_ (ld_blt I hg hm boot_range (PyProof.Rows.callWith_type1 (thn (ha pos pins s σ H _ I h) fun us s1 ⟨vs, H1, I1, r1, q1⟩ => ?_) (by rw [hs, hs2]) (by rw [hs2]; rfl)))
  obtain ⟨i, j, e, ⟨q1, q2, q3, q4⟩, q⟩ := q1
  subst e
  cases r1 with
  | cons r rr =>
    cases rr with
    | cons r' rr =>
      cases rr
      obtain ⟨t, rfl⟩ := r
      obtain ⟨t', rfl⟩ := r'
      exact call_range_2 (range_it I1 q1 q2 q3 q4 q)

/-! ### for -/
/-- W: the invariant by the turn and a measure; N: what the body is to reach -/
def tFor (wi : TI) (g : TG) (tb : TS) : TS := fun D σ H => wi σ H fun J H1 => ∃ W : Nat → Nat → St → Hp → Prop, (∃ m, W 0 m σ H1) ∧ ∀ i m σ H, W i m σ H →
  (J.stop i H ∧ D.nx σ H) ∨ (J.go i H ∧ ∃ N : St → Hp → Prop, (∀ σ' H', N σ' H' → ∃ m', m' < m ∧ W (i + 1) m' σ' H') ∧ ∀ x H', J.yld i H x H' → g x σ H' fun σ2 H2 => tb { D with nx := N, ct := N, bk := D.nx } σ2 H2)
/-- the records at fp as they stand -/
def pinsAt (fp : List Addr) (h : Heap) : List (Addr × Obj) := fp.filterMap fun b => (h.get? b).map fun o => (b, o)
theorem mem_pinsAt {fp : List Addr} {h : Heap} {b : Addr} {o : Obj} (hb : b ∈ fp) (e : h.get? b = some o) : (b, o) ∈ pinsAt fp h := List.mem_filterMap.mpr ⟨b, hb, by rw [e]; rfl⟩
theorem of_pinsAt {fp : List Addr} {h : Heap} {p : Addr × Obj} (hp : p ∈ pinsAt fp h) : p.1 ∈ fp ∧ h.get? p.1 = some p.2 := by
  obtain ⟨b, hb, e⟩ := List.mem_filterMap.mp hp
  cases q : h.get? b with
  | none => rw [q] at e; cases e
  | some o =>
    rw [q] at e
    have e' : (b, o) = p := Option.some.inj e
    subst e'
    exact ⟨hb, q⟩
theorem Inv.pinned {pins : List (Addr × Obj)} {σ : St} {H : Hp} {s : Shared} {fp : List Addr} (I : Inv X pins σ H s) (hf : ∀ b ∈ fp, FpOk X pins H b) (ho : ∀ b ∈ fp, ∃ o, s.heap.get? b = some o ∧ ∀ v, o.data ≠ .cell v) : Inv X (pins ++ pinsAt fp s.heap) σ H s :=
  I.pins_of fun p hp => (List.mem_append.mp hp).elim (fun z => I.pin p (List.mem_append_right _ z)) fun z => by
    obtain ⟨hb, e⟩ := of_pinsAt z
    obtain ⟨f0, f1, f2, _⟩ := hf p.1 hb
    obtain ⟨o, e', d⟩ := ho p.1 hb
    rw [e] at e'; cases e'
    exact ⟨e, f0, f1, f2, d⟩
theorem Inv.unpinned {pins pl : List (Addr × Obj)} {σ : St} {H : Hp} {s : Shared} (I : Inv X (pins ++ pl) σ H s) : Inv X pins σ H s := I.pins_of fun p hp => I.pin p (List.mem_append_right _ (List.mem_append_left _ hp))
theorem ps_for {iter : Expr} {body : List Stmt} {wi : TI} {g : TG} {tb : TS} {pos : Pos} (hp : PassesOwn (model X.prog X.w) X.A X.env X.xe) (hc : X.calm = true) (hi : PI X tg iter wi) (hg : PG X tg g) (hb : PSs X body tb)
    (hs : ∀ x, foldedSetIterable iter X.env x = pure x := by intro _; rfl) : PS X (.For tg iter body [] pos) (tFor wi g tb) := by
  intro pins s σ H D I h
  refine wpAny_For (thn (hi pins s σ H _ I h) fun v s1 h1 => thn h1 fun itv s2 h2 => ?_) hs
  obtain ⟨it, fp, tn, J, H2, e, I2, T, st2, f2, W, ⟨m0, w0⟩, turn⟩ := h2
  subst e
  -- what stays true of the iterator's objects through the loop
  have stat : ∀ {H' : Hp}, (∀ b ∈ fp, H' b = none) → ∀ b ∈ fp, FpOk X pins H' b := fun hn b hb => ⟨hn b hb, (f2 b hb).2⟩
  refine codeAny_forLoop_any (fun n s' => ∃ i σ' H', Inv X pins σ' H' s' ∧ tn i s'.heap ∧ (∀ b ∈ fp, H' b = none) ∧ W i n σ' H') ?_ m0 ⟨0, σ, H2, I2, st2, fun b hb => (f2 b hb).1, w0⟩
  rintro n s3 ⟨i, σ3, H3, I3, st3, fr3, w3⟩
  rcases turn i n σ3 H3 w3 with ⟨stop, qn⟩ | ⟨go, N, hN, step⟩
  · refine wpAny_passesOwn hp (thn (T.done X rfl rfl rfl hc i pins s3 σ3 H3 X.xe I3 (stat fr3) st3 stop) fun r s4 ⟨hr, I4⟩ => ?_)
    subst hr
    exact wpAny_execs_nil ⟨σ3, H3, I4, qn⟩
  · refine wpAny_passesOwn hp (thn (T.item X rfl rfl rfl hc i pins s3 σ3 H3 X.xe I3 (stat fr3) st3 go) fun r s4 ⟨u, hr, h4⟩ => ?_)
    subst hr
    refine wpAny_passesOwn hp (thn h4 fun _ s5 ⟨x, H5, I5, r5, y5, st5, fr5⟩ => ?_)
    have I5' := I5.pinned (stat fr5) (T.obj _ _ st5)
    refine wpAny_passesOwn hp (thn (hg _ s5 σ3 H5 x u _ I5' r5 (step x H5 y5)) fun _ s6 ⟨σ6, H6, I6, q6⟩ => ?_)
    refine wpAny_passesOwn hp (thn (hb _ s6 σ6 H6 _ I6 q6) fun f s7 q7 => ?_)
    have again : ∀ {σ7 : St} {H7 : Hp}, Inv X (pins ++ pinsAt fp s5.heap) σ7 H7 s7 → N σ7 H7 → ∃ m, m < n ∧ ∃ i σ' H', Inv X pins σ' H' s7 ∧ tn i s7.heap ∧ (∀ b ∈ fp, H' b = none) ∧ W i m σ' H' := fun {σ7 H7} I7 n7 => by
      obtain ⟨m', hm, w7⟩ := hN σ7 H7 n7
      refine ⟨m', hm, i + 1, σ7, H7, I7.unpinned, T.keep _ _ _ st5 fun b hb o e => (I7.pin (b, o) (List.mem_append_right _ (List.mem_append_right _ (mem_pinsAt hb e)))).1, fun b hb => ?_, w7⟩
      obtain ⟨o, e, d⟩ := T.obj _ _ st5 b hb
      exact (I7.pin (b, o) (List.mem_append_right _ (List.mem_append_right _ (mem_pinsAt hb e)))).2.1
    cases f with
    | next => obtain ⟨σ7, H7, I7, n7⟩ := q7; exact again I7 n7
    | cont => obtain ⟨σ7, H7, I7, n7⟩ := q7; exact again I7 n7
    | brk => obtain ⟨σ7, H7, I7, q7⟩ := q7; exact ⟨σ7, H7, I7.unpinned, q7⟩
    | ret v => obtain ⟨x7, σ7, H7, I7, r7, q7⟩ := q7; exact ⟨x7, σ7, H7, I7.unpinned, r7, q7⟩
end

/-! ### the forms one uses -/
end L2

namespace L2
open PySem PySem.Spec PyProof.Rows

abbrev R2 := V → V → Hp → VK → Prop
/-- a two-place operation on values: f is binaryOp op, inplaceOp op or compareOp op -/
def OpR (X : Cx) (f : Value → Value → Sem Value) (r : R2) : Prop :=
  ∀ (pins : List (Addr × Obj)) (s : Shared) (σ : St) (H : Hp) (x y : V) (v u : Value) (Q : VK), Inv X pins σ H s → RelV x v → RelV y u → r x y H Q →
    wpAny (model X.prog X.w) X.A (f v u) (EP X pins σ Q) X.xe s
/-- a one-place operation -/
def UnR (X : Cx) (f : Value → Sem Value) (r : V → Hp → VK → Prop) : Prop :=
  ∀ (pins : List (Addr × Obj)) (s : Shared) (σ : St) (H : Hp) (x : V) (v : Value) (Q : VK), Inv X pins σ H s → RelV x v → r x H Q →
    wpAny (model X.prog X.w) X.A (f v) (EP X pins σ Q) X.xe s
/-- a call of a value that is known (a builtin, a type) with values -/
def CallR (X : Cx) (f : Value) (r : List V → Hp → VK → Prop) : Prop :=
  ∀ (pins : List (Addr × Obj)) (s : Shared) (σ : St) (H : Hp) (xs : List V) (us : List Value) (Q : VK), Inv X pins σ H s → Vals xs us → r xs H Q →
    wpAny (model X.prog X.w) X.A (call f us) (EP X pins σ Q) X.xe s

def tOp (r : R2) (ta tb : TE) : TE := fun σ H Q => ta σ H fun x H1 => tb σ H1 fun y H2 => r x y H2 Q
def tUn (r : V → Hp → VK → Prop) (ta : TE) : TE := fun σ H Q => ta σ H fun x H1 => r x H1 Q
/-- ints in, under C, and a value out -/
def rI (C : Int → Int → Prop) (g : Int → Int → V) : R2 := fun x y H Q => ∃ i j, x = .int i ∧ y = .int j ∧ C i j ∧ Q (g i j) H
def rI0 (g : Int → Int → V) : R2 := fun x y H Q => ∃ i j, x = .int i ∧ y = .int j ∧ Q (g i j) H
def rU (g : Int → V) : V → Hp → VK → Prop := fun x H Q => ∃ i, x = .int i ∧ Q (g i) H

section
variable {X : Cx} {a b c : Expr} {ta tb tc : TE} {pos : Pos}

theorem binT (ha : PE X a ta) (hb : PE X b tb) {pins : List (Addr × Obj)} {s : Shared} {σ : St} {H : Hp} {R : V → V → Hp → Prop} (I : Inv X pins σ H s)
    (h : ta σ H fun x H1 => tb σ H1 fun y H2 => R x y H2) {Q : Value → Shared → Prop} {f : Value → Value → Sem Value}
    (hf : ∀ v u s2 x y H2, Inv X pins σ H2 s2 → RelV x v → RelV y u → R x y H2 → wpAny (model X.prog X.w) X.A (f v u) Q X.xe s2) :
    wpAny (model X.prog X.w) X.A (eval a X.env) (fun v s₁ => wpAny (model X.prog X.w) X.A (eval b X.env) (fun u s₂ => wpAny (model X.prog X.w) X.A (f v u) Q X.xe s₂) X.xe s₁) X.xe s := by
  refine thn (ha pins s σ H _ I h) fun v s1 ⟨x, H1, I1, r1, q1⟩ => ?_
  refine thn (hb pins s1 σ H1 _ I1 q1) fun u s2 ⟨y, H2, I2, r2, q2⟩ => ?_
  exact hf v u s2 x y H2 I2 r1 r2 q2

theorem pe_op {op : Operator} {r : R2} (ho : OpR X (binaryOp op) r) (ha : PE X a ta) (hb : PE X b tb) : PE X (.BinOp a op b pos) (tOp r ta tb) := by
  intro pins s σ H Q I h
  exact wpAny_BinOp (binT ha hb I h fun v u s2 x y H2 I2 rx ry q => ho pins s2 σ H2 x y v u Q I2 rx ry q)
theorem pe_un {op : UnaryOp} {r : V → Hp → VK → Prop} (ho : UnR X (unaryOp op) r) (ha : PE X a ta) : PE X (.UnaryOp op a pos) (tUn r ta) := by
  intro pins s σ H Q I h
  exact UnaryOp_ (thn (ha pins s σ H _ I h) fun v s1 ⟨x, H1, I1, r1, q1⟩ => ho pins s1 σ H1 x v Q I1 r1 q1)

/-! ### ints -/
theorem opI {f : Value → Value → Sem Value} {C : Int → Int → Prop} {g : Int → Int → Int}
    (rule : ∀ (i j : Int) (t u : Tok) (s : Shared) (Q : Value → Shared → Prop) (E : Value → Shared → Prop), C i j → Q (.int (g i j) s.toks) { s with toks := s.toks + 1 } → wpAny (model X.prog X.w) X.A (f (.int i t) (.int j u)) Q E s) :
    OpR X f (rI C fun i j => .int (g i j)) := by
  intro pins s σ H x y v u Q I rx ry h
  obtain ⟨i, j, rfl, rfl, hc, q⟩ := h
  obtain ⟨t, rfl⟩ := rx
  obtain ⟨t', rfl⟩ := ry
  exact rule i j t t' s _ _ hc ⟨.int (g i j), H, I.tok _, ⟨_, rfl⟩, q⟩
theorem opI0 {f : Value → Value → Sem Value} {g : Int → Int → Int}
    (rule : ∀ (i j : Int) (t u : Tok) (s : Shared) (Q : Value → Shared → Prop) (E : Value → Shared → Prop), Q (.int (g i j) s.toks) { s with toks := s.toks + 1 } → wpAny (model X.prog X.w) X.A (f (.int i t) (.int j u)) Q E s) :
    OpR X f (rI0 fun i j => .int (g i j)) := by
  intro pins s σ H x y v u Q I rx ry h
  obtain ⟨i, j, rfl, rfl, q⟩ := h
  obtain ⟨t, rfl⟩ := rx
  obtain ⟨t', rfl⟩ := ry
  exact rule i j t t' s _ _ ⟨.int (g i j), H, I.tok _, ⟨_, rfl⟩, q⟩
theorem opB0 {f : Value → Value → Sem Value} {g : Int → Int → Bool}
    (rule : ∀ (i j : Int) (t u : Tok) (s : Shared) (Q : Value → Shared → Prop) (E : Value → Shared → Prop), Q (.bool (g i j)) s → wpAny (model X.prog X.w) X.A (f (.int i t) (.int j u)) Q E s) :
    OpR X f (rI0 fun i j => .bl (g i j)) := by
  intro pins s σ H x y v u Q I rx ry h
  obtain ⟨i, j, rfl, rfl, q⟩ := h
  obtain ⟨t, rfl⟩ := rx
  obtain ⟨t', rfl⟩ := ry
  exact rule i j t t' s _ _ ⟨.bl (g i j), H, I, rfl, q⟩

def CDiv (i j : Int) : Prop := 0 < j ∧ j < 1073741824
def CMul (i j : Int) : Prop := (-(2 ^ 64) < i ∧ i < 2 ^ 64) ∨ (-(2 ^ 64) < j ∧ j < 2 ^ 64)
theorem CMul.ok {i j : Int} (h : CMul i j) : IntMulOk i j := by
  rcases h with ⟨h1, h2⟩ | ⟨h1, h2⟩
  · exact .of_left (intBits_le_64 h1 h2)
  · exact .of_right (intBits_le_64 h1 h2)

theorem op_add : OpR X (binaryOp .Add) (rI0 fun i j => .int (i + j)) := opI0 fun _ _ _ _ _ _ _ q => add_int q
theorem op_sub : OpR X (binaryOp .Sub) (rI0 fun i j => .int (i - j)) := opI0 fun _ _ _ _ _ _ _ q => sub_int q
theorem op_mul : OpR X (binaryOp .Mult) (rI CMul fun i j => .int (i * j)) := opI fun _ _ _ _ _ _ _ hc q => mul_int q hc.ok
/-- // by a positive divisor -/
theorem op_fdiv : OpR X (binaryOp .FloorDiv) (rI CDiv fun i j => .int (i / j)) := opI fun i j _ _ _ _ _ hc q => by
  have h1 : (0 : Int) < j := hc.1
  have h2 : j < 1073741824 := hc.2
  exact floordiv_int (by omega) (by rw [Int.fdiv_eq_ediv_of_nonneg i (by omega)]; exact q) (.inl (PyProof.noPylong_small (by omega)))
/-- % by a positive divisor of any size -/
theorem op_mod : OpR X (binaryOp .Mod) (rI (fun _ j => 0 < j) fun i j => .int (i % j)) := opI fun i j _ _ _ _ _ hc q => by
  have h1 : (0 : Int) < j := hc
  exact mod_int' (by omega) (by rw [Int.fmod_eq_emod_of_nonneg i (by omega)]; exact q)


theorem unI {f : Value → Sem Value} {g : Int → Int}
    (rule : ∀ (i : Int) (t : Tok) (s : Shared) (Q : Value → Shared → Prop) (E : Value → Shared → Prop), Q (.int (g i) s.toks) { s with toks := s.toks + 1 } → wpAny (model X.prog X.w) X.A (f (.int i t)) Q E s) :
    UnR X f (rU fun i => .int (g i)) := by
  intro pins s σ H x v Q I rx h
  obtain ⟨i, rfl, q⟩ := h
  obtain ⟨t, rfl⟩ := rx
  exact rule i t s _ _ ⟨.int (g i), H, I.tok _, ⟨_, rfl⟩, q⟩
theorem un_neg : UnR X (unaryOp .USub) (rU fun i => .int (-i)) := unI fun _ _ _ _ _ q => neg_int q

/-! ### bools among ints: n += (a < b) -/
end

/-! ### comparisons -/
/-- the scalars that == tells apart as data does -/
def scal : V → V → Bool
  | .non, .non => true | .non, .int _ => true | .int _, .non => true | .non, .bl _ => true | .bl _, .non => true | .non, .str _ => true | .str _, .non => true
  | .int _, .int _ => true | .bl _, .bl _ => true | .str _, .str _ => true | .byt _, .byt _ => true
  | .int _, .str _ => true | .str _, .int _ => true | .bl _, .str _ => true | .str _, .bl _ => true
  | _, _ => false
def rEq : R2 := fun x y H Q => scal x y = true ∧ Q (.bl (decide (x = y))) H
def rNe : R2 := fun x y H Q => scal x y = true ∧ Q (.bl (!decide (x = y))) H

theorem dec_int {i j : Int} : decide (V.int i = V.int j) = (i == j) := by
  rw [Bool.eq_iff_iff]
  simp
theorem dec_bl {i j : Bool} : decide (V.bl i = V.bl j) = (i == j) := by
  rw [Bool.eq_iff_iff]
  simp
theorem dec_str {i j : Str} : decide (V.str i = V.str j) = (i == j) := by
  rw [Bool.eq_iff_iff]
  simp
theorem dec_byt {i j : Array UInt8} : decide (V.byt i = V.byt j) = (i.toList == j.toList) := by
  rw [Bool.eq_iff_iff]
  cases i
  cases j
  simp

section
variable {X : Cx} {a b c : Expr} {ta tb tc : TE} {pos : Pos}
theorem fin_bl {pins : List (Addr × Obj)} {σ : St} {H : Hp} {s : Shared} {Q : VK} {k k' : Bool} (I : Inv X pins σ H s) (q : Q (.bl k) H) (e : k = k') : EP X pins σ Q (.bool k') s := by
  subst e
  exact ⟨.bl k, H, I, rfl, q⟩
theorem op_eq : OpR X (compareOp .Eq) rEq := by
  intro pins s σ H x y v u Q I rx ry h
  obtain ⟨hs, q⟩ := h
  cases x with
  | non =>
    cases rx
    cases y with
    | non => cases ry; exact PySem.EqNone.eq_none_none (fin_bl I q (by simp))
    | bl j => cases ry; exact PySem.EqNone.eq_none_bool (fin_bl I q (by simp))
    | int j => obtain ⟨t', rfl⟩ := ry; exact PySem.EqNone.eq_none_int (fin_bl I q (by simp))
    | str j => obtain ⟨t', rfl⟩ := ry; exact PySem.EqNone.eq_none_str (fin_bl I q (by simp))
    | _ => exact absurd (show false = true from hs) Bool.false_ne_true
  | bl i =>
    cases rx
    cases y with
    | non => cases ry; exact PySem.EqNone.eq_bool_none (fin_bl I q (by simp))
    | bl j => cases ry; exact eq_bool (fin_bl I q dec_bl)
    | str j => obtain ⟨t', rfl⟩ := ry; exact PySem.EqMixed.eq_bool_str (fin_bl I q (by simp))
    | _ => exact absurd (show false = true from hs) Bool.false_ne_true
  | int i =>
    obtain ⟨t, rfl⟩ := rx
    cases y with
    | non => cases ry; exact PySem.EqNone.eq_int_none (fin_bl I q (by simp))
    | int j => obtain ⟨t', rfl⟩ := ry; exact eq_int (fin_bl I q dec_int)
    | str j => obtain ⟨t', rfl⟩ := ry; exact PySem.EqMixed.eq_int_str (fin_bl I q (by simp))
    | _ => exact absurd (show false = true from hs) Bool.false_ne_true
  | str i =>
    obtain ⟨t, rfl⟩ := rx
    cases y with
    | non => cases ry; exact PySem.EqNone.eq_str_none (fin_bl I q (by simp))
    | bl j => cases ry; exact PySem.EqMixed.eq_str_bool (fin_bl I q (by simp))
    | int j => obtain ⟨t', rfl⟩ := ry; exact PySem.EqMixed.eq_str_int (fin_bl I q (by simp))
    | str j => obtain ⟨t', rfl⟩ := ry; exact eq_str (fin_bl I q dec_str)
    | _ => exact absurd (show false = true from hs) Bool.false_ne_true
  | byt i =>
    obtain ⟨t, rfl⟩ := rx
    cases y with
    | byt j => obtain ⟨t', rfl⟩ := ry; exact PySem.W.eq_bytes (fin_bl I q dec_byt)
    | _ => exact absurd (show false = true from hs) Bool.false_ne_true
  | _ => cases y <;> exact absurd (show false = true from hs) Bool.false_ne_true
theorem op_ne : OpR X (compareOp .NotEq) rNe := by
  intro pins s σ H x y v u Q I rx ry h
  obtain ⟨hs, q⟩ := h
  cases x with
  | non =>
    cases rx
    cases y with
    | non => cases ry; exact PySem.EqNone.ne_none_none (fin_bl I q (by simp))
    | bl j => cases ry; exact PySem.EqNone.ne_none_bool (fin_bl I q (by simp))
    | int j => obtain ⟨t', rfl⟩ := ry; exact PySem.EqNone.ne_none_int (fin_bl I q (by simp))
    | str j => obtain ⟨t', rfl⟩ := ry; exact PySem.EqNone.ne_none_str (fin_bl I q (by simp))
    | _ => exact absurd (show false = true from hs) Bool.false_ne_true
  | bl i =>
    cases rx
    cases y with
    | non => cases ry; exact PySem.EqNone.ne_bool_none (fin_bl I q (by simp))
    | bl j => cases ry; exact ne_bool (fin_bl I q (congrArg not dec_bl))
    | str j => obtain ⟨t', rfl⟩ := ry; exact PySem.EqMixed.ne_bool_str (fin_bl I q (by simp))
    | _ => exact absurd (show false = true from hs) Bool.false_ne_true
  | int i =>
    obtain ⟨t, rfl⟩ := rx
    cases y with
    | non => cases ry; exact PySem.EqNone.ne_int_none (fin_bl I q (by simp))
    | int j => obtain ⟨t', rfl⟩ := ry; exact ne_int (fin_bl I q (congrArg not dec_int))
    | str j => obtain ⟨t', rfl⟩ := ry; exact PySem.EqMixed.ne_int_str (fin_bl I q (by simp))
    | _ => exact absurd (show false = true from hs) Bool.false_ne_true
  | str i =>
    obtain ⟨t, rfl⟩ := rx
    cases y with
    | non => cases ry; exact PySem.EqNone.ne_str_none (fin_bl I q (by simp))
    | bl j => cases ry; exact PySem.EqMixed.ne_str_bool (fin_bl I q (by simp))
    | int j => obtain ⟨t', rfl⟩ := ry; exact PySem.EqMixed.ne_str_int (fin_bl I q (by simp))
    | str j => obtain ⟨t', rfl⟩ := ry; exact ne_str (fin_bl I q (congrArg not dec_str))
    | _ => exact absurd (show false = true from hs) Bool.false_ne_true
  | byt i =>
    obtain ⟨t, rfl⟩ := rx
    cases y with
    | byt j => obtain ⟨t', rfl⟩ := ry; exact PySem.W.ne_bytes (fin_bl I q (congrArg not dec_byt))
    | _ => exact absurd (show false = true from hs) Bool.false_ne_true
  | _ => cases y <;> exact absurd (show false = true from hs) Bool.false_ne_true

theorem op_lt : OpR X (compareOp .Lt) (rI0 fun i j => .bl (decide (i < j))) := opB0 fun _ _ _ _ _ _ _ q => lt_int q
theorem op_le : OpR X (compareOp .LtE) (rI0 fun i j => .bl (decide (i ≤ j))) := opB0 fun _ _ _ _ _ _ _ q => le_int q
/-- the one string within the other -/
theorem op_in_str : OpR X (compareOp .In) (fun x y H Q => ∃ i j, x = .str i ∧ y = .str j ∧ Q (.bl (!(Builtin.Str.occurrences j i 0 j.length 1).isEmpty)) H) := by
  intro pins s σ H x y v u Q I rx ry h
  obtain ⟨i, j, rfl, rfl, q⟩ := h
  obtain ⟨t, rfl⟩ := rx
  obtain ⟨t', rfl⟩ := ry
  exact in_str (fin_bl I q rfl)


/-- is, is not of two objects that are tracked lists or instances -/
def isObj : HO → Bool
  | .lst _ => true
  | .ins _ _ _ => true
  | _ => false

/-- two rules for one operation: by cases -/
theorem OpR.or {f : Value → Value → Sem Value} {r r' : R2} (h : OpR X f r) (h' : OpR X f r') : OpR X f (fun x y H Q => r x y H Q ∨ r' x y H Q) := by
  intro pins s σ H x y v u Q I rx ry q
  rcases q with q | q
  · exact h pins s σ H x y v u Q I rx ry q
  · exact h' pins s σ H x y v u Q I rx ry q

theorem nomark (b : Expr) {op : CmpOp} (h : op ≠ .In := by decide) (h2 : op ≠ .NotIn := by decide) : behindInMarks op b = false := by
  have e1 : (op == CmpOp.In) = false := by cases op <;> first | rfl | exact absurd rfl h
  have e2 : (op == CmpOp.NotIn) = false := by cases op <;> first | rfl | exact absurd rfl h2
  cases b <;> simp [behindInMarks, e1, e2]
/-- a comparison as a value; hm: nomark b, or (for in, not in) by with_unfolding_all rfl -/
theorem pe_cmpR {op : CmpOp} {r : R2} (ho : OpR X (compareOp op) r) (ha : PE X a ta) (hb : PE X b tb) (hm : behindInMarks op b = false) : PE X (.Compare a [op] [b] pos) (tOp r ta tb) := by
  intro pins s σ H Q I h
  exact wpAny_Compare1 (binT ha hb I h fun v u s2 x y H2 I2 rx ry q => ho pins s2 σ H2 x y v u Q I2 rx ry q) hm
/-- a reading of a value as a test -/
def tTest (t : TE) : TT := fun σ H Q => t σ H fun x H' => ∃ k, x = .bl k ∧ Q k H'
theorem pt_cmpR {op : CmpOp} {r : R2} (ho : OpR X (compareOp op) r) (ha : PE X a ta) (hb : PE X b tb) (hm : behindInMarks op b = false) : PT X (.Compare a [op] [b] pos) (tTest (tOp r ta tb)) := by
  intro pins s σ H Q I h
  refine wpAny_isTrue_Compare1 (thn (ha pins s σ H _ I h) fun v s1 ⟨x, H1, I1, r1, q1⟩ => thn (hb pins s1 σ H1 _ I1 q1) fun u s2 ⟨y, H2, I2, r2, q2⟩ =>
    thn (ho pins s2 σ H2 x y v u _ I2 r1 r2 q2) fun c s3 ⟨z, H3, I3, r3, k, e, q3⟩ => ?_) hm
  subst e
  cases r3
  exact wpAny_truthy_bool ⟨H3, I3, q3⟩
/-- a op1 b op2 c -/
def tChain (r r' : R2) (ta tb tc : TE) : TE := fun σ H Q => ta σ H fun x H1 => tb σ H1 fun y H2 => r x y H2 fun z H3 => ∃ k, z = .bl k ∧
  (if k = true then tc σ H3 fun w' H4 => r' y w' H4 Q else Q (.bl false) H3)
theorem pt_chain {op op' : CmpOp} {r r' : R2} (ho : OpR X (compareOp op) r) (ho' : OpR X (compareOp op') r') (ha : PE X a ta) (hb : PE X b tb) (hc : PE X c tc)
    (hm : lastMarks [op, op'] [b, c] = false := by with_unfolding_all rfl) : PT X (.Compare a [op, op'] [b, c] pos) (tTest (tChain r r' ta tb tc)) := by
  intro pins s σ H Q I h
  refine isTrue_chain (thn (ha pins s σ H _ I h) fun v s1 ⟨x, H1, I1, r1, q1⟩ => test_link (thn (hb pins s1 σ H1 _ I1 q1) fun u s2 ⟨y, H2, I2, r2, q2⟩ =>
    thn (ho pins s2 σ H2 x y v u _ I2 r1 r2 q2) fun d s3 ⟨z, H3, I3, r3, k, e, q3⟩ => ?_)) hm
  subst e
  cases r3
  refine wpAny_truthy_bool ?_
  cases k with
  | false =>
    obtain ⟨k', e', q'⟩ := q3
    cases e'
    exact ite_ff ⟨H3, I3, q'⟩
  | true =>
    refine ite_tt (test_last (thn (hc pins s3 σ H3 _ I3 q3) fun w' s4 ⟨z', H4, I4, r4, q4⟩ => thn (ho' pins s4 σ H4 y z' u w' _ I4 r2 r4 q4) fun d' s5 ⟨z2, H5, I5, r5, k2, e2, q5⟩ => ?_))
    subst e2
    cases r5
    exact wpAny_truthy_bool ⟨H5, I5, q5⟩

/-! ### truth -/
theorem line63 : (sizeLine : Nat) < 2 ^ 63 := by rw [sizeLine_eq]; decide

/-! ### strs and bytes -/
theorem op_add_str : OpR X (binaryOp .Add) (fun x y H Q => ∃ i j, x = .str i ∧ y = .str j ∧ i.length + j.length ≤ sizeLine ∧ Q (.str (i ++ j)) H) := by
  intro pins s σ H x y v u Q I rx ry h
  obtain ⟨i, j, rfl, rfl, hz, q⟩ := h
  obtain ⟨t, rfl⟩ := rx
  obtain ⟨t', rfl⟩ := ry
  exact add_str (fun t' tk => ⟨.str (i ++ j), H, I.tok _, ⟨_, rfl⟩, q⟩) hz


/-! ### scalar builtins, by CallR -/
theorem vals1 {x : V} {us : List Value} (r : Vals [x] us) : ∃ u, us = [u] ∧ RelV x u := by
  cases r with
  | cons r1 r2 => cases r2; exact ⟨_, rfl, r1⟩
theorem vals2 {x y : V} {us : List Value} (r : Vals [x, y] us) : ∃ u w', us = [u, w'] ∧ RelV x u ∧ RelV y w' := by
  cases r with
  | cons r1 r2 =>
    cases r2 with
    | cons r3 r4 => cases r4; exact ⟨_, _, rfl, r1, r3⟩
theorem call_min2 (hc : X.calm = true) : CallR X (.builtin "min") (fun xs H Q => ∃ i j, xs = [.int i, .int j] ∧ Q (.int (if j < i then j else i)) H) := by
  intro pins s σ H xs us Q I r h
  obtain ⟨i, j, rfl, q⟩ := h
  obtain ⟨u, w', rfl, ⟨t, rfl⟩, ⟨t', rfl⟩⟩ := vals2 r
  refine min_two_ints (I.ok.hd hc) fun h' tk k => ⟨_, H, I.kept k, ?_, q⟩
  by_cases hj : j < i
  · rw [if_pos hj, if_pos hj]; exact ⟨_, rfl⟩
  · rw [if_neg hj, if_neg hj]; exact ⟨_, rfl⟩
theorem call_str_int : CallR X (.type "str") (fun xs H Q => ∃ i, xs = [.int i] ∧ i.natAbs.log2 < 1920 ∧ Q (.str (toString i)) H) := by
  intro pins s σ H xs us Q I r h
  obtain ⟨i, rfl, hz, q⟩ := h
  obtain ⟨u, rfl, t, rfl⟩ := vals1 r
  exact PySem.P.str_of_int hz ⟨.str _, H, I.tok _, ⟨_, rfl⟩, q⟩
end
end L2

namespace L2
open PySem PySem.Spec PyProof.Rows

/-! ### an instance, its attributes a map -/
structure ObjM (h : Heap) (x dx C : Addr) (mA : Str → Option Value) : Prop where
  obj : h.get? x = some (PySem.W.instObj C dx)
  ns : h.Ns1 dx mA
  ne : dx ≠ x

theorem lookIn_ns {h : Heap} {dx : Addr} {mA : Str → Option Value} (n : h.Ns1 dx mA) : ∃ od, h.get? dx = some od ∧ ∀ name, PySem.W.lookIn name od = some (mA name) := by
  obtain ⟨o, es, ep, ho, hd, hk, _, hm⟩ := n
  refine ⟨o, ho, fun name => ?_⟩
  have e := hm name
  unfold nsFind findBy at e
  rw [← Array.find?_toList] at e
  unfold PySem.W.lookIn
  rw [hd]
  dsimp only
  split
  · rename_i y q
    rw [q] at e
    exact congrArg some e
  · rename_i q
    rw [q] at e
    have a : es.toList.any (·.refKey) = false := by
      rw [List.any_eq_false]
      intro y hy
      obtain ⟨z, t, hkey⟩ := hk y (Array.mem_toList_iff.mp hy)
      simp [DictEntry.refKey, hkey]
    have a' : ¬ es.toList.any (·.refKey) = true := by rw [a]; exact Bool.false_ne_true
    rw [if_neg a']
    exact congrArg some e

theorem ObjM.look {h : Heap} {x dx C : Addr} {mA : Str → Option Value} (I : ObjM h x dx C mA) : ∃ od, PySem.W.InstAt h x (PySem.W.instObj C dx) C (some od) ∧ ∀ name, PySem.W.lookIn name od = some (mA name) :=
  let ⟨od, ho, hl⟩ := lookIn_ns I.ns
  ⟨od, ⟨I.obj, rfl, rfl, ho⟩, hl⟩

section
variable {prog : Program} {w : World} {A : Around} {E : Value → Shared → Prop} {s : Shared} {K : PySem.W.Frag} {x dx C f : Addr} {mA : Str → Option Value} {name : Str} {v : Value}

theorem get_map {expr : Bool} {Q : Value → Shared → Prop} (X : K.In s.heap) (I : ObjM s.heap x dx C mA) (hg : PySem.W.plainGet K C name = true) (hh : PySem.W.hasDictIn K C = true)
    (ha : PySem.W.findIn K (.ref C) name = some none) (hv : mA name = some v) (hv' : PySem.W.handedIn v = true) (h : Q v { s with toks := s.toks + 1 }) :
    wpAny (model prog w) A (getAttr (.ref x) name expr) Q E s := by
  obtain ⟨od, J, hl⟩ := I.look
  exact PySem.W.get_value X J (PySem.W.plainGet_of hg).1 (PySem.W.findObj_own hh ha rfl (by rw [hl, hv])) hv' h


theorem get_meth {pl : Sem Bool} {Q : Value × List Value → Shared → Prop} (X : K.In s.heap) (I : ObjM s.heap x dx C mA) (hg : PySem.W.plainGet K C name = true)
    (hf : PySem.W.findIn K (.ref C) name = some (some (.ref f))) (ht : PySem.W.isFn K (.ref f) = true) (hv : mA name = none) (h : Q (.ref f, [.ref x]) s) :
    wpAny (model prog w) A (getMethod (.ref x) name pl) Q E s := by
  obtain ⟨od, J, hl⟩ := I.look
  exact PySem.W.method_fn X J (PySem.W.plainGet_of hg).1 (PySem.W.plainGet_of hg).2 hf (beq_iff_eq.mp ht) (by show (PySem.W.lookIn name od).map (·.isSome) = some false; rw [hl, hv]; rfl) h


/-- C(..): the dict at the heap's end, the instance behind it; then its __init__ -/
theorem make_map {R : Result → Shared → Prop} {vs : List Value} {kw : List (Str × Value)} (X : K.In s.heap) (hm : PySem.W.makesIn K C = true)
    (hi : PySem.W.findIn K (.ref C) "__init__" = some (some (.ref f))) (hf : PySem.W.typeIn K (.ref f) = some (.type "function"))
    (h : codeAny (model prog w) (A.under (.builtin "type.__call__" ⟨.ref C :: vs, kw⟩)) (.call (.ref f) ⟨.ref (s.heap.objs.size + 1) :: vs, kw⟩) (PySem.W.InitBack (s.heap.objs.size + 1) R)
      { s with heap := (s.heap.push PySem.W.emptyDict).push (PySem.W.instObj C s.heap.objs.size) }) :
    codeAny (model prog w) A (.call (.ref C) ⟨vs, kw⟩) R s := by
  obtain ⟨hh, g, d, t, os⟩ := s
  exact PySem.W.make_core (PySem.W.makes_of X hm) (PySem.W.looks_findIn X hi) (fun self => PySem.W.bind_fn X self hf) (.inl rfl) h
end

/-! ### the attributes as a list of pairs -/
def putF (f : Str) (v : V) : List (Str × V) → List (Str × V)
  | [] => [(f, v)]
  | (g, x) :: r => if g = f then (g, v) :: r else (g, x) :: putF f v r

theorem RelO.some_of {v : V} {o : Option Value} (r : RelO (some v) o) : ∃ u, o = some u ∧ RelV v u := by
  cases o with
  | none => exact (show False from r).elim
  | some u => exact ⟨u, rfl, r⟩
theorem RelO.none_of {o : Option Value} (r : RelO none o) : o = none := by
  cases o with
  | none => rfl
  | some u => exact (show False from r).elim
theorem handed_of {v : V} {u : Value} (r : RelV v u) : PySem.W.handedIn u = true := by
  cases v with
  | non => cases (show u = Value.none from r); rfl
  | bl b => cases (show u = Value.bool b from r); rfl
  | int i => obtain ⟨t, e⟩ := (show ∃ t, u = Value.int i t from r); cases e; rfl
  | str x => obtain ⟨t, e⟩ := (show ∃ t, u = Value.str x t from r); cases e; rfl
  | byt b => obtain ⟨t, e⟩ := (show ∃ t, u = Value.bytes b t from r); cases e; rfl
  | flt b => obtain ⟨t, e⟩ := (show ∃ t, u = Value.float b t from r); cases e; rfl
  | ref a => cases (show u = Value.ref a from r); rfl
  | ty n => cases (show u = Value.type n from r); rfl

section
variable {P : Program} {w : World} {H H' : Hp} {h h' : Heap} {a C dx : Addr} {fs fs' : List (Str × V)}
theorem ins_get (hok : HOk P w H h) (e : H a = some (.ins C dx fs)) : ∃ mA, ObjM h a dx C mA ∧ (∀ f, RelO (fs.lookup f) (mA f)) ∧ PySem.Within mA (fs.map (·.1)) ∧ fs.length ≤ 1000 ∧ H dx = some (.own a) := by
  obtain ⟨d, z, ne, ob, mA, n, r, q⟩ := (show ObjOk P w H h a (.ins C dx fs) from hok a _ e)
  exact ⟨mA, ⟨ob, n, ne⟩, r, q, z, d⟩
end

/-! ### what of the text a class must have -/
structure Cls (K : PySem.W.Frag) (C : Addr) : Prop where
  pg : PySem.W.plainGet K C Str.empty = true
  hd : PySem.W.hasDictIn K C = true
  po : PySem.W.plainOver K C = true
  sa : PySem.W.findIn K (.ref C) "__setattr__" = some (some (.builtin "object.__setattr__"))
theorem Cls.get {K : PySem.W.Frag} {C : Addr} (c : Cls K C) (f : Str) : PySem.W.plainGet K C f = true := c.pg
/-- no class of it has the name -/
def NoAttr (K : PySem.W.Frag) (C : Addr) (f : Str) : Prop := PySem.W.findIn K (.ref C) f = some none
/-- a constant of the class -/
structure Con (K : PySem.W.Frag) (C : Addr) (f : Str) (v : V) (u : Value) : Prop where
  at_ : PySem.W.findIn K (.ref C) f = some (some u)
  rel : RelV v u
  get : PySem.W.specialIn K u "__get__" = some none
  cp : PySem.W.copiedNames.contains f = false
/-- a method: a plain def of the class or of one above it -/
structure Meth (K : PySem.W.Frag) (C : Addr) (m : Str) (f : Addr) : Prop where
  at_ : PySem.W.findIn K (.ref C) m = some (some (.ref f))
  fn : PySem.W.isFn K (.ref f) = true
  kp : PySem.W.keepIn K (.ref f) = true

section
variable {X : Cx} {pins : List (Addr × Obj)} {σ : St} {H : Hp} {s : Shared} {a C dx : Addr} {fs : List (Str × V)} {f : Str} {v : V} {A : Around} {E : Value → Shared → Prop}

theorem getattr_ok {b : Bool} {Q : Value → Shared → Prop} (I : Inv X pins σ H s) (e : H a = some (.ins C dx fs)) (c : Cls X.K C) (n : NoAttr X.K C f) (l : fs.lookup f = some v)
    (h : ∀ u s', Inv X pins σ H s' → RelV v u → Q u s') : wpAny (model X.prog X.w) A (getAttr (.ref a) f b) Q E s := by
  obtain ⟨mA, O, r, _, _, _⟩ := ins_get I.hok e
  obtain ⟨u, hu, ru⟩ := RelO.some_of (v := v) (o := mA f) (by rw [← l]; exact r f)
  exact get_map I.kIn O (c.get f) c.hd n hu (handed_of ru) (h u _ (I.tok _) ru)


theorem getmeth_ok {m : Str} {g : Addr} {pl : Sem Bool} {Q : Value × List Value → Shared → Prop} (I : Inv X pins σ H s) (e : H a = some (.ins C dx fs)) (c : Cls X.K C) (k : Meth X.K C m g) (l : fs.lookup m = none)
    (h : Q (.ref g, [.ref a]) s) : wpAny (model X.prog X.w) A (getMethod (.ref a) m pl) Q E s := by
  obtain ⟨mA, O, r, _, _, _⟩ := ins_get I.hok e
  have hn : mA m = none := RelO.none_of (by rw [← l]; exact r m)
  exact get_meth I.kIn O (c.get m) k.at_ k.fn hn h


/-- a new instance, tracked, without attributes -/
theorem Inv.made (I : Inv X pins σ H s) : Inv X pins σ (upd (upd H s.heap.objs.size (.own (s.heap.objs.size + 1))) (s.heap.objs.size + 1) (.ins C s.heap.objs.size []))
    { s with heap := (s.heap.push PySem.W.emptyDict).push (PySem.W.instObj C s.heap.objs.size) } := by
  have e1 : (s.heap.push PySem.W.emptyDict).get? s.heap.objs.size = some PySem.W.emptyDict := Heap.get?_push_size s.heap rfl
  have e2 : ((s.heap.push PySem.W.emptyDict).push (PySem.W.instObj C s.heap.objs.size)).get? (s.heap.objs.size + 1) = some (PySem.W.instObj C s.heap.objs.size) := by
    have := Heap.get?_push_size (s.heap.push PySem.W.emptyDict) (o := PySem.W.instObj C s.heap.objs.size) rfl
    rwa [Heap.size_push] at this
  have e3 : (s.heap.push PySem.W.emptyDict).Ns s.heap.objs.size (fun _ => none) := ⟨PySem.W.emptyDict, #[], _, e1, rfl, (fun e he => absurd he (by simp)), fun _ => rfl⟩
  have I1 := I.laid (a := s.heap.objs.size) (o := .own (s.heap.objs.size + 1)) (h' := s.heap.push PySem.W.emptyDict) (t' := s.toks) (fun b u q => Heap.get?_push_of_some _ q) (Nat.le_refl _) ⟨_, e1⟩
  refine I1.laid (a := s.heap.objs.size + 1) (o := .ins C s.heap.objs.size []) (t' := s.toks) (fun b u q => Heap.get?_push_of_some _ q) (Nat.le_of_eq (Heap.size_push _ _)) ?_
  have ne : s.heap.objs.size ≠ s.heap.objs.size + 1 := Nat.ne_of_lt (Nat.lt_succ_self _)
  refine ⟨by rw [upd_ne ne, upd_same], Nat.zero_le _, ne, e2, fun _ => none, (Heap.Ns1.of_empty e3).at fun o q => Heap.get?_push_of_some _ q, fun _ => True.intro, fun y hy => absurd rfl hy⟩

/-- e.f where nothing but the object is asked: through attributeBase (super) and the last hold -/
theorem attr_of {prog : Program} {w : World} {env : Env} {e : Expr} {f : Str} {pos : Pos} {s : Shared} {Q : Value → Shared → Prop} (hb : attributeBase e f env (eval e env) = eval e env)
    (h : wpAny (model prog w) A (eval e env) (fun o s₁ => wpAny (model prog w) A (getAttr o f true) Q E s₁) E s) : wpAny (model prog w) A (eval (.Attribute e f pos) env) Q E s :=
  Attribute_any_ h (by rw [arm_eval_Attribute, hb])
end

/-! ### readings and rules -/
/-- e.f, an attribute of the instance -/
def tFld (K : PySem.W.Frag) (ta : TE) (f : Str) : TE := fun σ H Q => ta σ H fun x H1 => ∃ a C dx fs v, x = .ref a ∧ H1 a = some (.ins C dx fs) ∧ Cls K C ∧ NoAttr K C f ∧ fs.lookup f = some v ∧ Q v H1

section
variable {X : Cx} {o e value : Expr} {f : Str} {pos pos' tpos : Pos} {ta tv : TE}
theorem pe_fld (he : PE X e ta) (hb : attributeBase e f X.env (eval e X.env) = eval e X.env) : PE X (.Attribute e f pos) (tFld X.K ta f) := by
  intro pins s σ H Q I h
  refine attr_of hb (thn (he pins s σ H _ I h) fun u s1 ⟨x, H1, I1, rx, a, C, dx, fs, v, ex, ea, c, n, l, q⟩ => ?_)
  subst ex
  obtain rfl : u = Value.ref a := rx
  exact getattr_ok I1 ea c n l fun u' s2 I2 ru => ⟨v, H1, I2, ru, q⟩

end

/-! ### isinstance -/
section
variable {X : Cx} {pins : List (Addr × Obj)} {σ : St} {H : Hp} {s : Shared} {A : Around} {E : Value → Shared → Prop} {Q : Value → Shared → Prop} {c : Value} {b : Bool}
/-- the type of a value, as the fragment's deciders take it; for an instance its class -/
inductive TyOf (K : PySem.W.Frag) (H : Hp) : V → Value → Prop where
  | non : TyOf K H .non (.type "NoneType")
  | bl (x : Bool) : TyOf K H (.bl x) (.type "bool")
  | int (i : Int) : TyOf K H (.int i) (.type "int")
  | str (x : Str) : TyOf K H (.str x) (.type "str")
  | flt (x : UInt64) : TyOf K H (.flt x) (.type "float")
  | lst {a : Addr} {xs : List V} (e : H a = some (.lst xs)) : TyOf K H (.ref a) (.type "list")
  | frz {a : Addr} {o : Obj} {xs : List V} (e : H a = some (.frz o (.lst xs))) : TyOf K H (.ref a) (.type "list")
  | tup {a : Addr} {xs : List V} (e : H a = some (.tup xs)) : TyOf K H (.ref a) (.type "tuple")
  | dK {a : Addr} {kvs : List (Key × V)} (e : H a = some (.dK kvs)) : TyOf K H (.ref a) (.type "dict")
  | dT {a : Addr} {kvs : List (List Key × V)} (e : H a = some (.dT kvs)) : TyOf K H (.ref a) (.type "dict")
  | ins {a C dx : Addr} {fs : List (Str × V)} (e : H a = some (.ins C dx fs)) (cl : Cls K C) (ha : PySem.W.findIn K (.ref C) "__class__" = some (some (.builtin "object.__class__")))
      (hn : PySem.W.specialIn K (.builtin "object.__class__") "__get__" = some (some (.builtin "getset_descriptor.__get__"))) (htk : PySem.W.takesIn K (.builtin "object.__class__") = some true)
      (hm : PySem.W.mroIn K C (.type "object") = some true) : TyOf K H (.ref a) (.ref C)
/-- isinstance(x, c) for one class c, a built-in or an own one: kitOne's answer -/
theorem isinst_ok {x : V} {u t : Value} (I : Inv X pins σ H s) (rx : RelV x u) (ty : TyOf X.K H x t) (e : PySem.W.kitOne X.K t c = some b) (h : ∀ tk, Q (.bool b) { s with toks := tk }) :
    wpAny (model X.prog X.w) A (call (.builtin "isinstance") [u, c]) Q E s := by
  cases ty with
  | non => cases (show u = Value.none from rx); exact PySem.W.kia_one PySem.W.kitx_none I.kIn True.intro e (fun z => nomatch z) h
  | bl y => cases (show u = Value.bool y from rx); exact PySem.W.kia_one PySem.W.kitx_bool I.kIn True.intro e (fun z => nomatch z) h
  | int i => obtain ⟨t, q⟩ := (show ∃ t, u = Value.int i t from rx); cases q; exact PySem.W.kia_one PySem.W.kitx_int I.kIn True.intro e (fun z => nomatch z) h
  | str y => obtain ⟨t, q⟩ := (show ∃ t, u = Value.str y t from rx); cases q; exact PySem.W.kia_one PySem.W.kitx_str I.kIn True.intro e (fun z => nomatch z) h
  | flt y => obtain ⟨t, q⟩ := (show ∃ t, u = Value.float y t from rx); cases q; exact PySem.W.kia_one PySem.W.kitx_float I.kIn True.intro e (fun z => nomatch z) h
  | @lst a xs ea =>
    cases (show u = Value.ref a from rx)
    obtain ⟨_, _, n, _, h1⟩ := (show ObjOk X.prog X.w H s.heap a (.lst xs) from I.hok a _ ea)
    exact PySem.W.kia_one PySem.W.kitx_list I.kIn ⟨_, h1, rfl⟩ e (fun z => nomatch z) h
  | @frz a ob xs ea =>
    cases (show u = Value.ref a from rx)
    obtain ⟨_, _, _, n, _, h1⟩ := (show ObjOk X.prog X.w H s.heap a (.frz ob (.lst xs)) from I.hok a _ ea)
    exact PySem.W.kia_one PySem.W.kitx_list I.kIn ⟨_, h1, rfl⟩ e (fun z => nomatch z) h
  | @tup a xs ea =>
    cases (show u = Value.ref a from rx)
    obtain ⟨_, _, _, p⟩ := (show ObjOk X.prog X.w H s.heap a (.tup xs) from I.hok a _ ea)
    obtain ⟨o, h1, h2, _⟩ := p
    exact PySem.W.kia_one PySem.W.kitx_tuple I.kIn ⟨o, h1, h2⟩ e (fun z => nomatch z) h
  | @dK a kvs ea =>
    cases (show u = Value.ref a from rx)
    obtain ⟨_, _, vs, _, p⟩ := (show ObjOk X.prog X.w H s.heap a (.dK kvs) from I.hok a _ ea)
    obtain ⟨o, es, ep, h1, h2, _⟩ := p
    exact PySem.W.kia_one PySem.W.kitx_dict I.kIn ⟨o, h1, h2.1⟩ e (fun z => nomatch z) h
  | @dT a kvs ea =>
    cases (show u = Value.ref a from rx)
    obtain ⟨_, _, xs, _, o, es, ep, h1, h2, _⟩ := (show ObjOk X.prog X.w H s.heap a (.dT kvs) from I.hok a _ ea)
    exact PySem.W.kia_one PySem.W.kitx_dict I.kIn ⟨o, h1, h2.1⟩ e (fun z => nomatch z) h
  | @ins a C dx fs ea cl ha hn htk hm =>
    cases (show u = Value.ref a from rx)
    obtain ⟨mA, O, _⟩ := ins_get I.hok ea
    obtain ⟨od, J, _⟩ := O.look
    exact PySem.W.kia_one (PySem.W.kitx_own (cl.get _) cl.hd ha hn htk hm) I.kIn J e (fun z => nomatch z) h
end
end L2

namespace L2
open PySem PySem.Spec PyProof.Rows

/-! ### room -/
structure Room (k : Nat) (A : Around) : Prop where
  hd : A.handled = none
  dp : A.depth + 3 * k + 5 < recursionLimit
  un : A.units + 16 * k + 200 < cLine
theorem Room.mono {j k : Nat} {A : Around} (r : Room k A) (h : j ≤ k) : Room j A := ⟨r.hd, by have := r.dp; omega, by have := r.un; omega⟩
theorem Room.deeper {k : Nat} {A : Around} (r : Room (k + 1) A) (env : Env) : Room k (A.deeper env) :=
  ⟨r.hd, by have := r.dp; show A.depth + 1 + 3 * k + 5 < _; omega, by have := r.un; show A.units + 3 + 16 * k + 200 < _; omega⟩
theorem Room.in1 {k : Nat} {A : Around} (r : Room (k + 1) A) : Room k A.in1 :=
  ⟨r.hd, by have := r.dp; show A.depth + 3 * k + 5 < _; omega, by have := r.un; show A.units + 1 + 16 * k + 200 < _; omega⟩
theorem make_depth {A : Around} {C : Addr} {us : List Value} {kw : List (Str × Value)} : (A.under (.builtin "type.__call__" ⟨.ref C :: us, kw⟩)).depth = A.depth + 1 := by
  first | rfl | simp [Around.under, Code.weight, Code.isCreation, Code.isGuard, Code.isCaller, Code.frames, Code.isFrame, guardIds]
theorem make_units {A : Around} {C : Addr} {us : List Value} {kw : List (Str × Value)} : (A.under (.builtin "type.__call__" ⟨.ref C :: us, kw⟩)).units = A.units + 1 := by
  first | rfl | simp [Around.under, Code.cUnits, Code.frames, Code.isFrame]
theorem Room.make {k : Nat} {A : Around} (r : Room (k + 1) A) (C : Addr) (us : List Value) (kw : List (Str × Value)) : Room k (A.under (.builtin "type.__call__" ⟨.ref C :: us, kw⟩)) :=
  ⟨r.hd, by have := r.dp; rw [make_depth]; omega, by have := r.un; rw [make_units]; omega⟩
theorem Room.depth {k : Nat} {A : Around} (r : Room k A) : A.depth < recursionLimit := by have := r.dp; omega
theorem Room.units {k : Nat} {A : Around} (r : Room k A) : A.units + 64 < cLine := by have := r.un; omega

/-! ### argument lists and displays -/
def tNil : TA := fun _ H Q => Q [] H
def tCons (ta : TE) (tr : TA) : TA := fun σ H Q => ta σ H fun x H1 => tr σ H1 fun xs H2 => Q (x :: xs) H2
section
variable {X : Cx} {e : Expr} {es : List Expr} {te : TE} {t : TA} {pos : Pos}
theorem pa_nil : PA X [] tNil := fun _ _ _ _ H Q I h => Calls.spliced_nil ⟨[], H, I, .nil, h⟩
theorem pa_cons (ha : PE X e te) (hr : PA X es t) (hs : starEach (e :: es) X.env = (false, eval e X.env) :: starEach es X.env := by rfl) : PA X (e :: es) (tCons te t) := by
  intro pos pins s σ H Q I h
  rw [hs]
  show wpAny _ _ (spliced ((false, eval e X.env) :: backTo pos (starEach es X.env))) _ _ s
  refine Calls.spliced_cons (thn (ha pins s σ H _ I h) fun u s1 ⟨x, H1, I1, r1, q1⟩ => ?_)
  exact thn (hr pos pins s1 σ H1 _ I1 q1) fun us s2 ⟨xs, H2, I2, r2, q2⟩ => ⟨x :: xs, H2, I2, .cons r1 r2, q2⟩

/-- a tuple, a list of written items -/
def tTup (t : TA) : TE := fun σ H Q => t σ H fun xs H1 => xs.length ≤ sizeLine ∧ ∀ p, H1 p = none → Q (.ref p) (upd H1 p (.tup xs))
def tLst (t : TA) : TE := fun σ H Q => t σ H fun xs H1 => xs.length ≤ sizeLine ∧ ∀ p, H1 p = none → Q (.ref p) (upd H1 p (.lst xs))
theorem pe_tup {x1} (h : PA X es t) : PE X (.Tuple es x1 pos) (tTup t) := by
  intro pins s σ H Q I hq
  refine wpAny_Tuple_spliced (thn (h pos pins s σ H _ I hq) fun us s1 ⟨xs, H1, I1, r, z, q⟩ => ⟨by rw [← r.length]; exact z, ?_⟩)
  have hf : H1 s1.heap.objs.size = none := I1.hok.fresh (Nat.le_refl _)
  refine ⟨.ref s1.heap.objs.size, upd H1 s1.heap.objs.size (.tup xs), I1.laid (t' := s1.toks) (fun b u e => Heap.get?_push_of_some _ e) (Nat.le_refl _) ?_, rfl, q _ hf⟩
  exact ⟨z, us, r, ⟨_, Heap.get?_push_size _ rfl, rfl, _, rfl⟩⟩
theorem pe_lst (h : PA X es t) : PE X (.List es pos) (tLst t) := by
  intro pins s σ H Q I hq
  refine wpAny_List_spliced (thn (h pos pins s σ H _ I hq) fun us s1 ⟨xs, H1, I1, r, z, q⟩ => ⟨by rw [← r.length]; exact z, ?_⟩)
  have hf : H1 s1.heap.objs.size = none := I1.hok.fresh (Nat.le_refl _)
  refine ⟨.ref s1.heap.objs.size, upd H1 s1.heap.objs.size (.lst xs), I1.laid (t' := s1.toks) (fun b u e => Heap.get?_push_of_some _ e) (Nat.le_refl _) ?_, rfl, q _ hf⟩
  exact ⟨z, us, 0, r, Heap.get?_push_size _ rfl⟩
end

/-! ### what a def promises -/
/-- a def's promise: the bound arguments in the parameters' order, the heap, the wanted end, the wanted exception -/
abbrev Sp := List V → Hp → VK → XK → Prop
/-- how an exception lies behind a call (file 08 gives it): the callers' frames, abstract heap and state ahead of the call, the wish, the exception, the state -/
abbrev CXT := List Env → Hp → Shared → XK → Value → Shared → Prop

/-- the state at a call -/
structure Env0 (P : Program) (w : World) (K : PySem.W.Frag) (mg : Str → Option Value) (base : Heap) (A : Around) (outer : List Env) (s : Shared) (H : Hp) : Prop where
  frames : A.frames = some outer
  mod : Mod K mg base
  bs : ∀ b o, base.get? b = some o → s.heap.get? b = some o ∧ H b = none
  bsz : base.objs.size ≤ s.heap.objs.size
  funs : s.heap.FunFrames base outer
  frf : ∀ b ∈ frs outer, H b = none
  hok : HOk P w H s.heap
  bare : AllBare s.gens
/-- a call's end -/
def CE (outer : List Env) (P : Program) (w : World) (H : Hp) (s : Shared) (Q : VK) (u : Value) (s' : Shared) : Prop :=
  ∃ v H', s'.os = s.os ∧ AllBare s'.gens ∧ Un (frs outer) [] H H' s.heap s'.heap ∧ HOk P w H' s'.heap ∧ RelV v u ∧ Q v H'
def CR (CX : CXT) (outer : List Env) (P : Program) (w : World) (H : Hp) (s : Shared) (Q : VK) (E : XK) (r : Result) (s' : Shared) : Prop :=
  match r with
  | .ok (.ret u) => CE outer P w H s Q u s'
  | .ok _ => False
  | .error e => CX outer H s E e s'
structure FnOk (P : Program) (w : World) (K : PySem.W.Frag) (mg : Str → Option Value) (base : Heap) (CX : CXT) (k : Nat) (f : Addr) (fd : FuncData) (ps : List Str) (sp : Sp) : Prop where
  len : ∀ vs H Q E, sp vs H Q E → vs.length = ps.length
  run : ∀ (A : Around) (outer : List Env) (s : Shared) (H : Hp) (args : Args) (us : List Value) (vs : List V) (Q : VK) (E : XK), Room k A → Env0 P w K mg base A outer s H → BindsTo s fd args (ps.zip us) → Vals vs us → sp vs H Q E →
    codeAny (model P w) A (.call (.ref f) args) (CR CX outer P w H s Q E) s
theorem FnOk.mono {P : Program} {w : World} {K : PySem.W.Frag} {mg : Str → Option Value} {base : Heap} {CX : CXT} {j k : Nat} {f : Addr} {fd : FuncData} {ps : List Str} {sp : Sp} (F : FnOk P w K mg base CX j f fd ps sp) (h : j ≤ k) :
    FnOk P w K mg base CX k f fd ps sp := ⟨F.len, fun A outer s H args us vs Q E hr => F.run A outer s H args us vs Q E (hr.mono h)⟩
/-- a weaker promise -/
theorem FnOk.imp {P : Program} {w : World} {K : PySem.W.Frag} {mg : Str → Option Value} {base : Heap} {CX : CXT} {k : Nat} {f : Addr} {fd : FuncData} {ps : List Str} {sp sp' : Sp} (F : FnOk P w K mg base CX k f fd ps sp)
    (h : ∀ vs H Q E, sp' vs H Q E → sp vs H Q E) : FnOk P w K mg base CX k f fd ps sp' :=
  ⟨fun vs H Q E q => F.len vs H Q E (h _ _ _ _ q), fun A outer s H args us vs Q E hr he hb hv hs => F.run A outer s H args us vs Q E hr he hb hv (h _ _ _ _ hs)⟩

theorem Env0.make {P : Program} {w : World} {K : PySem.W.Frag} {mg : Str → Option Value} {base : Heap} {A : Around} {outer : List Env} {s : Shared} {H : Hp} (e : Env0 P w K mg base A outer s H) (C : Addr) (us : List Value) (kw : List (Str × Value)) :
    Env0 P w K mg base (A.under (.builtin "type.__call__" ⟨.ref C :: us, kw⟩)) outer s H := ⟨by first | exact e.frames | (simpa [Around.under, Code.envs, Code.isFrame, pushEnvs] using e.frames), e.mod, e.bs, e.bsz, e.funs, e.frf, e.hok, e.bare⟩
theorem Env0.in1 {P : Program} {w : World} {K : PySem.W.Frag} {mg : Str → Option Value} {base : Heap} {A : Around} {outer : List Env} {s : Shared} {H : Hp} (e : Env0 P w K mg base A outer s H) :
    Env0 P w K mg base A.in1 outer s H := ⟨e.frames, e.mod, e.bs, e.bsz, e.funs, e.frf, e.hok, e.bare⟩

section
variable {X : Cx} {pins : List (Addr × Obj)} {σ : St} {H : Hp} {s s' : Shared}
/-- from a body: what a callee wants -/
theorem Inv.env0 (I : Inv X pins σ H s) : Env0 X.prog X.w X.K X.mg X.base X.A X.stack s H :=
  ⟨I.ok.frames, I.ok.mod, I.bs, Nat.le_trans I.ok.bsz I.sz, I.stack, I.stkFree, I.hok, I.bare⟩
/-- behind a call -/
theorem Inv.after {Q : VK} {u : Value} (I : Inv X pins σ H s) (h : CE X.stack X.prog X.w H s Q u s') : EP X pins σ Q u s' := by
  obtain ⟨v, H', os, bare, un, hok, r, q⟩ := h
  obtain ⟨hh, g, d, t, os'⟩ := s'
  obtain rfl : os' = s.os := os
  exact ⟨v, H', I.call (h' := hh) (g' := g) (d' := d) (t' := t) (ch := []) un hok bare (fun b z => absurd z (by simp)), r, q⟩
end

/-! ### calls -/
/-- f(..): the written arguments, then the defaults dvs; E: what is wanted of an exception -/
def tCall (sp : Sp) (dvs : List V) (E : XK) (t : TA) : TE := fun σ H Q => t σ H fun vs H1 => sp (vs ++ dvs) H1 Q E
/-- o.m(..) of an instance of the class at C -/
def tMeth (C : Addr) (m : Str) (sp : Sp) (dvs : List V) (E : XK) (ta : TE) (t : TA) : TE := fun σ H Q => ta σ H fun x H1 => ∃ a dx fs, x = .ref a ∧ H1 a = some (.ins C dx fs) ∧ fs.lookup m = none ∧
  t σ H1 fun vs H2 => sp (x :: (vs ++ dvs)) H2 Q E
/-- C(..): a new instance and its dict, then __init__ -/
def tMake (C : Addr) (sp : Sp) (dvs : List V) (E : XK) (t : TA) : TE := fun σ H Q => t σ H fun vs H1 => ∀ x dx, H1 x = none → H1 dx = none → dx ≠ x →
  sp (.ref x :: (vs ++ dvs)) (upd (upd H1 dx (.own x)) x (.ins C dx [])) (fun v H2 => v = .non ∧ Q (.ref x) H2) E

/-- how the parameters are bound: us the positional arguments, kw the keywords' values by name, ds the defaults that fill up -/
def Binds (K : PySem.W.Frag) (fd : FuncData) (ps : List Str) (ds : List Value) : Prop :=
  ∀ (s : Shared) (us : List Value), K.In s.heap → (us ++ ds).length = ps.length → BindsTo s fd ⟨us, []⟩ (ps.zip (us ++ ds))
/-- every parameter is given -/
theorem Binds.all {K : PySem.W.Frag} {fd : FuncData} {ps : List Str} (h : ∀ us : List Value, us.length = ps.length → bindArgs fd ⟨us, []⟩ = pure (ps.zip us)) : Binds K fd ps [] := fun s us _ hl => by
  rw [List.append_nil] at hl ⊢
  exact .of_eq (h us hl)

/-- an exception of a callee reaches what this body wants of exceptions -/
def Passes (CX : CXT) (X : Cx) (E : XK) : Prop := ∀ (pins : List (Addr × Obj)) (σ : St) (H : Hp) (s : Shared) (e : Value) (s' : Shared), Inv X pins σ H s → CX X.stack H s E e s' → X.xe e s'

section
variable {X : Cx} {CX : CXT} {k : Nat} {f C : Addr} {fd : FuncData} {ps : List Str} {sp : Sp} {dvs : List V} {ds : List Value} {E : XK} {x m : Str} {p pos apos : Pos} {e o : Expr} {es : List Expr} {ta : TE} {t : TA}

/-- the callee runs -/
theorem run_fn {pins : List (Addr × Obj)} {σ : St} {H : Hp} {s : Shared} {Q : VK} {us : List Value} {vs : List V} (F : FnOk X.prog X.w X.K X.mg X.base CX k f fd ps sp) (hr : Room k X.A) (hb : Binds X.K fd ps ds) (hd : Vals dvs ds) (hx : Passes CX X E)
    (I : Inv X pins σ H s) (r : Vals vs us) (h : sp (vs ++ dvs) H Q E) : wpAny (model X.prog X.w) X.A (call (.ref f) us) (EP X pins σ Q) X.xe s := by
  have r2 : Vals (vs ++ dvs) (us ++ ds) := r.append hd
  have hl : (us ++ ds).length = ps.length := by rw [← r2.length]; exact F.len _ _ _ _ h
  refine wpAny_call (codeAny_mono (F.run X.A X.stack s H ⟨us, []⟩ (us ++ ds) (vs ++ dvs) Q E hr I.env0 (hb s us I.kIn hl) r2 h) fun r s' hq => ?_)
  cases r with
  | error e => exact hx pins σ H s e s' I hq
  | ok fl =>
    cases fl with
    | ret u => exact I.after hq
    | next => exact False.elim hq
    | brk => exact False.elim hq
    | cont => exact False.elim hq

theorem pe_call (F : FnOk X.prog X.w X.K X.mg X.base CX k f fd ps sp) (hr : Room k X.A) (hg : Gl X x) (hm : X.mg x = some (.ref f)) (hk : PySem.W.keepIn X.K (.ref f) = true) (hb : Binds X.K fd ps ds) (hd : Vals dvs ds) (hx : Passes CX X E)
    (ha : PA X (e :: es) t) (hdb : (x == ("__debug__" : Str)) = false := by decide) (he : starEach (e :: es) X.env = (false, eval e X.env) :: starEach es X.env := by rfl) (hpl : (backTo pos (starEach es X.env)).any (·.1) = false := by rfl) :
    PE X (.Call (.Name x p) (e :: es) [] pos) (tCall sp dvs E t) := by
  intro pins s σ H Q I h
  refine wpAny_Call_Name_kw (ld_glob I hg hm ?_ hdb)
  refine PySem.W.callWith_K (h₀ := X.base) I.ok.mod.kin hk (thn (ha pos pins s σ H _ I h) fun us s1 ⟨vs, H1, I1, r, q⟩ => ⟨I1.kIn, ?_⟩) he hpl
  exact run_fn F hr hb hd hx I1 r q
theorem pe_call0 (F : FnOk X.prog X.w X.K X.mg X.base CX k f fd ps sp) (hr : Room k X.A) (hg : Gl X x) (hm : X.mg x = some (.ref f)) (hk : PySem.W.keepIn X.K (.ref f) = true) (hb : Binds X.K fd ps ds) (hd : Vals dvs ds) (hx : Passes CX X E)
    (hdb : (x == ("__debug__" : Str)) = false := by decide) : PE X (.Call (.Name x p) [] [] pos) (tCall sp dvs E tNil) := by
  intro pins s σ H Q I h
  refine wpAny_Call_Name_kw (ld_glob I hg hm ?_ hdb)
  exact PySem.W.callWith_K0 I.kIn hk (run_fn (us := []) F hr hb hd hx I .nil h)

/-- o.m(e, ..) -/
theorem pe_meth {pl : Sem Bool} (he : PE X o ta) (c : Cls X.K C) (hm : Meth X.K C m f) (F : FnOk X.prog X.w X.K X.mg X.base CX k f fd ps sp) (hr : Room k X.A) (hb : Binds X.K fd ps ds) (hd : Vals dvs ds) (hx : Passes CX X E) (ha : PA X (e :: es) t)
    (hst : starEach (e :: es) X.env = (false, eval e X.env) :: starEach es X.env := by rfl) (hpl : (backTo pos (starEach es X.env)).any (·.1) = false := by rfl)
    (ht : eval (.Call (.Attribute o m apos) (e :: es) [] pos) X.env = (do
      let ov ← eval o X.env
      standAt apos.atName
      let (f, first) ← holding [ov] (getMethod ov m pl)
      callWith pos f first (backTo pos (starEach (e :: es) X.env)) (backToKw pos (keywordEach [] X.env))) := by rfl) :
    PE X (.Call (.Attribute o m apos) (e :: es) [] pos) (tMeth C m sp dvs E ta t) := by
  intro pins s σ H Q I h
  refine PySem.W.methodCall_KW (pl := pl) (thn (he pins s σ H _ I h) fun u s1 ⟨x, H1, I1, rx, a, dx, fs, ex, ea, l, q⟩ => ?_) ht
  subst ex
  obtain rfl : u = Value.ref a := rx
  refine getmeth_ok I1 ea c hm l ?_
  refine PySem.W.callWith_K (first := [.ref a]) (h₀ := X.base) I.ok.mod.kin hm.kp (thn (ha pos pins s1 σ H1 _ I1 q) fun us s2 ⟨vs, H2, I2, r, q2⟩ => ⟨I2.kIn, ?_⟩) hst hpl
  exact run_fn (us := .ref a :: us) (vs := .ref a :: vs) F hr hb hd hx I2 (.cons rfl r) q2
/-- o.m() -/
theorem pe_meth0 {pl : Sem Bool} (he : PE X o ta) (c : Cls X.K C) (hm : Meth X.K C m f) (F : FnOk X.prog X.w X.K X.mg X.base CX k f fd ps sp) (hr : Room k X.A) (hb : Binds X.K fd ps ds) (hd : Vals dvs ds) (hx : Passes CX X E)
    (ht : eval (.Call (.Attribute o m apos) [] [] pos) X.env = (do
      let ov ← eval o X.env
      standAt apos.atName
      let (f, first) ← holding [ov] (getMethod ov m pl)
      callWith pos f first (backTo pos (starEach [] X.env)) (backToKw pos (keywordEach [] X.env))) := by rfl) :
    PE X (.Call (.Attribute o m apos) [] [] pos) (tMeth C m sp dvs E ta tNil) := by
  intro pins s σ H Q I h
  refine PySem.W.methodCall_KW (pl := pl) (thn (he pins s σ H _ I h) fun u s1 ⟨x, H1, I1, rx, a, dx, fs, ex, ea, l, q⟩ => ?_) ht
  subst ex
  obtain rfl : u = Value.ref a := rx
  refine getmeth_ok I1 ea c hm l ?_
  exact PySem.W.callWith_K0 (first := [.ref a]) I1.kIn hm.kp (run_fn (us := [.ref a]) (vs := [.ref a]) F hr hb hd hx I1 (.cons rfl .nil) q)

/-- what a class must have to be made -/
structure Mk (K : PySem.W.Frag) (C f : Addr) : Prop where
  makes : PySem.W.makesIn K C = true
  init : PySem.W.findIn K (.ref C) "__init__" = some (some (.ref f))
  fn : PySem.W.isFn K (.ref f) = true
  kp : PySem.W.keepIn K (.ref C) = true

theorem run_make {pins : List (Addr × Obj)} {σ : St} {H : Hp} {s : Shared} {Q : VK} {us : List Value} {vs : List V} (M : Mk X.K C f) (F : FnOk X.prog X.w X.K X.mg X.base CX k f fd ps sp) (hr : Room (k + 1) X.A) (hb : Binds X.K fd ps ds) (hd : Vals dvs ds)
    (hx : Passes CX X E) (I : Inv X pins σ H s) (r : Vals vs us)
    (h : ∀ x dx, H x = none → H dx = none → dx ≠ x → sp (.ref x :: (vs ++ dvs)) (upd (upd H dx (.own x)) x (.ins C dx [])) (fun v H2 => v = .non ∧ Q (.ref x) H2) E) :
    wpAny (model X.prog X.w) X.A (call (.ref C) us) (EP X pins σ Q) X.xe s := by
  have hq := h (s.heap.objs.size + 1) s.heap.objs.size (I.hok.fresh (Nat.le_succ _)) (I.hok.fresh (Nat.le_refl _)) (Nat.ne_of_lt (Nat.lt_succ_self _))
  have I2 := Inv.made (C := C) I
  have r2 : Vals (V.ref (s.heap.objs.size + 1) :: (vs ++ dvs)) (Value.ref (s.heap.objs.size + 1) :: (us ++ ds)) := .cons rfl (r.append hd)
  have hl : (Value.ref (s.heap.objs.size + 1) :: us ++ ds).length = ps.length := by
    have e := r2.length
    rw [F.len _ _ _ _ hq] at e
    exact e.symm
  refine wpAny_call (make_map (f := f) I.kIn M.makes M.init (beq_iff_eq.mp M.fn) (codeAny_mono (F.run _ X.stack _ _ ⟨Value.ref (s.heap.objs.size + 1) :: us, []⟩ (Value.ref (s.heap.objs.size + 1) :: (us ++ ds)) _ _ E (hr.make C us [])
    (I2.env0.make C us []) (hb _ (Value.ref (s.heap.objs.size + 1) :: us) I2.kIn hl) r2 hq) fun r s' hq' => ?_))
  cases r with
  | error e => exact hx pins σ _ _ e s' I2 hq'
  | ok fl =>
    cases fl with
    | ret u =>
      obtain ⟨v, H', I3, rv, ev, q3⟩ := I2.after hq'
      subst ev
      exact ⟨rv, ⟨V.ref (s.heap.objs.size + 1), H', I3, rfl, q3⟩⟩
    | next => exact False.elim hq'
    | brk => exact False.elim hq'
    | cont => exact False.elim hq'
theorem pe_make (M : Mk X.K C f) (F : FnOk X.prog X.w X.K X.mg X.base CX k f fd ps sp) (hr : Room (k + 1) X.A) (hg : Gl X x) (hm : X.mg x = some (.ref C)) (hb : Binds X.K fd ps ds) (hd : Vals dvs ds) (hx : Passes CX X E)
    (ha : PA X (e :: es) t) (hdb : (x == ("__debug__" : Str)) = false := by decide) (he : starEach (e :: es) X.env = (false, eval e X.env) :: starEach es X.env := by rfl) (hpl : (backTo pos (starEach es X.env)).any (·.1) = false := by rfl) :
    PE X (.Call (.Name x p) (e :: es) [] pos) (tMake C sp dvs E t) := by
  intro pins s σ H Q I h
  refine wpAny_Call_Name_kw (ld_glob I hg hm ?_ hdb)
  refine PySem.W.callWith_K (h₀ := X.base) I.ok.mod.kin M.kp (thn (ha pos pins s σ H _ I h) fun us s1 ⟨vs, H1, I1, r, q⟩ => ⟨I1.kIn, ?_⟩) he hpl
  exact run_make M F hr hb hd hx I1 r q
theorem pe_make0 (M : Mk X.K C f) (F : FnOk X.prog X.w X.K X.mg X.base CX k f fd ps sp) (hr : Room (k + 1) X.A) (hg : Gl X x) (hm : X.mg x = some (.ref C)) (hb : Binds X.K fd ps ds) (hd : Vals dvs ds) (hx : Passes CX X E)
    (hdb : (x == ("__debug__" : Str)) = false := by decide) : PE X (.Call (.Name x p) [] [] pos) (tMake C sp dvs E tNil) := by
  intro pins s σ H Q I h
  refine wpAny_Call_Name_kw (ld_glob I hg hm ?_ hdb)
  exact PySem.W.callWith_K0 I.kIn M.kp (run_make (us := []) M F hr hb hd hx I .nil h)
end

/-! ### keywords -/
section
variable {X : Cx} {CX : CXT} {k : Nat} {f C : Addr} {fd : FuncData} {ps ks : List Str} {sp : Sp} {E : XK} {x m : Str} {p pos apos kpos : Pos} {e o : Expr} {es : List Expr} {kws : List Keyword} {te ta : TE} {t tk : TA} {nm : Option Str}

/-- how a call with keywords binds: g puts the positional values us and the keywords' values ws (names ks) in the parameters' order, defaults among them -/
structure KBinds (K : PySem.W.Frag) (fd : FuncData) (ps ks : List Str) (g : List Value → List Value → List Value) (gV : List V → List V → List V) : Prop where
  to : ∀ (s : Shared) (us ws : List Value), K.In s.heap → (g us ws).length = ps.length → BindsTo s fd ⟨us, ks.zip ws⟩ (ps.zip (g us ws))
  rel : ∀ {vs : List V} {us : List Value} {zs : List V} {ws : List Value}, Vals vs us → Vals zs ws → Vals (gV vs zs) (g us ws)
variable {g : List Value → List Value → List Value} {gV : List V → List V → List V}
end

/-! ### a def's body keeps its promise -/
/-- names: the parameters first -/
structure FnScope (N P : List Str) (sc : Scope) : Prop where
  kind : sc.kind = .function
  co : sc.isCoroutine = false
  gen : sc.isGenerator = false
  nd : N.Nodup
  pre : N.take P.length = P
  par : ∀ x ∈ P, sc.names.lookup x = some .local ∨ sc.names.lookup x = some .cell
  nofree : ∀ y ∈ sc.names, y.2 ≠ .free

theorem bindL_out {kindOf : Str → Option NameKind} {x : Str} : ∀ {binds : List (Str × Value)} {m : Str → Option Value}, (∀ v, (x, v) ∉ binds) → bindL kindOf binds m x = m x
  | [], _, _ => rfl
  | (n, v) :: r, m, h => by
    unfold bindL
    rw [bindL_out fun w hw => h w (List.mem_cons_of_mem _ hw)]
    split
    · have : x ≠ n := by rintro rfl; exact h v List.mem_cons_self
      simp [this]
    · rfl
theorem bindC_out {kindOf : Str → Option NameKind} {x : Str} : ∀ {binds : List (Str × Value)} {m : Str → Option Value}, (∀ v, (x, v) ∉ binds) → bindC kindOf binds m x = m x
  | [], _, _ => rfl
  | (n, v) :: r, m, h => by
    unfold bindC
    rw [bindC_out fun w hw => h w (List.mem_cons_of_mem _ hw)]
    split
    · rfl
    · have : x ≠ n := by rintro rfl; exact h v List.mem_cons_self
      simp [this]
theorem bindL_get {kindOf : Str → Option NameKind} {x : Str} {v : Value} : ∀ {P : List Str} {vs : List Value} {i : Nat} {m : Str → Option Value}, P.Nodup → P[i]? = some x → vs[i]? = some v → kindOf x = some .local →
    bindL kindOf (P.zip vs) m x = some v
  | [], _, _, _, _, h, _, _ => by simp at h
  | _ :: _, [], _, _, _, _, h, _ => by simp at h
  | p :: P, w :: vs, 0, m, nd, h1, h2, hk => by
    simp at h1 h2; subst h1; subst h2
    show bindL kindOf ((p, w) :: P.zip vs) m p = _
    unfold bindL
    rw [bindL_out fun v hv => (List.nodup_cons.mp nd).1 (List.of_mem_zip hv).1, if_pos hk]
    simp
  | p :: P, w :: vs, i + 1, m, nd, h1, h2, hk => by
    show bindL kindOf ((p, w) :: P.zip vs) m x = _
    unfold bindL
    exact bindL_get (i := i) (List.nodup_cons.mp nd).2 (by simpa using h1) (by simpa using h2) hk
theorem bindC_get {kindOf : Str → Option NameKind} {x : Str} {v : Value} : ∀ {P : List Str} {vs : List Value} {i : Nat} {m : Str → Option Value}, P.Nodup → P[i]? = some x → vs[i]? = some v → kindOf x ≠ some .local →
    bindC kindOf (P.zip vs) m x = some v
  | [], _, _, _, _, h, _, _ => by simp at h
  | _ :: _, [], _, _, _, _, h, _ => by simp at h
  | p :: P, w :: vs, 0, m, nd, h1, h2, hk => by
    simp at h1 h2; subst h1; subst h2
    show bindC kindOf ((p, w) :: P.zip vs) m p = _
    unfold bindC
    rw [bindC_out fun v hv => (List.nodup_cons.mp nd).1 (List.of_mem_zip hv).1, if_neg hk]
    simp
  | p :: P, w :: vs, i + 1, m, nd, h1, h2, hk => by
    show bindC kindOf ((p, w) :: P.zip vs) m x = _
    unfold bindC
    exact bindC_get (i := i) (List.nodup_cons.mp nd).2 (by simpa using h1) (by simpa using h2) hk

/-- the names' values at the entry -/
def start (N : List Str) (vs : List V) : St := vs.map some ++ List.replicate (N.length - vs.length) none

/-- the context of a def's body, at its entry; an exception leaves the frame, then lies as CX says -/
def cxOf (CX : CXT) (P : Program) (w : World) (K : PySem.W.Frag) (mg : Str → Option Value) (base : Heap) (N : List Str) (qual : Str) (scope : Scope) (f : Addr) (cd : Value) (A : Around) (outer : List Env) (s : Shared) (H : Hp) (E : XK) : Cx where
  prog := P
  w := w
  K := K
  mg := mg
  base := base
  A := A.deeper (envOfC qual scope s.heap.objs.size f cd)
  N := N
  s₀ := s
  H₀ := H
  env := envOfC qual scope s.heap.objs.size f cd
  outer := outer
  stack := envOfC qual scope s.heap.objs.size f cd :: outer
  ex := []
  calm := true
  fn := fun _ => true
  pn := []
  xe := fun e s' => wpAny (model P w) (A.deeper (envOfC qual scope s.heap.objs.size f cd)) (leaving (envOfC qual scope s.heap.objs.size f cd) e) (fun _ s'' => CX outer H s E e s'') (fun e' s'' => CX outer H s E e' s'') s'

theorem cell_has {sc : Scope} {n : Nat} {x : Str} (h : sc.names.lookup x = some .cell) : ∃ c, (cellsFrom n sc.names []).lookup x = some c := by
  have q := PySem.W.cellsFrom_some sc.names n [] (.inl h)
  exact Option.isSome_iff_exists.mp q

theorem inv_start {CX : CXT} {P : Program} {w : World} {K : PySem.W.Frag} {mg : Str → Option Value} {base : Heap} {N ps : List Str} {qual : Str} {scope : Scope} {f : Addr} {cd : Value} {A : Around} {outer : List Env} {s s1 : Shared} {H : Hp} {E : XK} {us : List Value} {vs : List V}
    (S : FnScope N ps scope) (hd : A.handled = none) (e0 : Env0 P w K mg base A outer s H) (hl : vs.length = ps.length) (r : Vals vs us)
    (x : InCallC s s.heap.objs.size (bindL (envOfC qual scope s.heap.objs.size f cd).kindOf (ps.zip us) fun _ => none) (cellsFrom (s.heap.objs.size + 1) scope.names []) (bindC (envOfC qual scope s.heap.objs.size f cd).kindOf (ps.zip us) fun _ => none) s1) :
    Inv (cxOf CX P w K mg base N qual scope f cd A outer s H E) [] (start N vs) H s1 := by
  have hpl : ps.length ≤ N.length := by have := congrArg List.length S.pre; rw [List.length_take] at this; omega
  obtain ⟨h1, tk, rfl, hk⟩ := x.done
  have noA : ∀ b : Addr, b ∉ (cxOf CX P w K mg base N qual scope f cd A outer s H E).ex := fun b z => absurd (show b ∈ ([] : List Addr) from z) (by simp)
  refine ⟨⟨e0.mod, S.kind, rfl, rfl, Nat.le_refl _, fun y z c h1 h2 => ?_, fun y hy => ?_, fun y c _ h => ?_, fun _ => hd, Around.frames_deeper e0.frames, .inr ⟨rfl, rfl⟩, fun b z => absurd z (noA b), e0.bs, e0.bsz, fun b _ _ => noA b, fun b z => absurd z (noA b), e0.funs, e0.frf⟩,
    rfl, e0.bare, Un.kept hk, ⟨_, x.toInCall.ns, fun i y v h1 h2 h3 => ?_⟩, fun y c h => ⟨_, x.cell y c h⟩, e0.hok.fresh (Nat.le_refl _), fun y c h => ?_, fun p hp => absurd (show p ∈ ([] : List (Addr × Obj)) from hp) (by simp), e0.hok.kept hk, ?_⟩
  · exact name_of_addr x.apart (PySem.mem_of_lookup h1) (PySem.mem_of_lookup h2)
  · have hy : scope.names.lookup y = some .cell ∨ scope.names.lookup y = some .free := hy
    rcases hy with hy | hy
    · exact cell_has hy
    · exact absurd rfl (S.nofree _ (PySem.mem_of_lookup hy))
  · exact Nat.le_of_lt (x.above y c (PySem.mem_of_lookup h))
  · have hi : i < vs.length := by
      unfold start at h2
      by_cases hi : i < vs.length
      · exact hi
      · rw [List.getElem?_append_right (by simpa using hi)] at h2
        rw [List.getElem?_replicate] at h2
        split at h2 <;> cases h2
    have ha : vs[i]? = some v := by
      unfold start at h2
      rw [List.getElem?_append_left (by simpa using hi), List.getElem?_map] at h2
      cases e : vs[i]? with
      | none => rw [e] at h2; cases h2
      | some a => rw [e] at h2; cases h2; rfl
    obtain ⟨u, hu, rv⟩ := r.get ha
    have hp : ps[i]? = some y := by
      rw [← S.pre, List.getElem?_take_of_lt (by omega)]; exact h1
    have ndP : ps.Nodup := by rw [← S.pre]; exact S.nd.sublist (List.take_sublist _ _)
    refine ⟨u, rv, ?_⟩
    rcases S.par y (List.mem_of_getElem? hp) with k | k
    · exact .inl ⟨k, bindL_get ndP hp hu k⟩
    · obtain ⟨c, e⟩ := cell_has (n := s.heap.objs.size + 1) k
      refine .inr ⟨.inl k, c, e, ?_⟩
      have q := x.cell y c e
      rw [bindC_get ndP hp hu (by show scope.names.lookup y ≠ _; rw [k]; decide)] at q
      exact q
  · exact e0.hok.fresh (Nat.le_of_lt (x.above y c (PySem.mem_of_lookup h)))
  · unfold start
    show _ = N.length
    rw [List.length_append, List.length_map, List.length_replicate]
    omega

/-- THE RULE: a def (or a method) of the text, by its body. The body's reading t is chosen for each entry; it is run at the parameters' values -/
theorem fn_of {CX : CXT} {P : Program} {w : World} {K : PySem.W.Frag} {mg : Str → Option Value} {base : Heap} {k : Nat} {f : Addr} {name qual : Str} {params : Arguments} {body : List Stmt} {scope : Scope} {dV kV doc pm cdv ct oc : Value} {an od : Option Addr}
    {osl : Array (Option Value)} {N ps : List Str} {sp : Sp} (lk : K.lookup f = some ⟨oc, od, .func (PySem.W.fnOf name qual params body scope dV kV doc pm an cdv ct), osl⟩) (hcd : PySem.W.codeIn K cdv qual = true) (S : FnScope N ps scope)
    (len : ∀ vs H Q E, sp vs H Q E → vs.length = ps.length)
    (hbody : ∀ (A : Around) (outer : List Env) (s : Shared) (H : Hp) (vs : List V) (Q : VK) (E : XK), Room k (A.deeper (envOfC qual scope s.heap.objs.size f cdv)) → sp vs H Q E →
      ∃ t, PSs (cxOf CX P w K mg base N qual scope f cdv A outer s H E) body t ∧ t { nx := fun _ H' => Q .non H', rt := Q } (start N vs) H) :
    FnOk P w K mg base CX (k + 1) f (PySem.W.fnOf name qual params body scope dV kV doc pm an cdv ct) ps sp := by
  refine ⟨len, fun A outer s H args us vs Q E hr e0 hb r hsp => ?_⟩
  have hl := len _ _ _ _ hsp
  have KX : K.In s.heap := e0.mod.kin.keeps fun b o e => (e0.bs b o e).1
  have lim : s.heap.NoLimit := e0.mod.nolimit.keeps fun b o e => (e0.bs b o e).1
  have hkind : ∀ y ∈ ps.zip us, scope.names.lookup y.1 = some .local ∨ (scope.names.lookup y.1 = some .cell ∧ ((cellsFrom (s.heap.objs.size + 1) scope.names []).lookup y.1).isSome = true) := fun ⟨n, v⟩ hy => by
    rcases S.par n (List.of_mem_zip hy).1 with q | q
    · exact .inl q
    · exact .inr ⟨q, PySem.W.cellsFrom_some _ _ _ (.inl q)⟩
  refine codeAny_call_function hr.depth (KX _ _ lk) rfl S.co S.gen rfl (PySem.W.codeRec_of KX hcd) (hb _ _ _ _ ?_)
  refine wpAny_newFunctionEnv_cells S.kind hkind fun env he s1 x => ?_
  subst he
  refine ⟨lim.keeps x.toInCall.keep, codeAny_func ?_⟩
  obtain ⟨t, ht, hq⟩ := hbody A outer s H vs Q E (hr.deeper _) hsp
  have I : Inv (cxOf CX P w K mg base N qual scope f cdv A outer s H E) [] (start N vs) H s1 := inv_start S hr.hd e0 hl r x
  refine wpAny_mono (ht [] s1 (start N vs) H _ I hq) (fun fl s' hs => ?_) fun e s' hs => hs
  have fin : ∀ {σ' : St} {H' : Hp} {v : V} {u : Value}, Inv (cxOf CX P w K mg base N qual scope f cdv A outer s H E) [] σ' H' s' → RelV v u → Q v H' → CE outer P w H s Q u s' :=
    fun {σ' H' v u} J rv q => ⟨v, H', J.os, J.bare, J.base, J.hok, rv, q⟩
  cases fl with
  | ret u =>
    obtain ⟨v, σ', H', J, rv, q⟩ := hs
    exact fin J rv q
  | next =>
    obtain ⟨σ', H', J, q⟩ := hs
    exact fin (v := V.non) (u := Value.none) J rfl q
  | brk =>
    obtain ⟨_, _, _, q⟩ := hs
    exact False.elim q
  | cont =>
    obtain ⟨_, _, _, q⟩ := hs
    exact False.elim q
end L2

namespace L2
open PySem PySem.Spec PyProof.Rows
section
variable {X : Cx} {x : Str} {p pos : Pos} {e : Expr} {es : List Expr} {t : TA} {id T : String} {r : List V → Hp → VK → Prop}

def tCB (r : List V → Hp → VK → Prop) (t : TA) : TE := fun σ H Q => t σ H fun vs H1 => r vs H1 Q
/-- f(e, ..), f a built-in function -/
theorem pe_callB (hc : CallR X (.builtin id) r) (hg : Gl X x) (hm : X.mg x = none) (hv : bootBuiltins x = some (.builtin id)) (ha : PA X (e :: es) t) (hn : x ≠ "__name__" := by decide) (hdb : (x == ("__debug__" : Str)) = false := by decide)
    (he : starEach (e :: es) X.env = (false, eval e X.env) :: starEach es X.env := by rfl) (hpl : (backTo pos (starEach es X.env)).any (·.1) = false := by rfl) : PE X (.Call (.Name x p) (e :: es) [] pos) (tCB r t) := by
  intro pins s σ H Q I h
  refine wpAny_Call_Name_kw (ld_blt I hg hm hv ?_ hn hdb)
  exact PyProof.Rows.callWith_builtin1 (thn (ha pos pins s σ H _ I h) fun us s1 ⟨vs, H1, I1, r1, q1⟩ => hc pins s1 σ H1 vs us Q I1 r1 q1) he hpl
/-- T(e, ..), T a built-in type -/
theorem pe_callTy (hc : CallR X (.type T) r) (hg : Gl X x) (hm : X.mg x = none) (hv : bootBuiltins x = some (.type T)) (ha : PA X (e :: es) t) (hn : x ≠ "__name__" := by decide) (hdb : (x == ("__debug__" : Str)) = false := by decide)
    (he : starEach (e :: es) X.env = (false, eval e X.env) :: starEach es X.env := by rfl) (hpl : (backTo pos (starEach es X.env)).any (·.1) = false := by rfl) : PE X (.Call (.Name x p) (e :: es) [] pos) (tCB r t) := by
  intro pins s σ H Q I h
  refine wpAny_Call_Name_kw (ld_blt I hg hm hv ?_ hn hdb)
  exact PyProof.Rows.callWith_type1 (thn (ha pos pins s σ H _ I h) fun us s1 ⟨vs, H1, I1, r1, q1⟩ => hc pins s1 σ H1 vs us Q I1 r1 q1) he hpl
end
end L2

namespace HT
open PySem PyProof.Rows



section
open PySem.SeqAt
open PySem.AutoSeq1 (wpAny_loadPart')
open PySem.MeetsSeq PySem.MeetsSeq2 PySem.MeetsSeq3

end

section
variable {prog : Program} {w : World} {A : Around} {E : Value → Shared → Prop} {s : Shared}



/-! ### t[a:b], not the whole -/
/-- a slice's bound as a place among n (d where it is left out) -/
def sIx (n d : Nat) : Option Int → Nat
  | none => d
  | some v => if v < 0 then (v + (n : Int)).toNat else min v.toNat n

end
end HT

namespace L2
open PySem PySem.Spec PyProof.Rows

/-! ### the parts of a slice -/
abbrev TO := St → Hp → (Option Int → Hp → Prop) → Prop
/-- a slice's part (left out, or an int) -/
def PO (X : Cx) (e : Option Expr) (t : TO) : Prop :=
  ∀ (pins : List (Addr × Obj)) (s : Shared) (σ : St) (H : Hp) (Q : Option Int → Hp → Prop), Inv X pins σ H s → t σ H Q →
    wpAny (model X.prog X.w) X.A (evalPart e X.env) (fun u s' => ∃ o H', Inv X pins σ H' s' ∧ IsPart u o ∧ Q o H') X.xe s
def tNoPart : TO := fun _ H Q => Q none H
def tPart (t : TE) : TO := fun σ H Q => t σ H fun x H1 => ∃ i, x = .int i ∧ Q (some i) H1


section
variable {X : Cx} {e : Expr} {te : TE} {lo hi : Option Expr} {tl th : TO} {pos p2 : Pos}

theorem po_none : PO X none tNoPart := by
  intro pins s σ H Q I h
  rw [evalPart_none]
  exact wpAny_pure ⟨none, H, I, .none, h⟩
theorem po_some (h : PE X e te) : PO X (some e) (tPart te) := by
  intro pins s σ H Q I hw
  rw [evalPart_some]
  refine thn (h pins s σ H _ I hw) fun u s1 ⟨x, H1, I1, r1, q1⟩ => ?_
  obtain ⟨i, rfl, q⟩ := q1
  obtain ⟨t, rfl⟩ := r1
  exact ⟨some i, H1, I1, .int i t, q⟩

/-- what a slice of a value is, by values: the slice object stands at sl -/
def SlR (X : Cx) (r : V → Option Int → Option Int → Hp → VK → Prop) : Prop :=
  ∀ (pins : List (Addr × Obj)) (s : Shared) (σ : St) (H : Hp) (x : V) (v vl vu : Value) (lo hi : Option Int) (sl : Addr) (Q : VK), Inv X pins σ H s → RelV x v → s.heap.IsSliceOf sl vl vu .none → IsPart vl lo → IsPart vu hi → r x lo hi H Q →
    ∃ T id, typeLookup (.type T) "__getitem__" = pure (some (.builtin id)) ∧ s.TypeIs v T ∧ wpAny (model X.prog X.w) X.A (getItem v (.ref sl)) (EP X pins σ Q) X.xe s
theorem SlR.or {r r' : V → Option Int → Option Int → Hp → VK → Prop} (h : SlR X r) (h' : SlR X r') : SlR X (fun x lo hi H Q => r x lo hi H Q ∨ r' x lo hi H Q) := by
  intro pins s σ H x v vl vu lo hi sl Q I rx hs pl pu q
  rcases q with q | q
  · exact h pins s σ H x v vl vu lo hi sl Q I rx hs pl pu q
  · exact h' pins s σ H x v vl vu lo hi sl Q I rx hs pl pu q
def tSl (r : V → Option Int → Option Int → Hp → VK → Prop) (te : TE) (tl th : TO) : TE := fun σ H Q => te σ H fun x H1 => tl σ H1 fun l H2 => th σ H2 fun u H3 => r x l u H3 Q
/-- a[lo:hi], any a -/
theorem pe_slice {r : V → Option Int → Option Int → Hp → VK → Prop} (hr : SlR X r) (he : PE X e te) (hl : PO X lo tl) (hu : PO X hi th) : PE X (.Subscript e (.Slice lo hi none p2) pos) (tSl r te tl th) := by
  intro pins s σ H Q I h
  refine Subscript_ (thn (he pins s σ H _ I h) fun v s1 ⟨x, H1, I1, r1, q1⟩ => ?_)
  refine wpAny_Slice (thn (hl pins s1 σ H1 _ I1 q1) fun vl s2 ⟨l, H2, I2, pl, q2⟩ => thn (hu pins s2 σ H2 _ I2 q2) fun vu s3 ⟨u, H3, I3, pu, q3⟩ => ?_)
  rw [evalPart_none]
  refine wpAny_pure ?_
  have I4 : Inv X pins σ H3 { s3 with heap := s3.heap.push { cls := .type "slice", data := .fields #[vl, vu, .none] } } := I3.kept (t' := s3.toks) fun b ob q => Heap.get?_push_of_some _ q
  obtain ⟨T, id, hT, ht, hg⟩ := hr pins { s3 with heap := s3.heap.push { cls := .type "slice", data := .fields #[vl, vu, .none] } } σ H3 x v vl vu l u s3.heap.objs.size Q I4 r1 (Heap.IsSliceOf.new ..) pl pu q3
  show wpAny (model X.prog X.w) X.A (subscriptTail e (.Slice lo hi none p2) v (.ref s3.heap.objs.size)) (EP X pins σ Q) X.xe { s3 with heap := s3.heap.push { cls := .type "slice", data := .fields #[vl, vu, .none] } }
  exact tail_any (ops := [.ref s3.heap.objs.size, v]) ht hT hg (by with_unfolding_all rfl)

/-- the items of xs[lo:hi] -/
def cutV (xs : List V) (lo hi : Option Int) : List V := (xs.drop (HT.sIx xs.length 0 lo)).take (HT.sIx xs.length xs.length hi - HT.sIx xs.length 0 lo)
theorem cutV_length (xs : List V) (lo hi : Option Int) : (cutV xs lo hi).length ≤ xs.length := by
  unfold cutV
  rw [List.length_take, List.length_drop]
  omega
/-- t[lo:hi], not the whole of it (the whole would be t itself) -/
def rSlT (K : PySem.W.Frag) : V → Option Int → Option Int → Hp → VK → Prop := fun x lo hi H Q => ∃ a xs, x = .ref a ∧ SqT K H a xs ∧
  ¬ (HT.sIx xs.length 0 lo = 0 ∧ HT.sIx xs.length xs.length hi = xs.length) ∧ ∀ p, H p = none → Q (.ref p) (upd H p (.tup (cutV xs lo hi)))

/-! ### t < u, t + u -/
end
end L2

namespace L2
open PySem PySem.Spec PyProof.Rows

/-! ### places -/
/-- the place that an index of any sign means -/
def ixN (n : Nat) (i : Int) : Option Nat := if 0 ≤ i then (if i < n then some i.toNat else none) else if -(n : Int) ≤ i then some (i + n).toNat else none
def atI {α : Type} (xs : List α) (i : Int) : Option α := (ixN xs.length i).bind fun j => xs[j]?
theorem ixN_seq {n : Nat} {i : Int} {j : Nat} (h : ixN n i = some j) : seqIndex? i n = some j ∧ j < n ∧ -(n : Int) ≤ i ∧ i < n := by
  unfold ixN at h
  by_cases h0 : 0 ≤ i
  · rw [if_pos h0] at h
    by_cases h1 : i < n
    · rw [if_pos h1] at h
      have e : i.toNat = j := Option.some.inj h
      exact ⟨by rw [seqIndex_of h0 h1, e], by omega, by omega, h1⟩
    · rw [if_neg h1] at h; cases h
  · rw [if_neg h0] at h
    by_cases h1 : -(n : Int) ≤ i
    · rw [if_pos h1] at h
      have e : (i + n).toNat = j := Option.some.inj h
      exact ⟨by rw [seqIndex_neg (by omega) h1, e], by omega, h1, by omega⟩
    · rw [if_neg h1] at h; cases h
theorem atI_get {α : Type} {xs : List α} {i : Int} {v : α} (h : atI xs i = some v) : ∃ j, seqIndex? i xs.length = some j ∧ xs[j]? = some v ∧ j < xs.length ∧ -(xs.length : Int) ≤ i ∧ i < xs.length := by
  unfold atI at h
  cases e : ixN xs.length i with
  | none => rw [e] at h; cases h
  | some j =>
    rw [e] at h
    obtain ⟨h1, h2, h3, h4⟩ := ixN_seq e
    exact ⟨j, h1, h, h2, h3, h4⟩
theorem atI_nat {α : Type} {xs : List α} {j : Nat} {v : α} (h : xs[j]? = some v) : atI xs (j : Int) = some v := by
  have hj : j < xs.length := (List.getElem?_eq_some_iff.mp h).1
  have e : ixN xs.length (j : Int) = some j := by
    unfold ixN
    rw [if_pos (by omega), if_pos (by omega)]; simp
  unfold atI; rw [e]; exact h

/-! ### what may be subscripted -/
/-- what stands as an index of a plain subscript -/
def PlainIx (b : Expr) : Prop := ∀ o i, subscripted b false o i = operate [o, i] (getItem o i)
/-- a subscript by values -/
def IxR (X : Cx) (r : R2) : Prop :=
  ∀ (value slice : Expr) (pins : List (Addr × Obj)) (s : Shared) (σ : St) (H : Hp) (x y : V) (v u : Value) (Q : VK), Inv X pins σ H s → RelV x v → RelV y u → r x y H Q →
    subscripted slice false v u = operate [v, u] (getItem v u) → wpAny (model X.prog X.w) X.A (subscriptTail value slice v u) (EP X pins σ Q) X.xe s
/-- a call of a builtin's method by values: the receiver, the arguments -/
def MtR (X : Cx) (id : String) (r : V → List V → Hp → VK → Prop) : Prop :=
  ∀ (pins : List (Addr × Obj)) (s : Shared) (σ : St) (H : Hp) (x : V) (xs : List V) (v : Value) (us : List Value) (Q : VK), Inv X pins σ H s → RelV x v → Vals xs us → r x xs H Q →
    wpAny (model X.prog X.w) X.A (call (.builtin id) (v :: us)) (EP X pins σ Q) X.xe s
section
variable {X : Cx} {a b : Expr} {ta tb : TE} {pos : Pos}
theorem IxR.or {r r' : R2} (h : IxR X r) (h' : IxR X r') : IxR X (fun x y H Q => r x y H Q ∨ r' x y H Q) := by
  intro value slice pins s σ H x y v u Q I rx ry q hs
  rcases q with q | q
  · exact h value slice pins s σ H x y v u Q I rx ry q hs
  · exact h' value slice pins s σ H x y v u Q I rx ry q hs
theorem MtR.or {id : String} {r r' : V → List V → Hp → VK → Prop} (h : MtR X id r) (h' : MtR X id r') : MtR X id (fun x xs H Q => r x xs H Q ∨ r' x xs H Q) := by
  intro pins s σ H x xs v us Q I rx rs q
  rcases q with q | q
  · exact h pins s σ H x xs v us Q I rx rs q
  · exact h' pins s σ H x xs v us Q I rx rs q
/-- a[b] -/
theorem pe_ix {r : R2} (hr : IxR X r) (ha : PE X a ta) (hb : PE X b tb) (hs : PlainIx b) : PE X (.Subscript a b pos) (tOp r ta tb) := by
  intro pins s σ H Q I h
  exact Subscript_ (binT ha hb I h fun v u s2 x y H2 I2 rx ry q => hr a b pins s2 σ H2 x y v u Q I2 rx ry q (hs _ _))

def rIxL (K : PySem.W.Frag) : R2 := fun x y H Q => ∃ p xs i v, x = .ref p ∧ y = .int i ∧ SqL K H p xs ∧ atI xs i = some v ∧ Q v H
def rIxT (K : PySem.W.Frag) : R2 := fun x y H Q => ∃ p xs i v, x = .ref p ∧ y = .int i ∧ SqT K H p xs ∧ atI xs i = some v ∧ Q v H
def rIxS : R2 := fun x y H Q => ∃ z i c, x = .str z ∧ y = .int i ∧ z.length ≤ sizeLine ∧ atI z.cps.toList i = some c ∧ Q (.str ⟨#[c]⟩) H
theorem ix_list : IxR X (rIxL X.K) := by
  intro value slice pins s σ H x y v u Q I rx ry h hs
  obtain ⟨p, xs, i, z, rfl, rfl, hq, he, q⟩ := h
  cases rx
  obtain ⟨t, rfl⟩ := ry
  obtain ⟨its, r, pl, hz⟩ := I.list hq
  obtain ⟨j, h1, h2, h3, h4, h5⟩ := atI_get he
  obtain ⟨w, ew, rw'⟩ := r.get h2
  have hl := r.length
  have hn := line63
  have fin : EP X pins σ Q w s := ⟨z, H, I, rw', q⟩
  by_cases h0 : 0 ≤ i
  · have hj : i.toNat = j := by
      rw [seqIndex_of h0 h5] at h1
      exact Option.some.inj h1
    exact item_listR pl.isList h0 (by omega) (by rw [hj]; simpa using ew) fin hs
  · have hj : (i + (its.toArray.size : Int)).toNat = j := by
      rw [seqIndex_neg (by omega) h4] at h1
      rw [List.size_toArray, ← hl]
      exact Option.some.inj h1
    exact subscriptTail_builtinR (x := w) pl.isList.typeIs slot_list_getitem.lookup
      (wpAny_getItem_list_neg (Q := fun r s' => r = w ∧ EP X pins σ Q r s') pl.isList (by omega) (by rw [List.size_toArray] <;> omega) (by omega) (by rw [hj]; simpa using ew) ⟨rfl, fin⟩) hs
theorem ix_tup : IxR X (rIxT X.K) := by
  intro value slice pins s σ H x y v u Q I rx ry h hs
  obtain ⟨p, xs, i, z, rfl, rfl, hq, he, q⟩ := h
  cases rx
  obtain ⟨t, rfl⟩ := ry
  obtain ⟨its, r, pl, hz⟩ := I.tuple hq
  obtain ⟨j, h1, h2, h3, h4, h5⟩ := atI_get he
  obtain ⟨w, ew, rw'⟩ := r.get h2
  have hl := r.length
  have hn := line63
  have fin : EP X pins σ Q w s := ⟨z, H, I, rw', q⟩
  exact subscriptTail_builtinR (x := w) pl.typeIs slot_tuple_getitem.lookup
    (getItem_tuple (j := j) (Q := fun r s' => r = w ∧ EP X pins σ Q r s') pl (by omega) (by omega) (by rw [List.size_toArray, ← hl]; exact h1) (by simpa using ew) ⟨rfl, fin⟩) hs
theorem ix_str : IxR X rIxS := by
  intro value slice pins s σ H x y v u Q I rx ry h hs
  obtain ⟨z, i, c, rfl, rfl, hz, he, q⟩ := h
  obtain ⟨t, rfl⟩ := rx
  obtain ⟨t', rfl⟩ := ry
  obtain ⟨j, h1, h2, h3, h4, h5⟩ := atI_get he
  have hl : z.cps.toList.length = z.length := by simp [Str.length]
  rw [hl] at h1 h4 h5
  have hn := line63
  exact tail_any (typeIs_str s z t) slot_str_getitem.lookup (getItem_str (c := c) (by
    have e1 : decide (i < -(2 ^ 63 : Int)) = false := decide_eq_false (by omega)
    have e2 : decide (i ≥ 2 ^ 63) = false := decide_eq_false (by omega)
    rw [e1, e2, Bool.or_false]) (by rw [h1]; simpa using h2) ⟨.str ⟨#[c]⟩, H, I.tok _, ⟨_, rfl⟩, q⟩) hs
/-- list, tuple or str -/
def rIx (K : PySem.W.Frag) : R2 := fun x y H Q => rIxL K x y H Q ∨ rIxT K x y H Q ∨ rIxS x y H Q
theorem ix_seq : IxR X (rIx X.K) := ix_list.or (ix_tup.or ix_str)

/-! ### xs[i] = v, any sign -/
theorem Inv.lst {pins : List (Addr × Obj)} {σ : St} {H : Hp} {s : Shared} {p : Addr} {xs : List V} (I : Inv X pins σ H s) (h : H p = some (.lst xs)) :
    ∃ (its : List Value) (n : Nat), Vals xs its ∧ s.heap.get? p = some { cls := .type "list", data := .seq its.toArray n } ∧ xs.length ≤ sizeLine := by
  obtain ⟨z, its, n, r, e⟩ := I.hok p _ h
  exact ⟨its, n, r, e, z⟩
def rSetL : V → V → V → Hp → (Hp → Prop) → Prop := fun o i v H Q => ∃ p xs k j, o = .ref p ∧ i = .int k ∧ H p = some (.lst xs) ∧ ixN xs.length k = some j ∧ Q (upd H p (.lst (xs.set j v)))

/-! ### slices -/
theorem slice_bounds (lo hi : Option Int) (n : Nat) : (sliceBounds lo hi none n).1 = ((HT.sIx n 0 lo : Nat) : Int) ∧ (sliceBounds lo hi none n).2.1 = ((HT.sIx n n hi : Nat) : Int) ∧ (sliceBounds lo hi none n).2.2 = 1 := by
  refine ⟨?_, ?_, rfl⟩
  · cases lo with
    | none => simp [sliceBounds, HT.sIx]
    | some i =>
      simp only [sliceBounds, HT.sIx, Option.getD_none, show (1 : Int) > 0 by decide, if_true]
      by_cases h : i < 0
      · simp only [h, if_true] <;> omega
      · simp only [h, if_false] <;> omega
  · cases hi with
    | none => simp [sliceBounds, HT.sIx]
    | some i =>
      simp only [sliceBounds, HT.sIx, Option.getD_none, show (1 : Int) > 0 by decide, if_true]
      by_cases h : i < 0
      · simp only [h, if_true] <;> omega
      · simp only [h, if_false] <;> omega
theorem slicePick_cut (its : List Value) (lo hi : Option Int) : slicePick its.toArray lo hi none = ((its.drop (HT.sIx its.length 0 lo)).take (HT.sIx its.length its.length hi - HT.sIx its.length 0 lo)).toArray := by
  obtain ⟨h1, h2, h3⟩ := slice_bounds lo hi its.toArray.size
  unfold slicePick
  rw [h1, h2, h3]
  simp only [sliceRange_one, pick_run, List.size_toArray] <;> rfl
/-- xs[lo:hi] of a list: a new list -/
def rSlL (K : PySem.W.Frag) : V → Option Int → Option Int → Hp → VK → Prop := fun x lo hi H Q => ∃ a xs, x = .ref a ∧ SqL K H a xs ∧ ∀ p, H p = none → Q (.ref p) (upd H p (.lst (cutV xs lo hi)))
theorem sl_list : SlR X (rSlL X.K) := by
  intro pins s σ H x v vl vu lo hi sl Q I rx hs pl pu h
  obtain ⟨a, xs, rfl, hx, q⟩ := h
  cases rx
  obtain ⟨its, r, ht, hz⟩ := I.list hx
  have hlen := r.length
  refine ⟨"list", _, slot_list_getitem.lookup, ht.isList.typeIs, ?_⟩
  refine wpAny_getItem_list_slice ht.isList hs pl pu .none (by simp) ?_ (by rw [List.size_toArray] <;> omega)
  rw [slicePick_cut, ← hlen]
  refine ⟨.ref s.heap.objs.size, _, I.laid (t' := s.toks) (o := .lst (cutV xs lo hi)) (fun b ob q => Heap.get?_push_of_some _ q) (Nat.le_refl _) ?_, rfl, q _ (I.hok.fresh (Nat.le_refl _))⟩
  exact ⟨Nat.le_trans (cutV_length xs lo hi) hz, _, 0, (r.drop (HT.sIx xs.length 0 lo)).take (HT.sIx xs.length xs.length hi - HT.sIx xs.length 0 lo), Heap.get?_push_size _ rfl⟩

/-! ### in, not in: flat items -/

/-! ### len, list(x), tuple(x) of any list or tuple that is read -/
theorem call_len_seq : CallR X (.builtin "len") (fun xs H Q => ∃ p ys, xs = [.ref p] ∧ (SqL X.K H p ys ∨ SqT X.K H p ys) ∧ Q (.int ys.length) H) := by
  intro pins s σ H xs us Q I r h
  obtain ⟨p, ys, rfl, hq, q⟩ := h
  obtain ⟨u, rfl, rx⟩ := vals1 r
  cases rx
  have hn := line63
  rcases hq with hq | hq
  · obtain ⟨its, r', pl, hz⟩ := I.list hq
    have hlen := r'.length
    exact Calls.call_len_list pl.isList (by simp only [List.size_toArray] <;> omega) ⟨.int ys.length, H, I.tok _, ⟨s.toks + 1, by rw [List.size_toArray, hlen]⟩, q⟩
  · obtain ⟨its, r', pl, hz⟩ := I.tuple hq
    have hlen := r'.length
    exact len_tuple pl (by simp only [List.size_toArray] <;> omega) ⟨.int ys.length, H, I.tok _, ⟨s.toks + 1, by rw [List.size_toArray, hlen]⟩, q⟩
theorem CallR.or {f : Value} {r r' : List V → Hp → VK → Prop} (h : CallR X f r) (h' : CallR X f r') : CallR X f (fun xs H Q => r xs H Q ∨ r' xs H Q) := by
  intro pins s σ H xs us Q I rs q
  rcases q with q | q
  · exact h pins s σ H xs us Q I rs q
  · exact h' pins s σ H xs us Q I rs q
theorem call_list_of : CallR X (.type "list") (fun xs H Q => ∃ p ys, xs = [.ref p] ∧ (SqL X.K H p ys ∨ SqT X.K H p ys) ∧ ∀ l, H l = none → Q (.ref l) (upd H l (.lst ys))) := by
  intro pins s σ H xs us Q I r h
  obtain ⟨p, ys, rfl, hq, q⟩ := h
  obtain ⟨u, rfl, rx⟩ := vals1 r
  cases rx
  have fin : ∀ (its : List Value), Vals ys its → ys.length ≤ sizeLine → ∀ (h' : Heap) (c' : Nat), (∀ b o', s.heap.get? b = some o' → h'.get? b = some o') →
      h'.get? s.heap.objs.size = some { cls := .type "list", dict := none, data := .seq its.toArray c', slots := #[] } → EP X pins σ Q (.ref s.heap.objs.size) { s with heap := h' } := fun its r' hz h' c' kp e =>
    ⟨.ref s.heap.objs.size, _, I.laid (t' := s.toks) kp (Nat.le_refl _) (show ObjOk X.prog X.w _ h' _ (.lst ys) from ⟨hz, its, c', r', e⟩), rfl, q _ (I.hok.fresh (Nat.le_refl _))⟩
  rcases hq with hq | hq
  · obtain ⟨its, r', pl, hz⟩ := I.list hq
    have hlen := r'.length
    obtain ⟨o, ho, hc, n, hd⟩ := pl.isList
    exact call_list_seq p (.inl rfl) ho hc hd (fun h' c' kp e => fin its r' hz h' c' kp e) (by simp only [List.size_toArray] <;> omega)
  · obtain ⟨its, r', pl, hz⟩ := I.tuple hq
    have hlen := r'.length
    obtain ⟨o, ho, hc, n, hd⟩ := pl
    exact call_list_seq p (.inr rfl) ho hc hd (fun h' c' kp e => fin its r' hz h' c' kp e) (by simp only [List.size_toArray] <;> omega)

/-! ### the call of a builtin's method: o.m(..) -/
/-- the value is of that builtin type -/
def tyV (K : PySem.W.Frag) (T : String) (x : V) (H : Hp) : Prop := match x with
  | .str _ => T = "str"
  | .int _ => T = "int"
  | .ref p => (T = "list" ∧ ∃ xs, SqL K H p xs) ∨ (T = "tuple" ∧ ∃ o, K.lookup p = some o ∧ o.cls = .type "tuple" ∧ o.dict = none) ∨
      (T = "dict" ∧ ((∃ kvs, H p = some (.dK kvs)) ∨ ∃ kvs, H p = some (.dT kvs))) ∨ (T = "set" ∧ ∃ S n, H p = some (.set S n))
  | _ => False
theorem tyV_is {pins : List (Addr × Obj)} {σ : St} {H : Hp} {s : Shared} {T : String} {x : V} {v : Value} (I : Inv X pins σ H s) (r : RelV x v) (ty : tyV X.K T x H) :
    s.TypeIs v T ∧ ∀ a, v = .ref a → ∃ ob, s.heap.get? a = some ob ∧ ob.dict = none := by
  cases x with
  | str z =>
    obtain ⟨t, rfl⟩ := r
    cases (show T = "str" from ty)
    exact ⟨typeIs_str s z t, fun _ e => nomatch e⟩
  | int i =>
    obtain ⟨t, rfl⟩ := r
    cases (show T = "int" from ty)
    exact ⟨typeIs_int s i t, fun _ e => nomatch e⟩
  | ref p =>
    cases r
    rcases ty with ⟨rfl, xs, hq⟩ | ⟨rfl, o, hk, hc, hd⟩ | ⟨rfl, hk⟩ | ⟨rfl, S, n, hk⟩
    · obtain ⟨its, _, pl, _⟩ := I.list hq
      refine ⟨pl.isList.typeIs, fun a e => ?_⟩
      cases e
      obtain ⟨o, n, e, c, hd, _⟩ := pl
      exact ⟨o, e, hd⟩
    · refine ⟨⟨o, I.kIn p o hk, hc⟩, fun a e => ?_⟩
      cases e
      exact ⟨o, I.kIn _ o hk, hd⟩
    · have z : ∃ o, s.heap.get? p = some o ∧ o.ExactDict := by
        rcases hk with ⟨kvs, hk⟩ | ⟨kvs, hk⟩
        · obtain ⟨_, _, _, _, o, _, _, e, ex, _⟩ := I.hok p _ hk
          exact ⟨o, e, ex⟩
        · obtain ⟨_, _, _, _, o, _, _, e, ex, _⟩ := I.hok p _ hk
          exact ⟨o, e, ex⟩
      obtain ⟨o, e, ex⟩ := z
      refine ⟨⟨o, e, ex.1⟩, fun a e2 => ?_⟩
      cases e2
      exact ⟨o, e, ex.2.1⟩
    · obtain ⟨o, _, _, _, e, ex, _⟩ := I.hok p _ hk
      refine ⟨⟨o, e, ex.1⟩, fun a e2 => ?_⟩
      cases e2
      exact ⟨o, e, ex.2.1⟩
  | _ => exact False.elim ty
def tBM0 (K : PySem.W.Frag) (T : String) (r : V → List V → Hp → VK → Prop) (to : TE) : TE := fun σ H Q => to σ H fun x H1 => tyV K T x H1 ∧ r x [] H1 Q
def tBM (K : PySem.W.Frag) (T : String) (r : V → List V → Hp → VK → Prop) (to : TE) (t : TA) : TE := fun σ H Q => to σ H fun x H1 => tyV K T x H1 ∧ t σ H1 fun xs H2 => r x xs H2 Q
variable {o e : Expr} {es : List Expr} {to : TE} {t : TA} {name : Str} {apos cpos : Pos} {T id : String} {r : V → List V → Hp → VK → Prop}
theorem pe_bm (pa : PlainAttrs T) (slot : Slot T name id) (hty : typeOf (.builtin id) = pure (.type "method_descriptor")) (hm : MtR X id r) (ho : PE X o to) (ha : PA X (e :: es) t)
    (hbase : attributeBase o name X.env (eval o X.env) = eval o X.env := by rfl)
    (hfew : ((backTo cpos (starEach (e :: es) X.env)).all (fun x => !x.1) && (backToKw cpos (keywordEach [] X.env)).all (fun x => x.1.isSome)
      && decide ((e :: es).length + ([] : List Keyword).length + (if ([] : List Keyword).isEmpty then 0 else 1) < 30)) = true := by rfl)
    (hline : (apos.endLine == cpos.line) = true := by rfl) (hs : starEach (e :: es) X.env = (false, eval e X.env) :: starEach es X.env := by rfl) (hplain : (backTo cpos (starEach es X.env)).any (·.1) = false := by rfl) :
    PE X (.Call (.Attribute o name apos) (e :: es) [] cpos) (tBM X.K T r to t) := by
  intro pins s σ H Q I h
  refine wpAny_Call_method_late hbase hfew hline rfl (thn (ho pins s σ H _ I h) fun v s1 ⟨x, H1, I1, r1, ty, q1⟩ => ?_)
  obtain ⟨h1, h2⟩ := tyV_is I1 r1 ty
  refine ⟨T, id, pa, slot, hty, h1, h2, ?_⟩
  have hA := ha cpos pins s1 σ H1 _ I1 q1
  rw [hs] at hA ⊢
  refine Calls.callWith_builtin (by show (false || (backTo cpos (starEach es X.env)).any (·.1)) = false; rw [hplain] <;> rfl) (Calls.evalArgs_plain ?_)
  exact thn hA fun us s2 ⟨vs, H2, I2, r2, q2⟩ => hm pins s2 σ H2 x vs v us Q I2 r1 r2 q2
/- xs.append(e), list.index on a module's tuple .. are MtR facts of 06m -/
end
end L2

namespace L2
open PySem PySem.Spec PyProof.Rows

def MtM (X : Cx) (id : String) (r : V → List V → Hp → VK → Prop) : Prop :=
  ∀ (pins : List (Addr × Obj)) (s : Shared) (σ : St) (H : Hp) (x : V) (xs : List V) (v : Value) (us : List Value) (Q : VK), Inv X pins σ H s → RelV x v → Vals xs us → r x xs H Q →
    wpAny (model X.prog X.w) X.A (call (.builtin id) (v :: us)) (EP X pins σ Q) X.xe s

/-! ### lists of values -/
theorem Vals.one : ∀ {x : V} {us : List Value}, Vals [x] us → ∃ u, us = [u] ∧ RelV x u
  | _, _, .cons r .nil => ⟨_, rfl, r⟩
theorem Vals.two : ∀ {x y : V} {us : List Value}, Vals [x, y] us → ∃ u v, us = [u, v] ∧ RelV x u ∧ RelV y v
  | _, _, _, .cons r (.cons q .nil) => ⟨_, _, rfl, r, q⟩
theorem Vals.zero : ∀ {us : List Value}, Vals [] us → us = []
  | _, .nil => rfl

section
variable {X : Cx} {pins : List (Addr × Obj)} {σ : St} {H : Hp} {s : Shared} {l b : Addr} {xs ys zs : List V}

/-! ### the two steps: a tracked list is rewritten, a new list is laid -/
theorem Inv.lset {its its' : List Value} {n : Nat} {f : Array Value → Array Value} {t' : Nat} (I : Inv X pins σ H s) (hH : H l = some (.lst xs))
    (e : s.heap.get? l = some { cls := .type "list", data := .seq its.toArray n }) (hf : f its.toArray = its'.toArray) (hv : Vals ys its') (hz : ys.length ≤ sizeLine) :
    Inv X pins σ (upd H l (.lst ys)) { s with heap := s.heap.update l (Obj.mapSeq f), toks := t' } := by
  have q := PySem.IsL.update e f
  rw [hf] at q
  refine I.write (x := l) (e := l) (by rw [hH]; exact trivial) (.inl rfl) (fun b' u hb hu => (Heap.get?_update_other s.heap (Obj.mapSeq f) (Ne.symm hb)).trans hu) ⟨_, q⟩ ?_
  exact ⟨hz, its', _, hv, q⟩
theorem Inv.lnew {its : List Value} {t' : Nat} (I : Inv X pins σ H s) (hv : Vals ys its) (hz : ys.length ≤ sizeLine) :
    Inv X pins σ (upd H s.heap.objs.size (.lst ys)) { s with heap := s.heap.push { cls := .type "list", data := .seq its.toArray }, toks := t' } :=
  I.laid (fun _ _ q => Heap.get?_push_of_some _ q) (Nat.le_refl _) ⟨hz, its, 0, hv, Heap.get?_push_size _ rfl⟩
theorem Inv.fresh (I : Inv X pins σ H s) : H s.heap.objs.size = none := I.hok.fresh (Nat.le_refl _)
theorem Inv.lstM (I : Inv X pins σ H s) (hH : H l = some (.lst xs)) : xs.length ≤ sizeLine ∧ ∃ (its : List Value) (n : Nat), Vals xs its ∧ xs.length = its.length ∧ s.heap.get? l = some { cls := .type "list", data := .seq its.toArray n } := by
  obtain ⟨z, its, n, r, e⟩ := I.hok l _ hH
  exact ⟨z, its, n, r, r.length, e⟩

end

section
variable {X : Cx}

/-! ### methods -/
def rAppend : V → List V → Hp → VK → Prop := fun x vs H Q => ∃ l xs y, x = .ref l ∧ vs = [y] ∧ H l = some (.lst xs) ∧ xs.length < sizeLine ∧ Q .non (upd H l (.lst (xs ++ [y])))
theorem mt_append : MtM X "list.append" rAppend := by
  intro pins s σ H x vs v us Q I rx rv h
  obtain ⟨l, xs, y, rfl, rfl, hH, hz, q⟩ := h
  cases rx
  obtain ⟨u, rfl, ru⟩ := rv.one
  obtain ⟨z, its, n, r, hl, e⟩ := I.lstM hH
  refine call_meets F.slot_list_append ⟨_, e, rfl⟩ F.entry_list_append (F.args_list_append_2 _ _) (PySem.list_append l its.toArray n u (by rw [List.size_toArray]; omega)) ⟨e, ?_⟩
  refine ⟨.non, _, I.lset (its' := its ++ [u]) hH e (by simp) (r.append (.cons ru .nil)) ?_, rfl, q⟩
  rw [List.length_append, List.length_singleton]
  omega

def rExtend : V → List V → Hp → VK → Prop := fun x vs H Q => ∃ l b xs zs, x = .ref l ∧ vs = [.ref b] ∧ H l = some (.lst xs) ∧ H b = some (.lst zs) ∧ xs.length + zs.length ≤ sizeLine ∧ Q .non (upd H l (.lst (xs ++ zs)))





/-! ### list + list, list += list, list * int -/
def rCat : R2 := fun x y H Q => ∃ l b xs zs, x = .ref l ∧ y = .ref b ∧ H l = some (.lst xs) ∧ H b = some (.lst zs) ∧ xs.length + zs.length ≤ sizeLine ∧ ∀ p, H p = none → Q (.ref p) (upd H p (.lst (xs ++ zs)))
theorem op_cat : OpR X (binaryOp .Add) rCat := by
  intro pins s σ H x y v u Q I rx ry h
  obtain ⟨l, b, xs, zs, rfl, rfl, hH, hB, hz, q⟩ := h
  cases rx
  cases ry
  obtain ⟨z, its, n, r, hl, e⟩ := I.lstM hH
  obtain ⟨z2, its2, n2, r2, hl2, e2⟩ := I.lstM hB
  refine PySem.P.add_list e e2 ?_ (by rw [List.size_toArray, List.size_toArray]; omega)
  have ea : its.toArray ++ its2.toArray = (its ++ its2).toArray := by simp
  rw [ea]
  exact ⟨.ref _, _, I.lnew (t' := s.toks) (r.append r2) (by rw [List.length_append]; omega), rfl, q _ I.fresh⟩

/-! ### del xs[i] -/
end

/-! ### xs[a:b] = ys -/
section
variable {prog : Program} {w : World} {A : Around} {E : Value → Shared → Prop} {s : Shared}
set_option maxRecDepth 100000 in
end

section
variable {X : Cx}
end
end L2


namespace L2
open PySem PySem.Spec PyProof.Rows

/-! ### lists of pairs as tables -/
section
variable {κ : Type} [DecidableEq κ]
def valV (kvs : List (κ × V)) (k : κ) : Option V := (kvs.find? fun kv => decide (kv.1 = k)).map (·.2)
/-- in its place, or at the end -/
def putK (kvs : List (κ × V)) (k : κ) (v : V) : List (κ × V) :=
  if (kvs.any fun kv => decide (kv.1 = k)) = true then kvs.map (fun kv => if kv.1 = k then (kv.1, v) else kv) else kvs ++ [(k, v)]
def dropK (kvs : List (κ × V)) (k : κ) : List (κ × V) := kvs.filter fun kv => decide (kv.1 ≠ k)

theorem valV_pos {p : κ × V} {r : List (κ × V)} {k : κ} (e : p.1 = k) : valV (p :: r) k = some p.2 := by simp [valV, List.find?_cons, e]
theorem valV_neg {p : κ × V} {r : List (κ × V)} {k : κ} (e : ¬ p.1 = k) : valV (p :: r) k = valV r k := by simp [valV, List.find?_cons, e]
theorem valV_any (k : κ) : ∀ kvs : List (κ × V), (kvs.any fun kv => decide (kv.1 = k)) = (valV kvs k).isSome
  | [] => rfl
  | p :: r => by
    rw [List.any_cons]
    by_cases e : p.1 = k
    · simp only [valV_pos e, decide_eq_true e, Bool.true_or, Option.isSome_some]
    · rw [valV_neg e, decide_eq_false e, Bool.false_or]; exact valV_any k r
theorem valV_map (k j : κ) (y : V) : ∀ kvs : List (κ × V), valV (kvs.map fun kv => if kv.1 = k then (kv.1, y) else kv) j = (valV kvs j).map fun x => if j = k then y else x
  | [] => rfl
  | p :: r => by
    have ih := valV_map k j y r
    rw [List.map_cons]
    by_cases h : p.1 = k
    · rw [if_pos h]
      by_cases e : p.1 = j
      · rw [valV_pos (p := (p.1, y)) e, valV_pos e, Option.map_some, if_pos (e.symm.trans h)]
      · rw [valV_neg (p := (p.1, y)) e, valV_neg e, ih]
    · rw [if_neg h]
      by_cases e : p.1 = j
      · rw [valV_pos (p := p) e, valV_pos e, Option.map_some, if_neg (fun z => h (e.trans z))]
      · rw [valV_neg (p := p) e, valV_neg e, ih]
theorem valV_snoc (k j : κ) (y : V) : ∀ kvs : List (κ × V), valV kvs k = none → valV (kvs ++ [(k, y)]) j = if j = k then some y else valV kvs j
  | [], _ => by
    by_cases e : k = j
    · rw [if_pos e.symm]; exact valV_pos (p := (k, y)) e
    · rw [if_neg (fun z => e z.symm)]; exact valV_neg (p := (k, y)) e
  | p :: r, hn => by
    rw [List.cons_append]
    have hk : ¬ p.1 = k := fun z => by rw [valV_pos z] at hn; cases hn
    rw [valV_neg hk] at hn
    have ih := valV_snoc k j y r hn
    by_cases e : p.1 = j
    · rw [valV_pos e, valV_pos e, if_neg (fun z => hk (e.trans z))]
    · rw [valV_neg e, valV_neg e, ih]
theorem valV_put (kvs : List (κ × V)) (k j : κ) (y : V) : valV (putK kvs k y) j = if j = k then some y else valV kvs j := by
  unfold putK
  by_cases a : (kvs.any fun kv => decide (kv.1 = k)) = true
  · rw [if_pos a, valV_map]
    rw [valV_any] at a
    by_cases e : j = k
    · obtain ⟨x, hx⟩ := Option.isSome_iff_exists.mp a
      rw [if_pos e, e, hx, Option.map_some, if_pos rfl]
    · rw [if_neg e]
      cases valV kvs j with
      | none => rfl
      | some x => rw [Option.map_some, if_neg e]
  · rw [if_neg a]
    refine valV_snoc k j y kvs ?_
    rw [valV_any] at a
    cases q : valV kvs k with
    | none => rfl
    | some x => rw [q] at a; exact (a rfl).elim
theorem length_putK (kvs : List (κ × V)) (k : κ) (v : V) : (putK kvs k v).length ≤ kvs.length + 1 := by
  unfold putK
  split
  · rw [List.length_map]; omega
  · rw [List.length_append, List.length_cons, List.length_nil]; omega
theorem putK_new {kvs : List (κ × V)} {k : κ} (v : V) (h : valV kvs k = none) : putK kvs k v = kvs ++ [(k, v)] := by
  unfold putK
  rw [valV_any, h]
  exact if_neg (by decide)

theorem RelO.isSome_eq {o : Option V} {u : Option Value} (r : RelO o u) : o.isSome = u.isSome := by
  cases o with
  | none => cases u with
    | none => rfl
    | some _ => exact (show False from r).elim
  | some _ => cases u with
    | none => exact (show False from r).elim
    | some _ => rfl
theorem RelO.getD {o : Option V} {u : Option Value} {d : V} {d' : Value} (r : RelO o u) (rd : RelV d d') : RelV (o.getD d) (u.getD d') := by
  cases o with
  | none => cases u with
    | none => exact rd
    | some _ => exact (show False from r).elim
  | some _ => cases u with
    | none => exact (show False from r).elim
    | some _ => exact r

/-- raw tables of the same keys -/
theorem KV.val {kvs : List (κ × V)} {vs : List (κ × Value)} (r : KV kvs vs) (k : κ) : RelO (valV kvs k) (valueAt vs k) := by
  unfold KV at r
  induction r with
  | nil => exact True.intro
  | @cons p q ps qs h t ih =>
    obtain ⟨h1, h2⟩ := h
    by_cases e : p.1 = k
    · have e' : q.1 = k := h1.symm.trans e
      have b : valueAt (q :: qs) k = some q.2 := by simp [valueAt, List.find?_cons, e']
      rw [valV_pos e, b]; exact h2
    · have e' : ¬ q.1 = k := fun z => e (h1.trans z)
      have b : valueAt (q :: qs) k = valueAt qs k := by simp [valueAt, List.find?_cons, e']
      rw [valV_neg e, b]; exact ih
theorem KV.any {kvs : List (κ × V)} {vs : List (κ × Value)} (r : KV kvs vs) (k : κ) : (kvs.any fun kv => decide (kv.1 = k)) = vs.any fun kv => decide (kv.1 = k) := by
  unfold KV at r
  induction r with
  | nil => rfl
  | cons h t ih => rw [List.any_cons, List.any_cons, ih, h.1]
theorem KV.repl {kvs : List (κ × V)} {vs : List (κ × Value)} (r : KV kvs vs) (k : κ) {y : V} {u : Value} (ry : RelV y u) :
    KV (kvs.map fun kv => if kv.1 = k then (kv.1, y) else kv) (vs.map fun kv => if kv.1 = k then (kv.1, u) else kv) := by
  unfold KV at r ⊢
  induction r with
  | nil => exact .nil
  | @cons p q ps qs h t ih =>
    rw [List.map_cons, List.map_cons]
    refine .cons ?_ ih
    obtain ⟨h1, h2⟩ := h
    by_cases e : p.1 = k
    · rw [if_pos e, if_pos (h1.symm.trans e)]; exact ⟨h1, ry⟩
    · rw [if_neg e, if_neg (fun z => e (h1.trans z))]; exact ⟨h1, h2⟩
theorem KV.put {kvs : List (κ × V)} {vs : List (κ × Value)} (r : KV kvs vs) (k : κ) {y : V} {u : Value} (ry : RelV y u) : KV (putK kvs k y) (stored vs k u) := by
  unfold putK stored
  rw [r.any k]
  by_cases e : (vs.any fun kv => decide (kv.1 = k)) = true
  · rw [if_pos e, if_pos e]; exact r.repl k ry
  · rw [if_neg e, if_neg e]; exact Paired.snoc r ⟨rfl, ry⟩
theorem KV.drop {kvs : List (κ × V)} {vs : List (κ × Value)} (r : KV kvs vs) (k : κ) : KV (dropK kvs k) (without vs k) := by
  unfold KV at r ⊢
  unfold dropK without
  induction r with
  | nil => exact .nil
  | @cons p q ps qs h t ih =>
    obtain ⟨h1, h2⟩ := h
    rw [List.filter_cons, List.filter_cons]
    by_cases e : p.1 = k
    · have a : ¬ decide (p.1 ≠ k) = true := by simp [e]
      have b : ¬ decide (q.1 ≠ k) = true := by simp [h1.symm.trans e]
      rw [if_neg a, if_neg b]; exact ih
    · have e' : ¬ q.1 = k := fun z => e (h1.trans z)
      have a : decide (p.1 ≠ k) = true := by simp [e]
      have b : decide (q.1 ≠ k) = true := by simp [e']
      rw [if_pos a, if_pos b]; exact .cons ⟨h1, h2⟩ ih
theorem KV.keys {kvs : List (κ × V)} {vs : List (κ × Value)} (r : KV kvs vs) : kvs.map (·.1) = vs.map (·.1) := by
  unfold KV at r
  induction r with
  | nil => rfl
  | cons h t ih => rw [List.map_cons, List.map_cons, ih, h.1]
theorem KV.length {kvs : List (κ × V)} {vs : List (κ × Value)} (r : KV kvs vs) : kvs.length = vs.length := Paired.length r
end


/-! ### a tracked dict, its keys ints and texts or tuples of these -/
theorem kV_is {P : Program} {w : World} {k : Key} {u : Value} (r : RelV (kV k) u) : (mixKind P w).is k u = true := by
  cases k with
  | inl i => obtain ⟨t, e⟩ := (show ∃ t, u = Value.int i t from r); subst e; exact mixKind_int P w i t
  | inr x => obtain ⟨t, e⟩ := (show ∃ t, u = Value.str x t from r); subst e; exact mixKind_str P w x t
theorem items_are {P : Program} {w : World} : ∀ {ks : List Key} {us : List Value}, Vals (ks.map kV) us → ItemsAre (mixKind P w) ks us
  | [], _, r => by rw [List.map_nil] at r; cases r; exact .nil
  | k :: ks, _, r => by
    rw [List.map_cons] at r
    cases r with
    | cons h t => exact .cons (kV_is h) (items_are t)

/-- raw entries of a dict with tuple keys -/
abbrev KT (H : Hp) : List (List Key × V) → List (List Key × Addr × Value) → Prop := Paired fun p q => p.1 = q.1 ∧ H q.2.1 = some (.tup (p.1.map kV)) ∧ RelV p.2 q.2.2
theorem KT.val {H : Hp} {kvs : List (List Key × V)} {xs : List (List Key × Addr × Value)} (r : KT H kvs xs) (k : List Key) : RelO (valV kvs k) ((atKey xs k).map (·.2)) := by
  induction r with
  | nil => exact True.intro
  | @cons p q ps qs h t ih =>
    obtain ⟨h1, _, h2⟩ := h
    by_cases e : p.1 = k
    · have e' : q.1 = k := h1.symm.trans e
      have b : atKey (q :: qs) k = some q.2 := by simp [atKey, List.find?_cons, e']
      rw [valV_pos e, b]; exact h2
    · have e' : ¬ q.1 = k := fun z => e (h1.trans z)
      have b : atKey (q :: qs) k = atKey qs k := by simp [atKey, List.find?_cons, e']
      rw [valV_neg e, b]; exact ih
theorem KT.repl {H : Hp} {kvs : List (List Key × V)} {xs : List (List Key × Addr × Value)} (r : KT H kvs xs) (k : List Key) {y : V} {u : Value} (ry : RelV y u) :
    KT H (kvs.map fun kv => if kv.1 = k then (kv.1, y) else kv) (xs.map (putAt k u)) := by
  induction r with
  | nil => exact .nil
  | @cons p q ps qs h t ih =>
    rw [List.map_cons, List.map_cons]
    refine .cons ?_ ih
    obtain ⟨h1, h2, h3⟩ := h
    unfold putAt
    by_cases e : p.1 = k
    · rw [if_pos e, if_pos (h1.symm.trans e)]; exact ⟨h1, h2, ry⟩
    · rw [if_neg e, if_neg (fun z => e (h1.trans z))]; exact ⟨h1, h2, h3⟩
theorem KT.put {H : Hp} {kvs : List (List Key × V)} {xs : List (List Key × Addr × Value)} (r : KT H kvs xs) (k : List Key) {b : Addr} {y : V} {u : Value} (hb : H b = some (.tup (k.map kV))) (ry : RelV y u) :
    KT H (putK kvs k y) (storedH xs k b u) := by
  have e : (kvs.any fun kv => decide (kv.1 = k)) = (atKey xs k).isSome := by
    rw [valV_any, (r.val k).isSome_eq, Option.isSome_map]
  unfold putK storedH
  rw [e]
  by_cases q : (atKey xs k).isSome = true
  · rw [if_pos q, if_pos q]; exact r.repl k ry
  · rw [if_neg q, if_neg q]; exact Paired.snoc r ⟨rfl, hb, ry⟩
theorem KT.keeps {H H' : Hp} {kvs : List (List Key × V)} {xs : List (List Key × Addr × Value)} (r : KT H kvs xs) (ht : ∀ b ys, H b = some (.tup ys) → H' b = some (.tup ys)) : KT H' kvs xs :=
  Paired.mapP r fun _ _ z => ⟨z.1, ht _ _ z.2.1, z.2.2⟩

section
variable {P : Program} {w : World} {H : Hp} {h : Heap} {a : Addr}
theorem rd_of {u : HO} (ok : HOk P w H h) (e : Rd H a u) : ObjOk P w H h a u := e.ok ok
theorem dk_rd {kvs : List (Key × V)} (ok : HOk P w H h) (e : Rd H a (.dK kvs)) : kvs.length ≤ sizeLine ∧ (a == sysModules) = false ∧ ∃ vs, KV kvs vs ∧ h.DictOf (mixKind P w) a vs :=
  show ObjOk P w H h a (.dK kvs) from rd_of ok e
theorem dk_of {kvs : List (Key × V)} (ok : HOk P w H h) (e : H a = some (.dK kvs)) : kvs.length ≤ sizeLine ∧ (a == sysModules) = false ∧ ∃ vs, KV kvs vs ∧ h.DictOf (mixKind P w) a vs := dk_rd ok (.inl e)
/-- a tracked tuple of ints and texts is a key -/
theorem key_of {ks : List Key} (ok : HOk P w H h) (e : H a = some (.tup (ks.map kV))) : (tupleKind (mixKind P w)).is h ks a := by
  obtain ⟨_, its, r, o, h1, h2, n, h3⟩ := (show ObjOk P w H h a (.tup (ks.map kV)) from ok a _ e)
  exact ⟨o, its.toArray, n, h1, h2, h3, by simpa using items_are r⟩
theorem dt_rd {kvs : List (List Key × V)} (ok : HOk P w H h) (e : Rd H a (.dT kvs)) : kvs.length ≤ sizeLine ∧ (a == sysModules) = false ∧
    ∃ xs, KT H kvs xs ∧ h.DictOfH (tupleKind (mixKind P w)) a xs := by
  obtain ⟨z, y, xs, r, o, es, ep, h1, h2, h3, h4, h5⟩ := (show ObjOk P w H h a (.dT kvs) from rd_of ok e)
  refine ⟨z, y, xs, r, o, es, ep, h1, h2, h3, h4, fun x hx => ?_, h5⟩
  have all : ∀ {l : List (List Key × V)} {m : List (List Key × Addr × Value)}, KT H l m → ∀ x ∈ m, (tupleKind (mixKind P w)).is h x.1 x.2.1 := by
    intro l m q
    induction q with
    | nil => intro x hx; exact nomatch hx
    | @cons p q ps qs hq t ih =>
      intro x hx
      rcases List.mem_cons.mp hx with e | hx
      · subst e
        exact key_of ok (by rw [← hq.1]; exact hq.2.1)
      · exact ih x hx
  exact all r x hx
theorem dt_of {kvs : List (List Key × V)} (ok : HOk P w H h) (e : H a = some (.dT kvs)) : kvs.length ≤ sizeLine ∧ (a == sysModules) = false ∧
    ∃ xs, KT H kvs xs ∧ h.DictOfH (tupleKind (mixKind P w)) a xs := dt_rd ok (.inl e)
end

/-- what the dict at a holds at the key y -/
def DGet (H : Hp) (a : Addr) (y : V) (r : Option V) : Prop :=
  (∃ kvs k, Rd H a (.dK kvs) ∧ y = kV k ∧ r = valV kvs k) ∨ ∃ kvs k b, Rd H a (.dT kvs) ∧ y = .ref b ∧ H b = some (.tup (k.map kV)) ∧ r = valV kvs k
/-- the heap behind a[y] = v -/
def DPut (H : Hp) (a : Addr) (y v : V) (H' : Hp) : Prop :=
  (∃ kvs k, H a = some (.dK kvs) ∧ y = kV k ∧ kvs.length < sizeLine ∧ H' = upd H a (.dK (putK kvs k v))) ∨
  ∃ kvs k b, H a = some (.dT kvs) ∧ y = .ref b ∧ H b = some (.tup (k.map kV)) ∧ kvs.length < sizeLine ∧ H' = upd H a (.dT (putK kvs k v))
theorem DGet.k {H : Hp} {a : Addr} {kvs : List (Key × V)} {k : Key} (e : H a = some (.dK kvs)) : DGet H a (kV k) (valV kvs k) := .inl ⟨kvs, k, .inl e, rfl, rfl⟩
theorem DGet.t {H : Hp} {a b : Addr} {kvs : List (List Key × V)} {k : List Key} (e : H a = some (.dT kvs)) (eb : H b = some (.tup (k.map kV))) : DGet H a (.ref b) (valV kvs k) := .inr ⟨kvs, k, b, .inl e, rfl, eb, rfl⟩
theorem DPut.k {H : Hp} {a : Addr} {kvs : List (Key × V)} {k : Key} {v : V} (e : H a = some (.dK kvs)) (hl : kvs.length < sizeLine) : DPut H a (kV k) v (upd H a (.dK (putK kvs k v))) := .inl ⟨kvs, k, e, rfl, hl, rfl⟩
theorem DPut.t {H : Hp} {a b : Addr} {kvs : List (List Key × V)} {k : List Key} {v : V} (e : H a = some (.dT kvs)) (eb : H b = some (.tup (k.map kV))) (hl : kvs.length < sizeLine) :
    DPut H a (.ref b) v (upd H a (.dT (putK kvs k v))) := .inr ⟨kvs, k, b, e, rfl, eb, hl, rfl⟩


section
variable {X : Cx} {pins : List (Addr × Obj)} {σ : St} {H : Hp} {s : Shared} {a : Addr} {y v : V} {u r : Value} {o : Option V} {A : Around} {E : Value → Shared → Prop}

theorem Inv.big (I : Inv X pins σ H s) : sysModules < s.heap.objs.size := by
  have h : mainGlobals < s.heap.objs.size := (I.mod.glob.keeps I.bk).lt
  exact Nat.lt_trans (by decide) h

/-- y in d -/
theorem d_in {Q : Value → Shared → Prop} (hu : A.units + 1 < cLine) (I : Inv X pins σ H s) (g : DGet H a y o) (ry : RelV y u) (h : ∀ s', Inv X pins σ H s' → Q (.bool o.isSome) s') :
    wpAny (model X.prog X.w) A (compareOp .In u (.ref a)) Q E s := by
  rcases g with ⟨kvs, k, e, ey, l⟩ | ⟨kvs, k, b, e, ey, eb, l⟩
  · subst ey
    obtain ⟨z, hd, vs, rel, dd⟩ := dk_rd I.hok e
    refine wpAny_in_of (kV_is ry) hd dd.mapOf ?_
    rw [← (rel.val k).isSome_eq, ← l]
    exact h _ (I.tok _)
  · subst ey
    cases (show u = Value.ref b from ry)
    obtain ⟨z, hd, xs, rel, dd⟩ := dt_rd I.hok e
    refine wpAny_in_heap (tupleKind_room_in1 hu) (key_of I.hok eb) hd dd ?_
    have q := (rel.val k).isSome_eq
    rw [Option.isSome_map] at q
    rw [← q, ← l]
    exact h _ (I.tok _)
/-- a dict's object is replaced -/
theorem d_write {h' : Heap} {t' : Nat} {ob : HO} (I : Inv X pins σ H s) (mu : Mut (H a)) (hs : Heap.SameBut a s.heap h') (he : ∃ q, h'.get? a = some q) (new : ObjOk X.prog X.w (upd H a ob) h' a ob) :
    Inv X pins σ (upd H a ob) { s with heap := h', toks := t' } :=
  I.write (x := a) (e := a) mu (.inl rfl) (fun b q hb z => (hs.2 b hb).trans z) he new
theorem dk_new {P : Program} {w : World} {H' : Hp} {h' : Heap} {kvs : List (Key × V)} {vs : List (Key × Value)} (z : kvs.length ≤ sizeLine) (hd : (a == sysModules) = false) (rel : KV kvs vs) (dd : h'.DictOf (mixKind P w) a vs) :
    ObjOk P w H' h' a (.dK kvs) := ⟨z, hd, vs, rel, dd⟩
/-- d[y] = v -/
theorem d_setItem {H' : Hp} {Q : Unit → Shared → Prop} (hu : A.units + 1 < cLine) (I : Inv X pins σ H s) (g : DPut H a y v H') (ry : RelV y u) (rv : RelV v r) (h : ∀ s', Inv X pins σ H' s' → Q () s') :
    wpAny (model X.prog X.w) A (setItem (.ref a) u r) Q E s := by
  rcases g with ⟨kvs, k, e, ey, l, eH⟩ | ⟨kvs, k, b, e, ey, eb, l, eH⟩
  · subst ey eH
    obtain ⟨z, hd, vs, rel, dd⟩ := dk_of I.hok e
    have hz : vs.length ≤ sizeLine := by rw [← rel.length]; exact z
    have hl : (putK kvs k v).length ≤ sizeLine := by have := length_putK kvs k v; omega
    refine wpAny_setItem_pairs (hsz := hz) (kV_is ry) dd fun h' dd' hs => h _ ?_
    have he : ∃ q, h'.get? a = some q := let ⟨q, _, _, hq, _⟩ := dd'; ⟨q, hq⟩
    exact d_write I (by rw [e]; exact True.intro) hs he (dk_new hl hd (rel.put k rv) dd')
  · subst ey eH
    cases (show u = Value.ref b from ry)
    obtain ⟨z, hd, xs, rel, dd⟩ := dt_of I.hok e
    have hz : xs.length ≤ sizeLine := by rw [← Paired.length rel]; exact z
    have hl : (putK kvs k v).length ≤ sizeLine := by have := length_putK kvs k v; omega
    refine wpAny_setItem_heap (hsz := hz) (tupleKind_room_in1 hu) (key_of I.hok eb) dd fun h' dd' hs => h _ ?_
    obtain ⟨q, es, ep, hq, h2, h3, h4, _, h5⟩ := dd'
    refine d_write I (by rw [e]; exact True.intro) hs ⟨q, hq⟩ ⟨hl, hd, _, (rel.put k eb rv).keeps fun c ys ec => ?_, q, es, ep, hq, h2, h3, h4, h5⟩
    rw [upd_ne (ne_of ec e (fun z => nomatch z))]
    exact ec
end

section
variable {X : Cx} {pins : List (Addr × Obj)} {σ : St} {H : Hp} {s : Shared} {a : Addr} {kvs : List (Key × V)} {k : Key} {u : Value} {A : Around} {E : Value → Shared → Prop}
end


/-! ### readings and rules -/


/-- d[y] -/
def tDGet (td ty : TE) : TE := fun σ H Q => td σ H fun x H1 => ty σ H1 fun y H2 => ∃ a v, x = .ref a ∧ DGet H2 a y (some v) ∧ Q v H2
/-- y in d, y not in d -/
def tDIn (ty td : TE) : TE := fun σ H Q => ty σ H fun y H1 => td σ H1 fun x H2 => ∃ a o, x = .ref a ∧ DGet H2 a y o ∧ Q (.bl o.isSome) H2
def tDNotIn (ty td : TE) : TE := fun σ H Q => ty σ H fun y H1 => td σ H1 fun x H2 => ∃ a o, x = .ref a ∧ DGet H2 a y o ∧ Q (.bl (!o.isSome)) H2
/-- d[y] = v -/
def sDPut (td ty tv : TE) : TS := fun D σ H => tv σ H fun v H1 => td σ H1 fun x H2 => ty σ H2 fun y H3 => ∃ a H4, x = .ref a ∧ DPut H3 a y v H4 ∧ D.nx σ H4

section
variable {X : Cx} {o i e value : Expr} {pos pos' tpos : Pos} {td ty tv : TE}
theorem pc_din (hu : X.A.units + 1 < cLine) (hi : PE X i ty) (ho : PE X o td) : PC X .In i o (tDIn ty td) := by
  intro pins s σ H Q I h
  refine thn (hi pins s σ H _ I h) fun iv s1 ⟨y, H1, I1, ry, q1⟩ => thn (ho pins s1 σ H1 _ I1 q1) fun u s2 ⟨x, H2, I2, rx, a, ov, ex, g, q2⟩ => ?_
  subst ex
  obtain rfl : u = Value.ref a := rx
  exact d_in hu I2 g ry fun s3 I3 => ⟨.bl ov.isSome, H2, I3, rfl, q2⟩
theorem ps_dput (hu : X.A.units + 1 < cLine) (ho : PE X o td) (hi : PE X i ty) (hv : PE X value tv) (hs : swapsWith value (some (.Subscript o i pos')) pos.line X.env = pure false) :
    PS X (.Assign [.Subscript o i pos'] value pos) (sDPut td ty tv) := by
  intro pins s σ H D I h
  refine wpAny_Assign_Subscript (thn (hv pins s σ H _ I h) fun r s1 ⟨v, H1, I1, rv, q1⟩ => thn (ho pins s1 σ H1 _ I1 q1) fun u s2 ⟨x, H2, I2, rx, q2⟩ => thn (hi pins s2 σ H2 _ I2 q2) fun iv s3 ⟨y, H3, I3, ry, a, H4, ex, g, q3⟩ => ?_) hs
  subst ex
  obtain rfl : u = Value.ref a := rx
  exact d_setItem hu I3 g ry rv fun s4 I4 => ⟨σ, H4, I4, q3⟩
end


/-! ### displays -/
theorem dk_empty {P : Program} {w : World} {H : Hp} (h : Heap) (hb : sysModules < h.objs.size) : ObjOk P w H (h.push { cls := .type "dict", data := .dict #[] }) h.objs.size (.dK []) :=
  ⟨Nat.zero_le _, beq_eq_false_iff_ne.mpr (Ne.symm (Nat.ne_of_lt hb)), [], .nil, Heap.DictOf.new h⟩
/-- {}, to be a dict of the kind that is wanted -/
def tDNewK : TE := fun _ H Q => ∀ p, H p = none → Q (.ref p) (upd H p (.dK []))
section
variable {X : Cx} {pos : Pos}
theorem pe_dnewK : PE X (.Dict [] [] pos) tDNewK := fun pins s σ H Q I h =>
  wpAny_Dict_empty ⟨.ref s.heap.objs.size, _, I.laid (a := s.heap.objs.size) (o := .dK []) (t' := s.toks) (fun _ _ q => Heap.get?_push_of_some _ q) (Nat.le_refl _) (dk_empty s.heap I.big), rfl, h _ (I.hok.fresh (Nat.le_refl _))⟩
end

/-- the pairs of a display, from the left -/
def tPairs : List (TE × TE) → St → Hp → (List (V × V) → Hp → Prop) → Prop
  | [], _, H, Q => Q [] H
  | (tk, tv) :: r, σ, H, Q => tk σ H fun x H1 => tv σ H1 fun y H2 => tPairs r σ H2 fun ps H3 => Q ((x, y) :: ps) H3
abbrev VV : List (V × V) → List (Value × Value) → Prop := Paired fun p q => RelV p.1 q.1 ∧ RelV p.2 q.2
def PPs (X : Cx) (pos : Pos) (keys : List (Option Expr)) (values : List Expr) (trs : List (TE × TE)) : Prop :=
  ∀ (pins : List (Addr × Obj)) (s : Shared) (σ : St) (H : Hp) (Q : List (V × V) → Hp → Prop), Inv X pins σ H s → tPairs trs σ H Q →
    wpAny (model X.prog X.w) X.A (evalPairs (pairTrees keys values X.env pos)) (fun vs s' => ∃ ps H', Inv X pins σ H' s' ∧ VV ps vs ∧ Q ps H') X.xe s



/-! ### methods -/
/-- a method call o.m(e) of a built-in, with one argument: what must be seen of the text -/
structure M1 (X : Cx) (o : Expr) (m : Str) (apos : Pos) (e : Expr) (cpos : Pos) : Prop where
  base : attributeBase o m X.env (eval o X.env) = eval o X.env
  few : ((backTo cpos (starEach [e] X.env)).all (fun x => !x.1) && (backToKw cpos (keywordEach [] X.env)).all (fun x => x.1.isSome)
    && decide (([e] : List Expr).length + ([] : List Keyword).length + (if ([] : List Keyword).isEmpty then 0 else 1) < 30)) = true
  line : (apos.endLine == cpos.line) = true
  trees : backTo cpos (starEach [e] X.env) = [(false, eval e X.env)]
structure M2 (X : Cx) (o : Expr) (m : Str) (apos : Pos) (e f : Expr) (cpos : Pos) : Prop where
  base : attributeBase o m X.env (eval o X.env) = eval o X.env
  few : ((backTo cpos (starEach [e, f] X.env)).all (fun x => !x.1) && (backToKw cpos (keywordEach [] X.env)).all (fun x => x.1.isSome)
    && decide (([e, f] : List Expr).length + ([] : List Keyword).length + (if ([] : List Keyword).isEmpty then 0 else 1) < 30)) = true
  line : (apos.endLine == cpos.line) = true
  trees : backTo cpos (starEach [e, f] X.env) = [(false, eval e X.env), (false, eval f X.env)]

/-- a is a dict, whatever its keys -/
def IsD (H : Hp) (a : Addr) : Prop := (∃ kvs, Rd H a (.dK kvs)) ∨ ∃ kvs, Rd H a (.dT kvs)
theorem isD_at {X : Cx} {pins : List (Addr × Obj)} {σ : St} {H : Hp} {s : Shared} {a : Addr} (I : Inv X pins σ H s) (d : IsD H a) :
    s.TypeIs (.ref a) "dict" ∧ (∀ b, Value.ref a = .ref b → ∃ ob, s.heap.get? b = some ob ∧ ob.dict = none) ∧ (a == sysModules) = false := by
  rcases d with ⟨kvs, e⟩ | ⟨kvs, e⟩
  · obtain ⟨_, hd, vs, _, dd⟩ := dk_rd I.hok e
    refine ⟨dd.typeIs, fun b q => ?_, hd⟩
    cases q
    obtain ⟨ob, _, _, h1, h2, _⟩ := dd
    exact ⟨ob, h1, h2.2.1⟩
  · obtain ⟨_, hd, xs, _, dd⟩ := dt_rd I.hok e
    refine ⟨dd.typeIs, fun b q => ?_, hd⟩
    cases q
    obtain ⟨ob, _, _, h1, h2, _⟩ := dd
    exact ⟨ob, h1, h2.2.1⟩

section
variable {X : Cx} {pins : List (Addr × Obj)} {σ : St} {H : Hp} {s : Shared} {a : Addr} {y d : V} {u r : Value} {o : Option V} {A : Around} {E : Value → Shared → Prop}
end

section
variable {X : Cx} {o e f : Expr} {apos cpos : Pos} {td ty tx : TE}
end

/-! ### dict(d): a copy -/
section
variable {X : Cx} {pins : List (Addr × Obj)} {σ : St} {H : Hp} {s : Shared} {a : Addr} {kvs : List (Key × V)} {A : Around} {E : Value → Shared → Prop}
end


section
variable {X : Cx} {pins : List (Addr × Obj)} {σ : St} {H : Hp} {s : Shared} {a : Addr} {y : V} {u : Value} {A : Around} {E : Value → Shared → Prop}
end
end L2

namespace Att
open PySem PySem.W PySem.Calls PyProof.Rows

/-! ### the script -/
theorem ints_of_wellAll {P : Params} {h : Heap} : ∀ (ns : List Int) (vs : List Value), WellAll P h vs (ns.map WData.int) → IntsAre vs ns := by
  intro ns
  induction ns with
  | nil =>
    intro vs w
    rw [List.map_nil] at w
    cases w
    exact .nil
  | cons n ns ih =>
    intro vs w
    rw [List.map_cons] at w
    cases w with
    | cons a b =>
      cases a
      exact .cons _ _ (ih _ b)

theorem script_of {l : OpenLaw} {n : Nat} (hn : l.most = some n) {P : Params} {h : Heap} {args : List WData} {vals : List Value}
    (hpre : l.row.toRowW.claim.pre args = true) (hwl : WellAll P h vals args) :
    ∃ a vs ns, vals = [Value.ref a] ∧ args = [WData.list (ns.map WData.int)] ∧ h.get? a = some { cls := .type "list", data := .seq vs.toArray } ∧ IntsAre vs ns ∧ ns.length ≤ n := by
  have hsh : WShape.hasAll [] args [.list .int] = true := (pre_splitW hpre).1
  have hc : l.pre.holds [] { args := args } = true := (pre_splitW hpre).2
  obtain ⟨d, r, rfl, h1, h2⟩ := hasAllW_cons hsh
  obtain rfl := hasAllW_nil h2
  obtain ⟨xs, rfl, h3⟩ := hasW_list h1
  obtain ⟨ns, rfl⟩ := items_int h3
  have hlen : ns.length ≤ n := by
    unfold OpenLaw.pre at hc
    have h4 : (WTm.not (.lt (.lit (.int (n : Int))) (.len (.arg 0)))).holds [] { args := [.list (ns.map .int)] } = true := by
      have h4 := (holds_andW hc).1
      rw [hn] at h4
      exact h4
    have h5 := condW_of h4 (w_not (w_lt w_lit (w_len_list (w_arg rfl))))
    rw [List.length_map] at h5
    refine Nat.le_of_not_lt fun q => ?_
    have q' : (n : Int) < ((ns.length : Nat) : Int) := by omega
    first
      | (rw [decide_eq_true q'] at h5; exact absurd h5 (by decide))
      | (simp at h5; omega)
  cases hwl with
  | cons w1 w2 =>
    cases w2
    cases w1 with
    | list ho hall => exact ⟨_, _, ns, rfl, rfl, ho, ints_of_wellAll ns _ hall, hlen⟩

theorem post_true (l : OpenLaw) (args : List WData) : l.row.toRowW.claim.post args (.bool true) args = true :=
  postW_of (r := l.row.toRowW) (X := (true == true))
    (show WShape.has [] (.bool true) .bool = true by first | rfl | decide | simp [WShape.has, WShape.arms, WShape.armsAll])
    (show (WTm.eq .res (.lit (.bool true))).value [] { args := args, res := some (.bool true), after := args } = some (.bool (true == true)) from w_eq_bool (w_res rfl) w_lit) rfl

/-! ### the attachment: holds_open's last premise (the goal 'hc' behind k_head) from a wpAny of the law's body -/

/-- the same from a codeAny of the CALL (for a layer whose function contracts speak of calls) -/
theorem attach_call {l : OpenLaw} {n : Nat} {q : Program} {loose : List Str} {XP : (Str → Option Value) → Heap → Prop} {YP : World → Heap → Prop} {d : DefRec}
    (hn : l.most = some n) (hdf : d.params.defaults = [])
    (call : ∀ (w : World) (s₀ s₁ : Shared) (mg mb : Str → Option Value) (fa : Addr) (o : Obj) (pm cd doc : Value) (a : Addr) (vs : List Value) (ns : List Int),
      Ground q loose [] XP w s₀ mg mb s₁.heap → YP w s₁.heap →
      s₁.heap.get? fa = some o → o.data = .func (docDef d.name d.params d.body d.scope pm cd doc) → s₁.heap.CodeRec cd d.name → mg d.name = some (.ref fa) →
      s₁.heap.get? a = some { cls := .type "list", data := .seq vs.toArray } → IntsAre vs ns → ns.length ≤ n → s₁.gens = #[] →
      codeAny (model l.prog w) callerA (.call (.ref fa) ⟨[.ref a], []⟩) (fun r s' => r = .ok (.ret (.bool true)) ∧ OldK s₁.heap s'.heap ∧ s'.os = s₁.os ∧ AllBare s'.gens) s₁) :
    WalkO q loose XP YP l.row.toRowW d [] (fun f vs => PySem.call f vs) := by
  intro w s₀ s₁ mg mb G Y fa o pm cd doc dV kV ho hd hcd hD hmg hg args vals as hpre hlay hrd hwl hlo
  obtain rfl : dV = .none := Dflts.none hD hdf
  obtain rfl : kV = .none := Dflts.noKw hD
  obtain ⟨a, vs, ns, rfl, rfl, hobj, hints, hlen⟩ := script_of hn hpre hwl
  refine enter_call (codeAny_mono (call w s₀ s₁ mg mb fa o pm cd doc a vs ns G Y ho (fd_plain hd) hcd hmg hobj hints hlen hg) fun r s' hq => ?_)
  obtain ⟨rfl, h2, h3, h4⟩ := hq
  exact ⟨.inl ⟨.bool true, .bool true, [], rfl, fun _ => rfl, .bool true, post_true l _, fun _ => ⟨List.Pairwise.nil, fun _ hm => (nomatch hm)⟩⟩, h2, h3, h4⟩


/-! ### rules over ANY heap (no ledger) from facts about the written part K: the library's own take a ledger (News) for what they write -/
section
variable {prog : Program} {w : World} {A : Around} {E : Value → Shared → Prop} {s : Shared} {K : Frag}





/-! the whole heap as the ledger: makes every rule that writes through a ledger a rule over any heap -/
def ledger (h : Heap) (L d : Addr) : List (Addr × Obj) := (List.range h.objs.size).filterMap fun a => if a = L ∨ a = d then none else (h.get? a).map fun o => (a, o)

end
end Att

namespace L2
open PySem PySem.Spec PyProof.Rows

theorem vals_ints : ∀ {vs : List Value} {ns : List Int}, IntsAre vs ns → Vals (ns.map V.int) vs
  | _, _, .nil => .nil
  | _, _, .cons n t h => .cons ⟨t, rfl⟩ (vals_ints h)

/-- nothing is tracked but the script, known to the object (or it is an object of the module) -/
def Only (H : Hp) : Prop := ∀ b, H b = none ∨ ∃ o xs, H b = some (.frz o (.lst xs))

/-- THE HEAD: the law's promise, at the heap behind the top. F, the promise of the law's def, may use that base is part of the heap (so K.In base, base.Ns mainGlobals mg stand in Mod) -/
theorem law_call {P : Program} {w : World} {K : PySem.W.Frag} {mg mb : Str → Option Value} {CX : CXT} {k : Nat} {fa a : Addr} {fd : FuncData} {x : Str} {sp : Sp} {s₁ : Shared} {vs : List Value} {ns : List Int}
    (KX : K.In s₁.heap) (hns : s₁.heap.Ns mainGlobals mg) (hb : s₁.heap.Ns builtinsNs mb) (hbb : ∀ x : Str, x ≠ "__name__" → mb x = bootBuiltins x) (hlim : s₁.heap.NoLimit) (hg : s₁.gens = #[])
    (ha : s₁.heap.get? a = some { cls := .type "list", data := .seq vs.toArray }) (hi : IntsAre vs ns) (hl : ns.length ≤ sizeLine) (hr : Room k callerA)
    (F : ∀ base : Heap, K.In base → base.Ns mainGlobals mg → FnOk P w K mg base CX k fa fd [x] sp) (hbind : ∀ (s : Shared) (u : Value), BindsTo s fd ⟨[u], []⟩ [(x, u)])
    (hsp : ∀ H : Hp, Only H → SqL K H a (ns.map V.int) → sp [.ref a] H (fun v _ => v = .bl true) fun _ _ _ => False)
    (hCX : ∀ H e s', CX [] H s₁ (fun _ _ _ => False) e s' → False) :
    codeAny (model P w) callerA (.call (.ref fa) ⟨[.ref a], []⟩) (fun r s' => r = .ok (.ret (.bool true)) ∧ OldK s₁.heap s'.heap ∧ s'.os = s₁.os ∧ AllBare s'.gens) s₁ := by
  have rv := vals_ints hi
  have lenV := hi.length
  -- from an abstract heap in which nothing but the script may be tracked
  have core : ∀ H : Hp, Only H → SqL K H a (ns.map V.int) → HOk P w H s₁.heap → (∀ b, H b ≠ none → b = a) → (H a ≠ none → K.lookup a = none) →
      codeAny (model P w) callerA (.call (.ref fa) ⟨[.ref a], []⟩) (fun r s' => r = .ok (.ret (.bool true)) ∧ OldK s₁.heap s'.heap ∧ s'.os = s₁.os ∧ AllBare s'.gens) s₁ := by
    intro H hO hS hok hA hK
    have base_of : ∀ {b : Addr} {o : Obj}, s₁.heap.get? b = some o → H b = none → (hidT s₁.heap H).get? b = some o := fun e n => hidT_get e n
    have noA : ∀ {b : Addr} {o : Obj} {es : Array DictEntry} {ep : Nat}, s₁.heap.get? b = some o → o.data = .dict es ep → H b = none := fun {b o es ep} e d => by
      cases q : H b with
      | none => rfl
      | some u =>
        have e' : b = a := hA b (by rw [q]; simp)
        subst e'
        rw [ha] at e; cases e
        have d' : Data.seq vs.toArray _ = Data.dict es ep := d
        cases d'
    have nsK : ∀ {b : Addr} {m : Str → Option Value}, s₁.heap.Ns b m → (hidT s₁.heap H).Ns b m := fun {b m} ⟨o, es, ep, e, d, r⟩ => ⟨o, es, ep, base_of e (noA e d), d, r⟩
    have hKb : K.In (hidT s₁.heap H) := fun b o e => base_of (KX b o e) (by
      cases q : H b with
      | none => rfl
      | some u =>
        have e' : b = a := hA b (by rw [q]; simp)
        subst e'
        rw [hK (by rw [q]; simp)] at e; cases e)
    have hM : Mod K mg (hidT s₁.heap H) := ⟨hKb, nsK hns, ⟨mb, nsK hb, hbb⟩, let ⟨mc, h1, h2⟩ := hlim; ⟨mc, nsK h1, h2⟩⟩
    have e0 : Env0 P w K mg (hidT s₁.heap H) callerA [] s₁ H := ⟨rfl, hM, fun b o e => of_hidT e, Nat.le_of_eq (hidT_size _ _), trivial, fun b hb => absurd (show b ∈ ([] : List Addr) from hb) (by simp), hok, .of_eq hg⟩
    refine codeAny_mono ((F _ hKb (nsK hns)).run callerA [] s₁ H ⟨[.ref a], []⟩ [.ref a] [.ref a] _ _ hr e0 (hbind s₁ (.ref a)) (.cons rfl .nil) (hsp H hO hS)) fun r s' h => ?_
    cases r with
    | error e => exact (hCX H e s' h).elim
    | ok fl =>
      cases fl with
      | next => exact False.elim h
      | brk => exact False.elim h
      | cont => exact False.elim h
      | ret u =>
        obtain ⟨v, H', os, bare, un, hok', r', q⟩ := h
        have q' : v = .bl true := q
        subst q'
        obtain rfl : u = Value.bool true := r'
        refine ⟨rfl, OldK.of_keep fun b o e => ?_, os, bare⟩
        cases q : H b with
        | none => exact un.keep b o e q (by intro z; exact absurd (show b ∈ ([] : List Addr) from z) (by simp)) (by simp)
        | some u =>
          rcases hO b with z | ⟨ob, xs, z⟩
          · rw [q] at z; cases z
          · have z2 := un.frzs b ob _ z
            obtain ⟨e1, _⟩ := hok b _ z
            obtain ⟨e2, _⟩ := hok' b _ z2
            rw [e] at e1; cases e1
            exact e2
  cases hk : K.lookup a with
  | some o =>
    -- the script is one of the module's own objects
    have e := KX a o hk
    rw [ha] at e
    cases e
    refine core (fun _ => none) (fun _ => .inl rfl) (.inr ⟨_, vs.toArray, _, hk, rfl, rfl, rfl, by rw [List.size_toArray, lenV]; exact hl, by simpa using rv⟩) (fun b u z => by have z' : (none : Option HO) = some u := z; cases z') (fun b z => absurd rfl z) fun z => absurd rfl z
  | none =>
    refine core (fun b => if b = a then some (.frz { cls := .type "list", data := .seq vs.toArray } (.lst (ns.map V.int))) else none) (fun b => ?_) (.inl (.inr ⟨{ cls := .type "list", data := .seq vs.toArray }, if_pos rfl⟩)) (fun b u z => ?_) (fun b z => ?_) fun _ => hk
    · by_cases hb : b = a
      · exact .inr ⟨_, _, if_pos hb⟩
      · exact .inl (if_neg hb)
    · by_cases hb : b = a
      · have z' := (if_pos hb).symm.trans z
        cases z'
        subst hb
        exact ⟨ha, by rw [List.length_map]; exact hl, vs, _, rv, ha⟩
      · have z' := (if_neg hb).symm.trans z
        cases z'
    · by_cases hb : b = a
      · exact hb
      · exact absurd (if_neg hb) z
end L2

namespace L2
open PySem PySem.Spec PyProof.Rows


/-- the goal that k_head leaves (case hc), from the law's promise. F gives the function object fd (K's own) once, then the promise over every base -/
theorem walk_of {l : PySem.W.OpenLaw} {n k : Nat} {q : Program} {loose : List Str} {XP : (Str → Option Value) → Heap → Prop} {YP : World → Heap → Prop} {d : DefRec} {K : Params → PySem.W.Frag} {CX : World → CXT} {sp : World → Sp} {x : Str}
    (hn : l.most = some n) (hn2 : n ≤ sizeLine) (hdf : d.params.defaults = []) (hr : Room k callerA)
    (hY : ∀ (w : World) (h : Heap), YP w h → (K w.params).In h)
    (F : ∀ (w : World) (mg : Str → Option Value) (fa : Addr) (h : Heap), (K w.params).In h → h.Ns mainGlobals mg → mg d.name = some (.ref fa) →
      ∃ fd : FuncData, (∀ (s : Shared) (u : Value), BindsTo s fd ⟨[u], []⟩ [(x, u)]) ∧
        ∀ base : Heap, (K w.params).In base → base.Ns mainGlobals mg → FnOk l.prog w (K w.params) mg base (CX w) k fa fd [x] (sp w))
    (hsp : ∀ (w : World) (H : Hp) (a : Addr) (ns : List Int), ns.length ≤ n → Only H → SqL (K w.params) H a (ns.map V.int) → sp w [.ref a] H (fun v _ => v = .bl true) fun _ _ _ => False)
    (hCX : ∀ (w : World) (H : Hp) (s : Shared) (e : Value) (s' : Shared), CX w [] H s (fun _ _ _ => False) e s' → False) :
    PySem.W.WalkO q loose XP YP l.row.toRowW d [] (fun f vs => PySem.call f vs) := by
  refine Att.attach_call hn hdf fun w s₀ s₁ mg mb fa o pm cd doc a vs ns G Y ho hd hcd hmg hobj hints hlen hg => ?_
  have KX := hY w _ Y
  obtain ⟨fd, hb, hF⟩ := F w mg fa _ KX G.T.g hmg
  exact law_call KX G.T.g G.T.b G.T.builtins G.T.nolimit hg hobj hints (Nat.le_trans hlen hn2) hr hF hb (fun H hO hS => hsp w H a ns hlen hO hS) fun H e s' => hCX w H s₁ e s'
end L2

/- THE LAST THEOREM (shape; LID, My.* are yours):
   My.Adr: a structure of the addresses that your layer names (classes, functions); My.Txt K t: a structure (Prop) of the equations over K;
   My.txt_mk : {K} {implicit addresses ..} (e1 : nsIn K mainGlobals "law" = some (some (.ref f))) (e2 : K.lookup f = some ⟨oc, od, .func (fnOf "law" "law" params body scope dV kV doc pm an cdv ct), sl⟩) (e3 : codeIn K cdv "law" = true) .. : ∃ t, My.Txt K t

set_option maxRecDepth 100000 in
set_option maxHeartbeats 0 in
(the tactic k_is has no namespace: write k_is) -/

/-! SHORT WORDS over the layer: a def of the text, its body, what a loop and a test want. -/
namespace L2
open PySem PySem.Spec PyProof.Rows

/-! ### the text by places -/
def defArgs (s : Stmt) : Arguments := match s with
  | .FunctionDef _ a _ _ _ _ _ _ _ _ => a
  | _ => { posonlyargs := [], args := [], vararg := none, kwonlyargs := [], kw_defaults := [], kwarg := none, defaults := [] }
def defBody (s : Stmt) : List Stmt := match s with
  | .FunctionDef _ _ b _ _ _ _ _ _ _ => b
  | _ => []
def defScope (s : Stmt) : Scope := match s with
  | .FunctionDef _ _ _ _ _ _ sc _ _ _ => sc
  | _ => { kind := .function, names := [], isGenerator := false, isCoroutine := false }

/-! ### no exception leaves a def -/
abbrev CX0 : CXT := fun _ _ _ _ _ _ => False
abbrev E0 : XK := fun _ _ _ => False
theorem pass0 {X : Cx} : Passes CX0 X E0 := fun _ _ _ _ _ _ _ h => h.elim

/-! ### a def (or method) of the text as it stands behind the top -/
structure Fun (K : PySem.W.Frag) (x qual : Str) (st : Stmt) (f : Addr) (fd : FuncData) : Prop where
  ex : ∃ (oc : Value) (od : Option Addr) (kV doc pm : Value) (an : Option Addr) (cdv ct : Value) (osl : Array (Option Value)),
    fd = PySem.W.fnOf x qual (defArgs st) (defBody st) (defScope st) .none kV doc pm an cdv ct ∧ K.lookup f = some ⟨oc, od, .func fd, osl⟩ ∧ PySem.W.codeIn K cdv qual = true
  kp : PySem.W.keepIn K (.ref f) = true
section
variable {P : Program} {w : World} {K : PySem.W.Frag} {mg : Str → Option Value} {base : Heap}
/-- THE RULE for a def: its body as a term of rules, and the reading of that term -/
theorem Fun.ok {x qual : Str} {st : Stmt} {f : Addr} {fd : FuncData} {N ps : List Str} {k : Nat} {sp : Sp} (F : Fun K x qual st f fd) (S : FnScope N ps (defScope st)) (len : ∀ vs H Q E, sp vs H Q E → vs.length = ps.length)
    (hbody : ∀ (cdv : Value) (A : Around) (outer : List Env) (s : Shared) (H : Hp) (vs : List V) (Q : VK) (E : XK), Room k (A.deeper (envOfC qual (defScope st) s.heap.objs.size f cdv)) → sp vs H Q E →
      ∃ t, PSs (cxOf CX0 P w K mg base N qual (defScope st) f cdv A outer s H E).nox (defBody st) t ∧ t { nx := fun _ H' => Q .non H', rt := Q } (start N vs) H) : FnOk P w K mg base CX0 (k + 1) f fd ps sp := by
  obtain ⟨oc, od, kV, doc, pm, an, cdv, ct, osl, rfl, lk, hcd⟩ := F.ex
  refine fn_of lk hcd S len fun A outer s H vs Q E hr hsp => ?_
  obtain ⟨t, h, q⟩ := hbody cdv A outer s H vs Q E hr hsp
  exact ⟨t, h.nox, q⟩
/-- how its arguments bind (no defaults): h is «fun _ _ _ _ _ _ us hl => match us, hl with | [_, _], _ => rfl», one _ a parameter -/
theorem Fun.binds {x qual : Str} {st : Stmt} {f : Addr} {fd : FuncData} {ps : List Str} (F : Fun K x qual st f fd)
    (h : ∀ (kV doc pm : Value) (an : Option Addr) (cdv ct : Value) (us : List Value), us.length = ps.length → bindArgs (PySem.W.fnOf x qual (defArgs st) (defBody st) (defScope st) .none kV doc pm an cdv ct) ⟨us, []⟩ = pure (ps.zip us)) : Binds K fd ps [] := by
  obtain ⟨oc, od, kV, doc, pm, an, cdv, ct, osl, rfl, lk, hcd⟩ := F.ex
  exact .all (h kV doc pm an cdv ct)
theorem fun_mk {x qual : Str} {st : Stmt} {f : Addr} {oc : Value} {od an : Option Addr} {osl : Array (Option Value)} {kV doc pm cdv ct : Value} (l : K.lookup f = some ⟨oc, od, .func (PySem.W.fnOf x qual (defArgs st) (defBody st) (defScope st) .none kV doc pm an cdv ct), osl⟩)
    (c : PySem.W.codeIn K cdv qual = true) (k : PySem.W.keepIn K (.ref f) = true) : Fun K x qual st f (PySem.W.fnOf x qual (defArgs st) (defBody st) (defScope st) .none kV doc pm an cdv ct) := ⟨⟨oc, od, kV, doc, pm, an, cdv, ct, osl, rfl, l, c⟩, k⟩
end
theorem hu_of {A : Around} {k : Nat} (hr : Room k A) : A.units + 1 < cLine := Nat.lt_of_le_of_lt (Nat.add_le_add_left (by decide : 1 ≤ 64) _) hr.units
theorem small1000 {n : Nat} (h : n ≤ 1000) : n < sizeLine := Nat.lt_of_le_of_lt h (by decide)

/-! ### expressions in short: the name that stands in the i-th slot -/
section
variable {X : Cx}
theorem pv (i : Nat) {x : Str} {pos : Pos} (hN : X.N[i]? = some x := by rfl) (hv : Vis X.env.scope x := by first | exact Or.inl rfl | exact Or.inr (Or.inl rfl) | exact Or.inr (Or.inr rfl)) (hd : (x == ("__debug__" : Str)) = false := by decide)
    (hcd : (x == ("__classdict__" : Str)) = false := by decide) : PE X (.Name x pos) (tVar i) := pe_var hN hv hd hcd
end

/-! ### tests -/
theorem iteF {A B : Prop} (h : B) : if false = true then A else B := by
  rw [if_neg Bool.false_ne_true]
  exact h
theorem iteT {A B : Prop} (h : A) : if true = true then A else B := by
  rw [if_pos rfl]
  exact h
theorem iteNS {c A B : Prop} [Decidable c] (hc : c) (h : B) : if (!decide c) = true then A else B := by
  rw [decide_eq_true hc]
  exact iteF h

/-! ### heaps -/
/-- all that was tracked is as it was -/
def Same (H H' : Hp) : Prop := ∀ b o, H b = some o → H' b = some o
theorem Same.refl (H : Hp) : Same H H := fun _ _ h => h
theorem Same.trans {H H1 H2 : Hp} (a : Same H H1) (b : Same H1 H2) : Same H H2 := fun c o h => b c o (a c o h)
theorem Same.free {H H' : Hp} (e : Same H H') {l : Addr} (h : H' l = Option.none) : H l = Option.none := by
  cases q : H l with
  | none => rfl
  | some o =>
    rw [e l o q] at h
    cases h
theorem Same.seq {K : PySem.W.Frag} {H H' : Hp} {a : Addr} {xs : List V} (e : Same H H') (h : SqL K H a xs) : SqL K H' a xs := by
  rcases h with (h | ⟨o, h⟩) | h
  · exact .inl (.inl (e _ _ h))
  · exact .inl (.inr ⟨o, e _ _ h⟩)
  · exact .inr h

/-! ### a dict's pairs: keys that differ -/
section
variable {κ : Type} [DecidableEq κ]
theorem valV_not {kvs : List (κ × V)} {k : κ} (h : valV kvs k = none) : ¬ k ∈ kvs.map (·.1) := by
  intro m
  obtain ⟨p, hp, e⟩ := List.mem_map.mp m
  have q : (kvs.any fun kv => decide (kv.1 = k)) = true := List.any_eq_true.mpr ⟨p, hp, decide_eq_true e⟩
  rw [valV_any, h] at q
  exact absurd q (by simp)
theorem nd_snoc : ∀ {l : List κ} {k : κ}, l.Nodup → ¬ k ∈ l → (l ++ [k]).Nodup
  | [], k, _, _ => by simp
  | a :: r, k, h, hk => by
    obtain ⟨h1, h2⟩ := List.nodup_cons.mp h
    show (a :: (r ++ [k])).Nodup
    refine List.nodup_cons.mpr ⟨fun m => ?_, nd_snoc h2 fun m => hk (List.mem_cons.mpr (Or.inr m))⟩
    rcases List.mem_append.mp m with q | q
    · exact h1 q
    · exact hk (List.mem_cons.mpr (Or.inl (List.mem_singleton.mp q).symm))
theorem nd_putK {kvs : List (κ × V)} {k : κ} (v : V) (hn : (kvs.map (·.1)).Nodup) (h : valV kvs k = none) : ((putK kvs k v).map (·.1)).Nodup := by
  rw [putK_new v h, List.map_append]
  exact nd_snoc hn (valV_not h)
theorem dropK_pos {p : κ × V} {r : List (κ × V)} {k : κ} (e : p.1 = k) : dropK (p :: r) k = dropK r k := by
  unfold dropK
  rw [List.filter_cons, if_neg (by simp [e])]
theorem dropK_neg {p : κ × V} {r : List (κ × V)} {k : κ} (e : ¬ p.1 = k) : dropK (p :: r) k = p :: dropK r k := by
  unfold dropK
  rw [List.filter_cons, if_pos (by simp [e])]
theorem dropK_mem {kvs : List (κ × V)} {k : κ} {p : κ × V} (h : p ∈ dropK kvs k) : p ∈ kvs := (List.mem_filter.mp h).1
theorem nd_dropK : ∀ {kvs : List (κ × V)} {k : κ}, (kvs.map (·.1)).Nodup → ((dropK kvs k).map (·.1)).Nodup
  | [], _, _ => List.nodup_nil
  | p :: r, k, h => by
    have h : (p.1 :: r.map (·.1)).Nodup := h
    obtain ⟨h1, h2⟩ := List.nodup_cons.mp h
    by_cases e : p.1 = k
    · rw [dropK_pos e]
      exact nd_dropK h2
    · rw [dropK_neg e]
      show (p.1 :: (dropK r k).map (·.1)).Nodup
      refine List.nodup_cons.mpr ⟨fun m => h1 ?_, nd_dropK h2⟩
      obtain ⟨q, hq, eq⟩ := List.mem_map.mp m
      exact List.mem_map.mpr ⟨q, dropK_mem hq, eq⟩
end
end L2


section
set_option maxHeartbeats 4000000
namespace L2
open PySem PySem.Spec PyProof.Rows

theorem closure_go (env : Env) : ∀ (names : List (Str × NameKind)) (cs : List (Str × Addr)), (∀ x ∈ names, x.2 = .free → ∃ c, env.cells.lookup x.1 = some c) → (∀ x c, cs.lookup x = some c → env.cells.lookup x = some c) →
    ∃ cl, (forIn names cs fun (x : Str × NameKind) (r : List (Str × Addr)) => match x with
      | (name, kind) => if (kind == NameKind.free) = true then (do let c ← cellOf env name; pure (ForInStep.yield ((name, c) :: r))) else (pure (ForInStep.yield r) : Sem (ForInStep (List (Str × Addr))))) = (pure cl : Sem (List (Str × Addr))) ∧
      (∀ x c, cl.lookup x = some c → env.cells.lookup x = some c) ∧ (∀ x, ((∃ c, cs.lookup x = some c) ∨ (x, NameKind.free) ∈ names) → ∃ c, cl.lookup x = some c) := by
  intro names
  induction names with
  | nil => intro cs _ h; exact ⟨cs, by simp, h, fun x hx => hx.elim id (fun z => nomatch z)⟩
  | cons p r ih =>
    intro cs hf h
    obtain ⟨name, kind⟩ := p
    by_cases hk : kind = .free
    · subst hk
      obtain ⟨c, hc⟩ := hf _ List.mem_cons_self rfl
      have hc' : env.cells.lookup name = some c := hc
      have e : cellOf env name = pure c := by unfold cellOf; rw [hc']
      obtain ⟨cl, h1, h2, h3⟩ := ih ((name, c) :: cs) (fun x hx => hf x (List.mem_cons_of_mem _ hx)) (fun x c' hx => by
        rw [List.lookup_cons] at hx
        split at hx
        · rename_i hb
          have : x = name := by simpa using hb
          subst this
          cases hx; exact hc'
        · exact h x c' hx)
      refine ⟨cl, ?_, h2, fun x hx => h3 x ?_⟩
      · rw [List.forIn_cons]
        simp only [beq_self_eq_true, if_true, e, pure_bind]
        exact h1
      · rcases hx with ⟨c', hx⟩ | hx
        · by_cases q : x = name
          · subst q; exact .inl ⟨c, by simp⟩
          · exact .inl ⟨c', by rw [List.lookup_cons, show (x == name) = false from beq_eq_false_iff_ne.mpr q]; exact hx⟩
        · rcases List.mem_cons.mp hx with z | z
          · cases z; exact .inl ⟨c, by simp⟩
          · exact .inr z
    · obtain ⟨cl, h1, h2, h3⟩ := ih cs (fun x hx => hf x (List.mem_cons_of_mem _ hx)) h
      refine ⟨cl, ?_, h2, fun x hx => h3 x ?_⟩
      · rw [List.forIn_cons]
        have hb : (kind == NameKind.free) = false := by simpa using hk
        simp only [hb, Bool.false_eq_true, if_false, pure_bind]
        exact h1
      · rcases hx with hx | hx
        · exact .inl hx
        · rcases List.mem_cons.mp hx with z | z
          · cases z; exact absurd rfl hk
          · exact .inr z
theorem closure_has (scope : Scope) (env : Env) (hf : ∀ x ∈ scope.names, x.2 = .free → ∃ c, env.cells.lookup x.1 = some c) :
    ∃ cl, closureFor scope env = pure cl ∧ (∀ x c, cl.lookup x = some c → env.cells.lookup x = some c) ∧ (∀ x, (x, NameKind.free) ∈ scope.names → ∃ c, cl.lookup x = some c) := by
  obtain ⟨cl, h1, h2, h3⟩ := closure_go env scope.names [] hf (fun x c h => by simp at h)
  refine ⟨cl, ?_, h2, fun x hx => h3 x (.inr hx)⟩
  unfold closureFor
  have e : ∀ (t : Sem (List (Str × Addr))), t = pure cl → (t >>= fun cs => pure cs) = pure cl := fun t ht => by rw [ht, pure_bind]
  exact e _ h1


theorem compLoop_any {prog : Program} {w : World} {A : Around} {R : Result → Shared → Prop} {s : Shared} {elt target iter : Expr} {ifs : List Expr} {scope : Scope} {pos : Pos} {it acc : Value} {env : Env} (I : Nat → Shared → Prop)
    (turn : ∀ n s, I n s → wpAny (model prog w) A (pyNext it) (fun r s₁ => match r with
      | none => R (.ok .next) s₁
      | some v => wpAny (model prog w) A (letOwnedTupleGo target it v) (fun _ s₁' => wpAny (model prog w) A (assign target env v) (fun _ s₂ =>
          wpAny (model prog w) A (forIn ifs true fun c r => if r = true then do let ok ← isTrue c env (eval c env); pure (ForInStep.yield ok) else pure (ForInStep.yield r)) (fun ok s₃ =>
            if ok = true then wpAny (model prog w) A (eval elt env) (fun x s₄ =>
              wpAny (model prog w) A (call (.builtin "list.append") [acc, x]) (fun _ s₅ => ∃ m, m < n ∧ I m s₅) (fun _ _ => False) s₄) (fun _ _ => False) s₃
            else ∃ m, m < n ∧ I m s₃) (fun _ _ => False) s₂) (fun _ _ => False) s₁') (fun _ _ => False) s₁) (fun _ _ => False) s)
    (n : Nat) (h : I n s) :
    codeAny (model prog w) A (.compLoop (.ListComp elt [⟨target, iter, ifs, 0⟩] scope pos) 0 it acc env) R s := by
  refine codeAny_loop rfl I (fun n s hI => ?_) n h
  show wpAny _ A ((compTurn (.ListComp elt [⟨target, iter, ifs, 0⟩] scope pos) 0 it acc env).onRaise (fun x => do noteFrame x env; theTreesLotGoes x)) _ _ s
  refine wpAny_noted ?_
  rw [compTurn_list]
  refine wpAny_bind (wpAny_standAt (wpAny_bind (wpAny_mono (turn n s hI) (fun r s₁ h₁ => ?_) fun _ _ h' => h'.elim)))
  cases r with
  | none => exact wpAny_pure h₁
  | some v =>
    refine wpAny_bind (wpAny_mono h₁ (fun _ s₁' h₁' => ?_) fun _ _ h' => h'.elim)
    refine wpAny_bind (wpAny_mono h₁' (fun _ s₂ h₂ => wpAny_bind (wpAny_mono h₂ (fun ok s₃ h₃ => ?_) fun _ _ h' => h'.elim)) fun _ _ h' => h'.elim)
    cases ok with
    | false => exact wpAny_pure ⟨rfl, h₃⟩
    | true =>
      exact wpAny_bind (wpAny_bind (wpAny_mono h₃ (fun x s₄ h₄ => wpAny_bind (wpAny_mono h₄ (fun _ s₅ h₅ => wpAny_pure (wpAny_pure ⟨rfl, h₅⟩)) fun _ _ h' => h'.elim)) fun _ _ h' => h'.elim))

/-- the context of a comprehension's block: the names of the def keep their slots, the block's own stand behind them -/
def cxComp (X : Cx) (scope : Scope) (own : List Str) (cl : List (Str × Addr)) (C : Addr) (s : Shared) (H : Hp) (fp : List Addr) : Cx :=
  { X with N := X.N ++ own, s₀ := s, H₀ := H, env := compEnvC scope cl C X.env, outer := X.stack, ex := fp, fn := fun _ => false, pn := [], xe := fun _ _ => False }

/-- the tests of a clause -/
def PTs (X : Cx) (ifs : List Expr) (t : TT) : Prop :=
  ∀ (pins : List (Addr × Obj)) (s : Shared) (σ : St) (H : Hp) (Q : Bool → Hp → Prop), Inv X pins σ H s → t σ H Q →
    wpAny (model X.prog X.w) X.A (forIn ifs true fun c r => if r = true then do let ok ← isTrue c X.env (eval c X.env); pure (ForInStep.yield ok) else pure (ForInStep.yield r)) (TP X pins σ Q) X.xe s
def tYes : TT := fun _ H Q => Q true H
theorem pts_nil {X : Cx} : PTs X [] tYes := fun _ _ _ H _ I h => wpAny_tests_nil ⟨H, I, h⟩
theorem pts_one {X : Cx} {c : Expr} {t : TT} (h : PT X c t) : PTs X [c] t := fun pins s σ H Q I q => wpAny_tests_one (h pins s σ H Q I q)

/-- what a comprehension's scope must be -/
structure LcScope (X : Cx) (scope : Scope) (own : List Str) : Prop where
  kind : scope.kind = .function
  cell : ∀ y ∈ scope.names, y.2 ≠ .cell
  names : ∀ y ∈ scope.names, y.2 = .local → scope.names.lookup y.1 = some .local
  free : ∀ y ∈ scope.names, y.2 = .free → X.env.kindOf y.1 = some .cell ∨ X.env.kindOf y.1 = some .free
  loc : ∀ y ∈ scope.names, y.2 = .local → y.1 ∉ X.N

theorem vis_relabel {scope : Scope} {env : Env} {x : Str} : ∀ {names : List (Str × NameKind)}, (∀ y ∈ names, y.2 ≠ NameKind.cell) →
    ∀ k, (names.map fun (n, k) => if (k == NameKind.free && env.scope.kind == .function && env.kindOf n == some .cell) then (n, NameKind.cell) else (n, k)).lookup x = some k →
      (k = .cell → (x, NameKind.free) ∈ names) ∧ (k = .free → (x, NameKind.free) ∈ names) ∧ (k = .local → (x, NameKind.local) ∈ names)
  | [], _, k, h => by simp at h
  | (n, k0) :: r, hc, k, h => by
    have ih := vis_relabel (scope := scope) (env := env) (x := x) (names := r) (fun y hy => hc y (List.mem_cons_of_mem _ hy))
    have h : List.lookup x ((if (k0 == NameKind.free && env.scope.kind == .function && env.kindOf n == some .cell) = true then (n, NameKind.cell) else (n, k0)) :: _) = some k := h
    cases hx : x == n with
    | true =>
      have e : x = n := by simpa using hx
      subst e
      by_cases hb : (k0 == NameKind.free && env.scope.kind == .function && env.kindOf x == some .cell) = true
      · have e0 : k0 = NameKind.free := by
          simp only [Bool.and_eq_true] at hb
          simpa using hb.1.1
        rw [if_pos hb] at h
        simp only [List.lookup_cons, hx] at h
        have ek : NameKind.cell = k := Option.some.inj h
        clear h
        subst ek
        rw [e0]
        exact ⟨fun _ => List.mem_cons_self, fun z => (nomatch z), fun z => (nomatch z)⟩
      · rw [if_neg hb] at h
        simp only [List.lookup_cons, hx] at h
        cases h
        exact ⟨fun z => absurd z (hc _ List.mem_cons_self), fun z => by subst z; exact List.mem_cons_self, fun z => by subst z; exact List.mem_cons_self⟩
    | false =>
      have h' : List.lookup x (r.map fun (n, k) => if (k == NameKind.free && env.scope.kind == .function && env.kindOf n == some .cell) then (n, NameKind.cell) else (n, k)) = some k := by
        by_cases hb : (k0 == NameKind.free && env.scope.kind == .function && env.kindOf n == some .cell) = true
        · rw [if_pos hb] at h
          simp only [List.lookup_cons, hx] at h
          exact h
        · rw [if_neg hb] at h
          simp only [List.lookup_cons, hx] at h
          exact h
      obtain ⟨a, b, c⟩ := ih k h'
      exact ⟨fun z => List.mem_cons_of_mem _ (a z), fun z => List.mem_cons_of_mem _ (b z), fun z => List.mem_cons_of_mem _ (c z)⟩

def lcOk (scope : Scope) (en : List (Str × NameKind)) (N : List Str) : Bool :=
  (match scope.kind with | .function => true | _ => false) && scope.names.all fun y => match y.2 with
    | .cell => false
    | .local => (match scope.names.lookup y.1 with | some .local => true | _ => false) && !N.contains y.1
    | .free => (match en.lookup y.1 with | some .cell => true | some .free => true | _ => false)
    | _ => true
theorem LcScope.of {X : Cx} {scope : Scope} {own : List Str} (h : lcOk scope X.env.scope.names X.N = true) : LcScope X scope own := by
  unfold lcOk at h
  obtain ⟨h1, h2⟩ := (Bool.and_eq_true _ _).mp h
  have h2 := List.all_eq_true.mp h2
  refine ⟨?_, fun y hy e => ?_, fun y hy e => ?_, fun y hy e => ?_, fun y hy e => ?_⟩
  · revert h1; cases scope.kind <;> simp
  · have := h2 y hy
    simp [e] at this
  · have := h2 y hy
    simp only [e, Bool.and_eq_true] at this
    have z := this.1
    revert z
    cases q : scope.names.lookup y.1 with
    | none => simp
    | some k => cases k <;> simp
  · have := h2 y hy
    simp only [e] at this
    show X.env.scope.names.lookup y.1 = some .cell ∨ X.env.scope.names.lookup y.1 = some .free
    revert this
    cases q : X.env.scope.names.lookup y.1 with
    | none => simp
    | some k => cases k <;> simp
  · have := h2 y hy
    simp only [e, Bool.and_eq_true] at this
    simpa using this.2

section
variable {X : Cx} {pins : List (Addr × Obj)} {σ : St} {H : Hp} {s : Shared}
/-- the block's start -/
theorem comp_start {scope : Scope} {own : List Str} {cl : List (Str × Addr)} {C : Addr} {fp : List Addr} {h1 : Heap} {tk : Nat} {m : Str → Option Value} (S : LcScope X scope own)
    (c1 : ∀ x c, cl.lookup x = some c → X.env.cells.lookup x = some c) (c2 : ∀ x, (x, NameKind.free) ∈ scope.names → ∃ c, cl.lookup x = some c)
    (I : Inv X pins σ H s) (hf : ∀ b ∈ fp, FpOk X pins H b) (ho : ∀ b ∈ fp, ∃ o, s.heap.get? b = some o) (hC : C = s.heap.objs.size) (hn : h1.Ns C m) (k : ∀ b o, s.heap.get? b = some o → h1.get? b = some o) :
    Inv (cxComp X scope own cl C s H fp) [] (σ ++ List.replicate own.length none) H { s with heap := h1, toks := tk } := by
  subst hC
  have e0 := I.env0
  refine ⟨⟨e0.mod, S.kind, I.ok.glob, I.ok.blt, Nat.le_refl _, fun x y c h1 h2 => I.ok.inj x y c (c1 x c h1) (c1 y c h2), fun x hx => ?_, fun x c h _ => absurd h Bool.false_ne_true, I.ok.hd, I.ok.frames, .inl rfl, fun b hb => ⟨?_, fun x c h z => ?_⟩, e0.bs, e0.bsz, fun b o e hb => ?_, fun b hb z => ?_, e0.funs, e0.frf⟩,
    rfl, I.bare, Un.kept k, ⟨m, hn, fun i x v e1 e2 e3 => ?_⟩, fun x c h => ?_, I.hok.fresh (Nat.le_refl _), fun x c h => I.freeC x c (c1 x c h), fun p hp => absurd (show p ∈ ([] : List (Addr × Obj)) from hp) (by simp), I.hok.kept k, ?_⟩
  · have hx : (relabel scope X.env).names.lookup x = some .cell ∨ (relabel scope X.env).names.lookup x = some .free := hx
    rcases hx with hx | hx
    · exact c2 x ((vis_relabel (scope := scope) S.cell _ hx).1 rfl)
    · exact c2 x ((vis_relabel (scope := scope) S.cell _ hx).2.1 rfl)
  · obtain ⟨o, e⟩ := ho b hb
    exact Nat.ne_of_lt (Heap.lt_size e)
  · exact (hf b hb).2.2.2.2.1 x c (c1 x c h) z
  · obtain ⟨_, _, _, f3, _⟩ := hf b hb
    rcases f3 with z | z
    · exact I.ok.noex b o e z
    · exact absurd (Nat.lt_of_lt_of_le (Heap.lt_size (I.ok.bs b o e).1) z) (Nat.lt_irrefl _)
  · obtain ⟨_, f1, f2, _⟩ := hf b hb
    rcases List.mem_cons.mp (I.stkSub b z) with q | q
    · exact f1 q
    · exact f2 q
  · have hi : i < σ.length := by
      by_cases hi : i < σ.length
      · exact hi
      · rw [List.getElem?_append_right (by omega), List.getElem?_replicate] at e2
        split at e2 <;> cases e2
    rw [List.getElem?_append_left hi] at e2
    have e1 : X.N[i]? = some x := by
      have hl : i < X.N.length := by rw [← I.len]; exact hi
      rw [← e1]
      show X.N[i]? = (X.N ++ own)[i]?
      rw [List.getElem?_append_left hl]
    have e3 : (relabel scope X.env).names.lookup x = some .local ∨ (relabel scope X.env).names.lookup x = some .cell ∨ (relabel scope X.env).names.lookup x = some .free := e3
    have fr : (x, NameKind.free) ∈ scope.names := by
      rcases e3 with z | z | z
      · exact absurd (List.mem_of_getElem? e1) (S.loc _ ((vis_relabel (scope := scope) S.cell _ z).2.2 rfl) rfl)
      · exact (vis_relabel (scope := scope) S.cell _ z).1 rfl
      · exact (vis_relabel (scope := scope) S.cell _ z).2.1 rfl
    have kk := S.free _ fr rfl
    have vs : Vis X.env.scope x := by
      rcases kk with z | z
      · exact .inr (.inl z)
      · exact .inr (.inr z)
    obtain ⟨m0, hn0, hl0⟩ := I.loc
    obtain ⟨u, r, l⟩ := hl0 i x v e1 e2 vs
    refine ⟨u, r, ?_⟩
    have k2 : X.env.kindOf x = some .cell ∨ X.env.kindOf x = some .free := kk
    rcases l with ⟨l, _⟩ | ⟨_, c, hc, hce⟩
    · rcases k2 with z | z
      · rw [z] at l; cases l
      · rw [z] at l; cases l
    · obtain ⟨c', hc'⟩ := c2 x fr
      have : c' = c := Option.some.inj ((c1 x c' hc').symm.trans hc)
      subst this
      refine .inr ⟨?_, c', hc', ?_⟩
      · rcases e3 with z | z | z
        · exact absurd (List.mem_of_getElem? e1) (S.loc _ ((vis_relabel (scope := scope) S.cell _ z).2.2 rfl) rfl)
        · exact .inl z
        · exact .inr z
      · obtain ⟨o, ho', hd⟩ := hce
        exact ⟨o, k _ _ ho', hd⟩
  · obtain ⟨v, o, ho', hd⟩ := I.cell x c (c1 x c h)
    exact ⟨v, o, k _ _ ho', hd⟩
  · show (σ ++ List.replicate own.length none).length = (X.N ++ own).length
    rw [List.length_append, List.length_append, List.length_replicate, I.len]

/-- the loop of a comprehension -/
def LcW (J : It) (D : Addr) (n : Nat) (g : TG) (tc : TT) (te : TE) (σ : St) (Qd : Addr → Hp → Prop) (H1 : Hp) : Prop :=
  ∃ W : Nat → Nat → Hp → Prop, (∃ m, W 0 m (upd H1 D (.lst []))) ∧
    ∀ i m H, W i m H → (J.stop i H ∧ Qd D H) ∨ (J.go i H ∧ ∃ N : Hp → Prop, (∀ H', N H' → ∃ m', m' < m ∧ W (i + 1) m' H') ∧ ∀ x H', J.yld i H x H' → g x (σ ++ List.replicate n none) H' fun σ2 H2 => (∀ (j : Nat) v, (σ ++ List.replicate n none)[j]? = some (some v) → σ2[j]? = some (some v)) ∧ tc σ2 H2 fun b H3 =>
      if b = true then te σ2 H3 fun y H4 => ∃ ys, H4 D = some (.lst ys) ∧ ys.length < sizeLine ∧ N (upd H4 D (.lst (ys ++ [y]))) else N H3)
/-- the reading of a list comprehension of one clause; n: how many names of its own it has -/
def tLcR (n : Nat) (wi : TI) (g : TG) (tc : TT) (te : TE) (σ : St) (H : Hp) (Qd : Addr → Hp → Prop) : Prop := wi σ H fun J H1 => ∀ D, H1 D = none → LcW J D n g tc te σ Qd H1

theorem comp_run {elt iter tg : Expr} {ifs : List Expr} {scope : Scope} {pos cpos : Pos} {own : List Str} {wi : TI} {g : TG} {tc : TT} {te : TE} {use : Option (Value → Sem Unit)} {Q : Value → Shared → Prop} {Qd : Addr → Hp → Prop}
    (hc : X.calm = true) (S : LcScope X scope own) (hi : PI X tg iter wi)
    (hb : ∀ cl C s H fp, PG (cxComp X scope own cl C s H fp) tg g ∧ PTs (cxComp X scope own cl C s H fp) ifs tc ∧ PE (cxComp X scope own cl C s H fp) elt te)
    (hs : ∀ x, foldedSetIterable iter X.env x = pure x)
    (I : Inv X pins σ H s) (h : tLcR own.length wi g tc te σ H Qd)
    (hpost : ∀ D C H' s' m, Inv X pins σ H' s' → FpOk X pins H' C → s'.heap.Ns C m → Qd D H' → compPost (model X.prog X.w) X.A X.xe use Q (.ref D) C (.ok .next) s') :
    wpAny (model X.prog X.w) X.A (comprehension (.ListComp elt [⟨tg, iter, ifs, 0⟩] scope pos) scope X.env cpos (newList []) false (eval iter X.env) use) Q X.xe s := by
  have hf : ∀ x ∈ scope.names, x.2 = .free → ∃ c, X.env.cells.lookup x.1 = some c := fun x hx e => I.ok.has x.1 (S.free x hx e)
  obtain ⟨cl, hcl, c1, c2⟩ := closure_has scope X.env hf
  refine wpAny_comprehension_free (g := ⟨tg, iter, ifs, 0⟩) rfl hs hcl S.kind S.names (thn (hi pins s σ H _ I h) fun v s1 h1 => thn h1 fun itv s2 h2 => ?_)
  obtain ⟨it, fp, tn, J, H2, rfl, I2, T, st2, f2, q2⟩ := h2
  refine wpAny_newObj_type (hd := by size_fits) (wpAny_newFunctionEnv S.cell (by intro y hy; simp at hy) (fun h₁ hns₁ hsb₁ => ?_) S.kind)
  dsimp only at hns₁ hsb₁ ⊢
  have hD := I2.fresh
  obtain ⟨W, ⟨m0, w0⟩, turn⟩ := q2 _ hD
  have I3 : Inv X pins σ (upd H2 s2.heap.objs.size (.lst [])) { s2 with heap := s2.heap.push { cls := .type "list", data := .seq ([] : List Value).toArray }, toks := s2.toks } := I2.lnew .nil (Nat.zero_le _)
  generalize hs3 : ({ s2 with heap := s2.heap.push { cls := .type "list", data := .seq ([] : List Value).toArray }, toks := s2.toks } : Shared) = s3 at I3
  have e3 : s3.heap = s2.heap.push { cls := .type "list", data := .seq ([] : List Value).toArray } := by rw [← hs3]
  have k3 : ∀ b o, s2.heap.get? b = some o → s3.heap.get? b = some o := fun b o e => by rw [e3]; exact Heap.get?_push_of_some _ e
  have hC : (s2.heap.push { cls := .type "list", data := .seq ([] : List Value).toArray }).objs.size = s3.heap.objs.size := by rw [e3]
  have k4 : ∀ b o, s3.heap.get? b = some o → h₁.get? b = some o := fun b o e => by
    have hb : b ≠ s3.heap.objs.size := Nat.ne_of_lt (Heap.lt_size e)
    refine (hsb₁.2 b (by rw [hC]; exact hb)).trans ?_
    rw [e3] at e
    exact Heap.get?_push_of_some _ e
  have nD : ∀ b ∈ fp, b ≠ s2.heap.objs.size := fun b hb => by
    obtain ⟨o, e, _⟩ := T.obj _ _ st2 b hb
    exact Nat.ne_of_lt (Heap.lt_size e)
  have f3 : ∀ b ∈ fp, FpOk X pins (upd H2 s2.heap.objs.size (.lst [])) b := fun b hb => by
    obtain ⟨g0, g1⟩ := f2 b hb
    exact ⟨by rw [upd_ne (nD b hb)]; exact g0, g1⟩
  have o3 : ∀ b ∈ fp, ∃ o, s3.heap.get? b = some o := fun b hb => by
    obtain ⟨o, e, _⟩ := T.obj _ _ st2 b hb
    exact ⟨o, k3 b o e⟩
  have hgen : s3.gens = s2.gens ∧ s3.os = s2.os ∧ s3.drawn = s2.drawn ∧ s3.toks = s2.toks := by rw [← hs3]; exact ⟨rfl, rfl, rfl, rfl⟩
  have I4 := comp_start (tk := s2.toks) (h1 := h₁) S c1 c2 I3 f3 o3 hC hns₁ k4
  generalize hCC : (s2.heap.push { cls := .type "list", data := .seq ([] : List Value).toArray }).objs.size = C at *
  have e4 : ({ s3 with heap := h₁, toks := s2.toks } : Shared) = { s2 with heap := h₁, toks := s2.toks } := by rw [← hs3]
  rw [e4] at I4
  have st4 : tn 0 h₁ := T.keep _ _ _ st2 fun b hb o e => k4 b o (k3 b o e)
  obtain ⟨bG, bT, bE⟩ := hb cl C s3 (upd H2 s2.heap.objs.size (.lst [])) fp
  generalize hX : cxComp X scope own cl C s3 (upd H2 s2.heap.objs.size (.lst [])) fp = X' at *
  have xP : X'.prog = X.prog := by rw [← hX]; rfl
  have xw : X'.w = X.w := by rw [← hX]; rfl
  have xK : X'.K = X.K := by rw [← hX]; rfl
  have xA : X'.A = X.A := by rw [← hX]; rfl
  have xc : X'.calm = true := by rw [← hX]; exact hc
  have xE : X'.env = compEnvC scope cl C X.env := by rw [← hX]; rfl
  have xx : X'.xe = fun _ _ => False := by rw [← hX]; rfl
  have xpn : X'.pn = [] := by rw [← hX]; rfl
  have hCs : C = s3.heap.objs.size := hC
  -- the iterator's objects through the loop
  have stat : ∀ {H' : Hp}, (∀ b ∈ fp, H' b = none) → ∀ b ∈ fp, FpOk X' [] H' b := fun {H'} hn b hb => by
    have z := (I4.ok.exf b (by rw [← hX]; exact hb))
    refine ⟨hn b hb, z.1, I4.ok.exfs b (by rw [← hX]; exact hb), .inl (by rw [← hX]; exact hb), z.2, fun p hp => ?_⟩
    rw [xpn] at hp
    exact absurd hp (by simp)
  -- behind the block
  have fin : ∀ {H' : Hp} {s' : Shared} {σ' : St}, Inv X' [] σ' H' s' → Qd s2.heap.objs.size H' → compPost (model X.prog X.w) X.A X.xe use Q (.ref s2.heap.objs.size) C (.ok .next) s' := fun {H' s' σ'} I' q => by
    have un : Un (frs X.stack) fp (upd H2 s2.heap.objs.size (.lst [])) H' s3.heap s'.heap := by
      have z := I'.base
      rw [← hX] at z
      exact z
    have os : s'.os = s3.os := by
      have z := I'.os
      rw [← hX] at z
      exact z
    have hok : HOk X.prog X.w H' s'.heap := by rw [← xP, ← xw]; exact I'.hok
    obtain ⟨hh, gg, dd, tt, oo⟩ := s'
    obtain rfl : oo = s3.os := os
    have IX : Inv X pins σ H' { s3 with heap := hh, gens := gg, drawn := dd, toks := tt } := I3.call (ch := fp) un hok I'.bare fun b hb => by
      obtain ⟨g0, g1, g2, g3, g4, g5⟩ := f3 b hb
      exact ⟨g3, g1, g4, g5⟩
    obtain ⟨m, hn, _⟩ := I'.loc
    have hn : hh.Ns C m := by rw [xE] at hn; exact hn
    have hfr : H' C = none := by have z := I'.free; rw [xE] at z; exact z
    refine hpost _ C H' _ m IX ?_ hn q
    refine ⟨hfr, ?_, ?_, .inr ?_, fun x c hx z => ?_, fun p hp z => ?_⟩
    · rw [hCs]; exact Nat.ne_of_gt I3.lt
    · rw [hCs]; exact I3.nofs (Nat.le_refl _)
    · rw [hCs]; exact I3.sz
    · obtain ⟨v, o, ho, _⟩ := I3.cell x c hx
      exact absurd (Heap.lt_size ho) (by rw [z, hCs]; exact Nat.lt_irrefl _)
    · exact absurd (Heap.lt_size (I3.pin p hp).1) (by rw [z, hCs]; exact Nat.lt_irrefl _)
  have loop : ∀ s₃ : Shared, s₃ = { s2 with heap := h₁, toks := s2.toks } →
      codeAny (model X.prog X.w) X.A (.compLoop (.ListComp elt [⟨tg, iter, ifs, 0⟩] scope pos) 0 (.ref it) (.ref s2.heap.objs.size) (compEnvC scope cl C X.env)) (compPost (model X.prog X.w) X.A X.xe use Q (.ref s2.heap.objs.size) C) s₃ := by
    rintro s₃ rfl
    rw [← xP, ← xw, ← xA, ← xE]
    refine compLoop_any (fun n s' => ∃ i H', Inv X' [] (σ ++ List.replicate own.length none) H' s' ∧ tn i s'.heap ∧ (∀ b ∈ fp, H' b = none) ∧ W i n H') ?_ m0 ⟨0, _, I4, st4, fun b hb => (f3 b hb).1, w0⟩
    rintro n s5 ⟨i, H5, I5, st5, fr5, w5⟩
    rcases turn i n H5 w5 with ⟨stop, qn⟩ | ⟨go, N, hN, step⟩
    · have zd := T.done X' xP xw xK xc i [] s5 _ H5 (fun _ _ => False) I5 (stat fr5) st5 stop
      rw [← xP, ← xw] at zd
      refine thn zd fun r s6 ⟨hr, I6⟩ => ?_
      subst hr
      have z := fin I6 qn
      rw [← xP, ← xw, ← xA] at z
      exact z
    · have zi := T.item X' xP xw xK xc i [] s5 _ H5 (fun _ _ => False) I5 (stat fr5) st5 go
      rw [← xP, ← xw] at zi
      refine thn zi fun r s6 ⟨u, hr, h6⟩ => ?_
      subst hr
      refine thn h6 fun _ s7 ⟨x, H7, I7, r7, y7, st7, fr7⟩ => ?_
      have I7' := I7.pinned (stat fr7) (T.obj _ _ st7)
      have bG' := bG _ s7 _ H7 x u _ I7' r7 (step x H7 y7)
      rw [xx] at bG'
      refine thn bG' fun _ s8 ⟨σ8, H8, I8, w8, q8⟩ => ?_
      have bT' := bT _ s8 σ8 H8 _ I8 q8
      rw [xx] at bT'
      refine thn bT' fun b s9 ⟨H9, I9, q9⟩ => ?_
      have again : ∀ {H10 : Hp} {s10 : Shared}, Inv X' ([] ++ pinsAt fp s7.heap) σ8 H10 s10 → N H10 → ∃ m, m < n ∧ ∃ i H', Inv X' [] (σ ++ List.replicate own.length none) H' s10 ∧ tn i s10.heap ∧ (∀ b ∈ fp, H' b = none) ∧ W i m H' := fun {H10 s10} I10 n10 => by
        obtain ⟨m', hm, w10⟩ := hN H10 n10
        refine ⟨m', hm, i + 1, H10, ?_, T.keep _ _ _ st7 fun b hb o e => (I10.pin (b, o) (List.mem_append_right _ (List.mem_append_right _ (mem_pinsAt hb e)))).1, fun b hb => ?_, w10⟩
        · exact I10.unpinned.weak (by rw [I5.len, I10.len]) w8
        · obtain ⟨o, e, d⟩ := T.obj _ _ st7 b hb
          exact (I10.pin (b, o) (List.mem_append_right _ (List.mem_append_right _ (mem_pinsAt hb e)))).2.1
      cases b with
      | false =>
        rw [if_neg Bool.false_ne_true] at q9 ⊢
        exact again I9 q9
      | true =>
        rw [if_pos rfl] at q9 ⊢
        have bE' := bE _ s9 σ8 H9 _ I9 q9
        rw [xx] at bE'
        refine thn bE' fun y s10 ⟨vy, H10, I10, r10, ys, hy1, hy2, hy3⟩ => ?_
        have ap := mt_append (X := X') _ s10 σ8 H10 (.ref s2.heap.objs.size) [vy] (.ref s2.heap.objs.size) [y] (fun _ H' => N H') I10 rfl (.cons r10 .nil) ⟨_, ys, vy, rfl, rfl, hy1, hy2, hy3⟩
        rw [xx] at ap
        exact thn ap fun _ s11 ⟨_, H11, I11, _, n11⟩ => again I11 n11
  exact codeAny_compStart_list (loop _ rfl) (wpAny_mono (T.self X.A 0 _ (fun v s' => v = .ref it ∧ s' = { s2 with heap := h₁, toks := s2.toks }) _ st4 ⟨rfl, rfl⟩) (fun v s' ⟨e1, e2⟩ => by subst e1; exact loop _ e2) fun _ _ z => z)
end
end L2

end

section
set_option maxHeartbeats 4000000
namespace L2
open PySem PySem.Spec PyProof.Rows

/-! ### a list comprehension as a value, as what a name is set to -/
section
variable {X : Cx} {elt iter tg : Expr} {ifs : List Expr} {scope : Scope} {pos : Pos} {own : List Str} {wi : TI} {g : TG} {tc : TT} {te : TE}
def tLc (n : Nat) (wi : TI) (g : TG) (tc : TT) (te : TE) : TE := fun σ H Q => tLcR n wi g tc te σ H fun D H' => Q (.ref D) H'
theorem pe_lc (hc : X.calm = true) (S : LcScope X scope own) (hi : PI X tg iter wi)
    (hb : ∀ cl C s H fp, PG (cxComp X scope own cl C s H fp) tg g ∧ PTs (cxComp X scope own cl C s H fp) ifs tc ∧ PE (cxComp X scope own cl C s H fp) elt te)
    (hs : ∀ x, foldedSetIterable iter X.env x = pure x := by intro _; rfl) : PE X (.ListComp elt [⟨tg, iter, ifs, 0⟩] scope pos) (tLc own.length wi g tc te) := by
  intro pins s σ H Q I h
  rw [eval_ListComp]
  refine comp_run (use := none) hc S hi hb hs I h fun D C H' s' m I' f hn q => ?_
  refine ⟨m, hn, fun h' sb => ⟨.ref D, H', ?_, rfl, q⟩⟩
  obtain ⟨f0, f1, f2, f3, f4, f5⟩ := f
  exact I'.turned (t' := s'.toks) (fun b o hb e => (sb.2 b hb).trans e) f0 f1 f3 f4 f5
/-- x = [.. for ..]: the name is stored ahead of the block's names being let go -/
def sLc (n i : Nat) (wi : TI) (g : TG) (tc : TT) (te : TE) : TS := fun D σ H => tLcR n wi g tc te σ H fun d H' => D.nx (σ.set i (some (.ref d))) H'
theorem ps_setLc {i : Nat} {x : Str} {px spos : Pos} (hc : X.calm = true) (S : LcScope X scope own) (hi : PI X tg iter wi)
    (hb : ∀ cl C s H fp, PG (cxComp X scope own cl C s H fp) tg g ∧ PTs (cxComp X scope own cl C s H fp) ifs tc ∧ PE (cxComp X scope own cl C s H fp) elt te)
    (hN : X.N.Nodup) (hx : X.N[i]? = some x) (hl : Loc X.env.scope x)
    (hsw : swapsWith (.ListComp elt [⟨tg, iter, ifs, 0⟩] scope pos) (some (.Name x px)) spos.line X.env = pure true)
    (hs : ∀ x, foldedSetIterable iter X.env x = pure x := by intro _; rfl) (hf : X.fn x = true ∨ X.env.scope.names.lookup x = some .local := by first | exact .inl rfl | exact .inr rfl | assumption) :
    PS X (.Assign [.Name x px] (.ListComp elt [⟨tg, iter, ifs, 0⟩] scope pos) spos) (sLc own.length i wi g tc te) := by
  intro pins s σ H D I h
  rw [exec_Assign_Name_used _ _ _ _ hsw]
  refine wpAny_bind (wpAny_standAt (wpAny_bind ?_))
  show wpAny _ X.A (do let _ ← comprehension (.ListComp elt [⟨tg, iter, ifs, 0⟩] scope pos) scope X.env _ (newList []) false (eval iter X.env) (some (assign (.Name x px) X.env))) _ _ s
  refine wpAny_bind (thn (comp_run (use := some (assign (.Name x px) X.env)) (Q := fun _ s' => SP X pins D .next s') hc S hi hb hs I h fun d C H' s' m I' f hn q => ?_) fun _ s' hq => wpAny_pure (wpAny_pure hq))
  obtain ⟨f0, f1, f2, f3, f4, f5⟩ := f
  obtain ⟨o, es, ep, ho, hd, hr⟩ := id hn
  have Ip : Inv X (pins ++ [(C, o)]) σ H' s' := I'.pins_of fun p hp => by
    rcases List.mem_append.mp hp with z | z
    · exact I'.pin p (List.mem_append_right _ z)
    · obtain rfl : p = (C, o) := by simpa using z
      exact ⟨ho, f0, f1, f2, fun v z => by rw [hd] at z; cases z⟩
  refine thn (pg_name hN hx hl hf (X := X) (pos := px) (pins ++ [(C, o)]) s' σ H' (.ref d) (.ref d) (fun σ' H'' => D.nx σ' H'') Ip rfl q) fun _ s2 ⟨σ2, H2, I2, q2⟩ => ?_
  obtain ⟨k1, k2, _⟩ := I2.pin (C, o) (List.mem_append_right _ (List.mem_append_right _ (by simp)))
  refine ⟨m, ⟨o, es, ep, k1, hd, hr⟩, fun h' sb => ⟨σ2, H2, ?_, q2⟩⟩
  exact I2.unpinned.turned (t' := s2.toks) (fun b o hb e => (sb.2 b hb).trans e) k2 f1 f3 f4 f5
end

/-! ### data: what a value is, all the way down -/
mutual
inductive Dt (K : PySem.W.Frag) (H : Hp) : V → PyData → Prop
  | non : Dt K H .non .none
  | bl (b : Bool) : Dt K H (.bl b) (.bool b)
  | int (i : Int) : Dt K H (.int i) (.int i)
  | str (x : Str) : Dt K H (.str x) (.str x)
  | lst {a : Addr} {xs : List V} {ds : List PyData} : SqL K H a xs → Dts K H xs ds → Dt K H (.ref a) (.list ds)
  | tup {a : Addr} {xs : List V} {ds : List PyData} : SqT K H a xs → Dts K H xs ds → Dt K H (.ref a) (.tuple ds)
inductive Dts (K : PySem.W.Frag) (H : Hp) : List V → List PyData → Prop
  | nil : Dts K H [] []
  | cons {v : V} {d : PyData} {vs : List V} {ds : List PyData} : Dt K H v d → Dts K H vs ds → Dts K H (v :: vs) (d :: ds)
end
section
variable {X : Cx} {pins : List (Addr × Obj)} {σ : St} {H : Hp} {s : Shared}
mutual
theorem Dt.reads (I : Inv X pins σ H s) : ∀ {v : V} {d : PyData} {u : Value}, Dt X.K H v d → RelV v u → ∃ as, Reads s.heap u d as
  | _, _, _, .non, r => by cases r; exact ⟨_, .none⟩
  | _, _, _, .bl b, r => by cases r; exact ⟨_, .bool b⟩
  | _, _, _, .int i, r => by obtain ⟨t, rfl⟩ := r; exact ⟨_, .int i t⟩
  | _, _, _, .str x, r => by obtain ⟨t, rfl⟩ := r; exact ⟨_, .str x t⟩
  | _, _, _, .lst q ds, r => by
    cases r
    obtain ⟨its, rv, ⟨o, n, e, hc, _, hd⟩, _⟩ := I.list q
    obtain ⟨as, ra⟩ := Dts.reads I ds rv
    exact ⟨_, .list e hc hd (by simpa using ra)⟩
  | _, _, _, .tup q ds, r => by
    cases r
    obtain ⟨its, rv, ⟨o, e, hc, n, hd⟩, _⟩ := I.tuple q
    obtain ⟨as, ra⟩ := Dts.reads I ds rv
    exact ⟨_, .tuple e hc hd (by simpa using ra)⟩
theorem Dts.reads (I : Inv X pins σ H s) : ∀ {vs : List V} {ds : List PyData} {us : List Value}, Dts X.K H vs ds → Vals vs us → ∃ as, ReadsAll s.heap us ds as
  | _, _, _, .nil, r => by cases r; exact ⟨_, .nil⟩
  | _, _, _, .cons d ds, r => by
    cases r with
    | cons r rr =>
      obtain ⟨as, ra⟩ := Dt.reads I d r
      obtain ⟨bs, rb⟩ := Dts.reads I ds rr
      exact ⟨_, .cons ra rb⟩
end
/-- x == y, x != y of data -/
def rEqD (K : PySem.W.Frag) (A : Around) : R2 := fun x y H Q => ∃ d e, Dt K H x d ∧ Dt K H y e ∧ d.canLay0 = true ∧ e.canLay0 = true ∧ A.units + min d.depth e.depth < cLine ∧ Q (.bl (PyData.eqv d e)) H
def rNeD (K : PySem.W.Frag) (A : Around) : R2 := fun x y H Q => ∃ d e, Dt K H x d ∧ Dt K H y e ∧ d.canLay0 = true ∧ e.canLay0 = true ∧ A.units + min d.depth e.depth < cLine ∧ Q (.bl (!PyData.eqv d e)) H
theorem op_eqD : OpR X (compareOp .Eq) (rEqD X.K X.A) := by
  intro pins s σ H x y v u Q I rx ry h
  obtain ⟨d, e, dx, dy, h1, h2, hu, q⟩ := h
  obtain ⟨as, ra⟩ := dx.reads I rx
  obtain ⟨bs, rb⟩ := dy.reads I ry
  exact SeqAt.rcAt_reads ra rb h1 h2 hu X.prog X.w X.xe _ ⟨.bl _, H, I, rfl, q⟩
theorem op_neD : OpR X (compareOp .NotEq) (rNeD X.K X.A) := by
  intro pins s σ H x y v u Q I rx ry h
  obtain ⟨d, e, dx, dy, h1, h2, hu, q⟩ := h
  obtain ⟨as, ra⟩ := dx.reads I rx
  obtain ⟨bs, rb⟩ := dy.reads I ry
  exact SeqAt.rcNeAt_reads ra rb h1 h2 hu X.prog X.w X.xe _ ⟨.bl _, H, I, rfl, q⟩

/-! ### isinstance(x, T), T a built-in type -/
def tyN (H : Hp) : V → Option String
  | .non => some "NoneType"
  | .bl _ => some "bool"
  | .int _ => some "int"
  | .str _ => some "str"
  | .ref a => match H a with
    | some (.lst _) => some "list"
    | some (.frz _ (.lst _)) => some "list"
    | some (.tup _) => some "tuple"
    | some (.dK _) => some "dict"
    | some (.dT _) => some "dict"
    | _ => none
  | _ => none
def subT (a b : String) : Bool := a == b || (a == "bool" && b == "int")
abbrev knownT : List String := ["bool", "int", "str", "list", "tuple", "dict"]
theorem tyN_of {H : Hp} {x : V} {tn : String} (h : tyN H x = some tn) : TyOf X.K H x (.type tn) ∧ (tn = "NoneType" ∨ tn ∈ knownT) := by
  cases x with
  | non => cases h; exact ⟨.non, by decide⟩
  | bl b => cases h; exact ⟨.bl b, by decide⟩
  | int i => cases h; exact ⟨.int i, by decide⟩
  | str z => cases h; exact ⟨.str z, by decide⟩
  | byt _ => cases h
  | flt _ => cases h
  | ty _ => cases h
  | ref a =>
    simp only [tyN] at h
    split at h
    · rename_i xs e; cases h; exact ⟨.lst e, by decide⟩
    · rename_i o xs e; cases h; exact ⟨.frz e, by decide⟩
    · rename_i xs e; cases h; exact ⟨.tup e, by decide⟩
    · rename_i kvs e; cases h; exact ⟨.dK e, by decide⟩
    · rename_i kvs e; cases h; exact ⟨.dT e, by decide⟩
    · cases h
theorem kit_NoneType_bool {K : PySem.W.Frag} : PySem.W.kitOne K (.type "NoneType") (.type "bool") = some false := by kernel_rfl
theorem kit_NoneType_int {K : PySem.W.Frag} : PySem.W.kitOne K (.type "NoneType") (.type "int") = some false := by kernel_rfl
theorem kit_NoneType_str {K : PySem.W.Frag} : PySem.W.kitOne K (.type "NoneType") (.type "str") = some false := by kernel_rfl
theorem kit_NoneType_list {K : PySem.W.Frag} : PySem.W.kitOne K (.type "NoneType") (.type "list") = some false := by kernel_rfl
theorem kit_NoneType_tuple {K : PySem.W.Frag} : PySem.W.kitOne K (.type "NoneType") (.type "tuple") = some false := by kernel_rfl
theorem kit_NoneType_dict {K : PySem.W.Frag} : PySem.W.kitOne K (.type "NoneType") (.type "dict") = some false := by kernel_rfl
theorem kit_bool_bool {K : PySem.W.Frag} : PySem.W.kitOne K (.type "bool") (.type "bool") = some true := by kernel_rfl
theorem kit_bool_int {K : PySem.W.Frag} : PySem.W.kitOne K (.type "bool") (.type "int") = some true := by kernel_rfl
theorem kit_bool_str {K : PySem.W.Frag} : PySem.W.kitOne K (.type "bool") (.type "str") = some false := by kernel_rfl
theorem kit_bool_list {K : PySem.W.Frag} : PySem.W.kitOne K (.type "bool") (.type "list") = some false := by kernel_rfl
theorem kit_bool_tuple {K : PySem.W.Frag} : PySem.W.kitOne K (.type "bool") (.type "tuple") = some false := by kernel_rfl
theorem kit_bool_dict {K : PySem.W.Frag} : PySem.W.kitOne K (.type "bool") (.type "dict") = some false := by kernel_rfl
theorem kit_int_bool {K : PySem.W.Frag} : PySem.W.kitOne K (.type "int") (.type "bool") = some false := by kernel_rfl
theorem kit_int_int {K : PySem.W.Frag} : PySem.W.kitOne K (.type "int") (.type "int") = some true := by kernel_rfl
theorem kit_int_str {K : PySem.W.Frag} : PySem.W.kitOne K (.type "int") (.type "str") = some false := by kernel_rfl
theorem kit_int_list {K : PySem.W.Frag} : PySem.W.kitOne K (.type "int") (.type "list") = some false := by kernel_rfl
theorem kit_int_tuple {K : PySem.W.Frag} : PySem.W.kitOne K (.type "int") (.type "tuple") = some false := by kernel_rfl
theorem kit_int_dict {K : PySem.W.Frag} : PySem.W.kitOne K (.type "int") (.type "dict") = some false := by kernel_rfl
theorem kit_str_bool {K : PySem.W.Frag} : PySem.W.kitOne K (.type "str") (.type "bool") = some false := by kernel_rfl
theorem kit_str_int {K : PySem.W.Frag} : PySem.W.kitOne K (.type "str") (.type "int") = some false := by kernel_rfl
theorem kit_str_str {K : PySem.W.Frag} : PySem.W.kitOne K (.type "str") (.type "str") = some true := by kernel_rfl
theorem kit_str_list {K : PySem.W.Frag} : PySem.W.kitOne K (.type "str") (.type "list") = some false := by kernel_rfl
theorem kit_str_tuple {K : PySem.W.Frag} : PySem.W.kitOne K (.type "str") (.type "tuple") = some false := by kernel_rfl
theorem kit_str_dict {K : PySem.W.Frag} : PySem.W.kitOne K (.type "str") (.type "dict") = some false := by kernel_rfl
theorem kit_list_bool {K : PySem.W.Frag} : PySem.W.kitOne K (.type "list") (.type "bool") = some false := by kernel_rfl
theorem kit_list_int {K : PySem.W.Frag} : PySem.W.kitOne K (.type "list") (.type "int") = some false := by kernel_rfl
theorem kit_list_str {K : PySem.W.Frag} : PySem.W.kitOne K (.type "list") (.type "str") = some false := by kernel_rfl
theorem kit_list_list {K : PySem.W.Frag} : PySem.W.kitOne K (.type "list") (.type "list") = some true := by kernel_rfl
theorem kit_list_tuple {K : PySem.W.Frag} : PySem.W.kitOne K (.type "list") (.type "tuple") = some false := by kernel_rfl
theorem kit_list_dict {K : PySem.W.Frag} : PySem.W.kitOne K (.type "list") (.type "dict") = some false := by kernel_rfl
theorem kit_tuple_bool {K : PySem.W.Frag} : PySem.W.kitOne K (.type "tuple") (.type "bool") = some false := by kernel_rfl
theorem kit_tuple_int {K : PySem.W.Frag} : PySem.W.kitOne K (.type "tuple") (.type "int") = some false := by kernel_rfl
theorem kit_tuple_str {K : PySem.W.Frag} : PySem.W.kitOne K (.type "tuple") (.type "str") = some false := by kernel_rfl
theorem kit_tuple_list {K : PySem.W.Frag} : PySem.W.kitOne K (.type "tuple") (.type "list") = some false := by kernel_rfl
theorem kit_tuple_tuple {K : PySem.W.Frag} : PySem.W.kitOne K (.type "tuple") (.type "tuple") = some true := by kernel_rfl
theorem kit_tuple_dict {K : PySem.W.Frag} : PySem.W.kitOne K (.type "tuple") (.type "dict") = some false := by kernel_rfl
theorem kit_dict_bool {K : PySem.W.Frag} : PySem.W.kitOne K (.type "dict") (.type "bool") = some false := by kernel_rfl
theorem kit_dict_int {K : PySem.W.Frag} : PySem.W.kitOne K (.type "dict") (.type "int") = some false := by kernel_rfl
theorem kit_dict_str {K : PySem.W.Frag} : PySem.W.kitOne K (.type "dict") (.type "str") = some false := by kernel_rfl
theorem kit_dict_list {K : PySem.W.Frag} : PySem.W.kitOne K (.type "dict") (.type "list") = some false := by kernel_rfl
theorem kit_dict_tuple {K : PySem.W.Frag} : PySem.W.kitOne K (.type "dict") (.type "tuple") = some false := by kernel_rfl
theorem kit_dict_dict {K : PySem.W.Frag} : PySem.W.kitOne K (.type "dict") (.type "dict") = some true := by kernel_rfl
theorem kit_known {K : PySem.W.Frag} {a b : String} (ha : a = "NoneType" ∨ a ∈ knownT) (hb : b ∈ knownT) : PySem.W.kitOne K (.type a) (.type b) = some (subT a b) := by
  simp only [knownT, List.mem_cons, List.not_mem_nil, or_false] at ha hb
  rcases ha with rfl | rfl | rfl | rfl | rfl | rfl | rfl <;> rcases hb with rfl | rfl | rfl | rfl | rfl | rfl
  · exact kit_NoneType_bool
  · exact kit_NoneType_int
  · exact kit_NoneType_str
  · exact kit_NoneType_list
  · exact kit_NoneType_tuple
  · exact kit_NoneType_dict
  · exact kit_bool_bool
  · exact kit_bool_int
  · exact kit_bool_str
  · exact kit_bool_list
  · exact kit_bool_tuple
  · exact kit_bool_dict
  · exact kit_int_bool
  · exact kit_int_int
  · exact kit_int_str
  · exact kit_int_list
  · exact kit_int_tuple
  · exact kit_int_dict
  · exact kit_str_bool
  · exact kit_str_int
  · exact kit_str_str
  · exact kit_str_list
  · exact kit_str_tuple
  · exact kit_str_dict
  · exact kit_list_bool
  · exact kit_list_int
  · exact kit_list_str
  · exact kit_list_list
  · exact kit_list_tuple
  · exact kit_list_dict
  · exact kit_tuple_bool
  · exact kit_tuple_int
  · exact kit_tuple_str
  · exact kit_tuple_list
  · exact kit_tuple_tuple
  · exact kit_tuple_dict
  · exact kit_dict_bool
  · exact kit_dict_int
  · exact kit_dict_str
  · exact kit_dict_list
  · exact kit_dict_tuple
  · exact kit_dict_dict
theorem call_isi : CallR X (.builtin "isinstance") (fun xs H Q => ∃ x n tn, xs = [x, .ty n] ∧ tyN H x = some tn ∧ n ∈ knownT ∧ Q (.bl (subT tn n)) H) := by
  intro pins s σ H xs us Q I r h
  obtain ⟨x, n, tn, rfl, ty, hn, q⟩ := h
  obtain ⟨u, w', rfl, ru, rw'⟩ := vals2 r
  cases rw'
  obtain ⟨t1, t2⟩ := tyN_of (X := X) ty
  exact isinst_ok I ru t1 (kit_known t2 hn) fun tk => ⟨.bl _, H, I.tok tk, rfl, q⟩
/-- isinstance(x, (S, T)) -/
theorem call_isi2 : CallR X (.builtin "isinstance") (fun xs H Q => ∃ x p n m tn, xs = [x, .ref p] ∧ H p = some (.tup [.ty n, .ty m]) ∧ tyN H x = some tn ∧ n ∈ knownT ∧ m ∈ knownT ∧ Q (.bl (subT tn n || subT tn m)) H) := by
  intro pins s σ H xs us Q I r h
  obtain ⟨x, p, n, m, tn, rfl, hp, ty, hn, hm, q⟩ := h
  obtain ⟨u, w', rfl, ru, rw'⟩ := vals2 r
  cases rw'
  obtain ⟨t1, t2⟩ := tyN_of (X := X) ty
  obtain ⟨_, its, rv, o, ho, hc, k, hd⟩ := (show ObjOk X.prog X.w H s.heap p (.tup [.ty n, .ty m]) from I.hok p _ hp)
  obtain ⟨a, b, rfl, ra, rb⟩ := vals2 rv
  cases ra
  cases rb
  obtain ⟨oc, od, odt, osl⟩ := o
  simp only at hc hd
  subst hc hd
  have e : PySem.W.kitAny X.K (.type tn) [.type n, .type m] = some (subT tn n || subT tn m) := by
    simp only [PySem.W.kitAny, kit_known t2 hn, kit_known t2 hm]
    cases subT tn n <;> cases subT tn m <;> rfl
  have fin : ∀ tk, EP X pins σ Q (.bool (subT tn n || subT tn m)) { s with toks := tk } := fun tk => ⟨.bl _, H, I.tok tk, rfl, q⟩
  cases t1 with
  | non => cases (show u = Value.none from ru); exact PySem.W.kia_tup PySem.W.kitx_none I.kIn True.intro ho e (fun z => nomatch z) fin
  | bl y => cases (show u = Value.bool y from ru); exact PySem.W.kia_tup PySem.W.kitx_bool I.kIn True.intro ho e (fun z => nomatch z) fin
  | int i => obtain ⟨t, z⟩ := (show ∃ t, u = Value.int i t from ru); cases z; exact PySem.W.kia_tup PySem.W.kitx_int I.kIn True.intro ho e (fun z => nomatch z) fin
  | str y => obtain ⟨t, z⟩ := (show ∃ t, u = Value.str y t from ru); cases z; exact PySem.W.kia_tup PySem.W.kitx_str I.kIn True.intro ho e (fun z => nomatch z) fin
  | flt y => obtain ⟨t, z⟩ := (show ∃ t, u = Value.float y t from ru); cases z; exact PySem.W.kia_tup PySem.W.kitx_float I.kIn True.intro ho e (fun z => nomatch z) fin
  | @lst a xs ea =>
    cases (show u = Value.ref a from ru)
    obtain ⟨_, _, _, _, h1⟩ := (show ObjOk X.prog X.w H s.heap a (.lst xs) from I.hok a _ ea)
    exact PySem.W.kia_tup PySem.W.kitx_list I.kIn ⟨_, h1, rfl⟩ ho e (fun z => nomatch z) fin
  | @frz a ob xs ea =>
    cases (show u = Value.ref a from ru)
    obtain ⟨_, _, _, _, _, h1⟩ := (show ObjOk X.prog X.w H s.heap a (.frz ob (.lst xs)) from I.hok a _ ea)
    exact PySem.W.kia_tup PySem.W.kitx_list I.kIn ⟨_, h1, rfl⟩ ho e (fun z => nomatch z) fin
  | @tup a xs ea =>
    cases (show u = Value.ref a from ru)
    obtain ⟨_, _, _, o2, h1, h2, _⟩ := (show ObjOk X.prog X.w H s.heap a (.tup xs) from I.hok a _ ea)
    exact PySem.W.kia_tup PySem.W.kitx_tuple I.kIn ⟨o2, h1, h2⟩ ho e (fun z => nomatch z) fin
  | @dK a kvs ea =>
    cases (show u = Value.ref a from ru)
    obtain ⟨_, _, vs, _, o2, es, ep, h1, h2, _⟩ := (show ObjOk X.prog X.w H s.heap a (.dK kvs) from I.hok a _ ea)
    exact PySem.W.kia_tup PySem.W.kitx_dict I.kIn ⟨o2, h1, h2.1⟩ ho e (fun z => nomatch z) fin
  | @dT a kvs ea =>
    cases (show u = Value.ref a from ru)
    obtain ⟨_, _, xs, _, o2, es, ep, h1, h2, _⟩ := (show ObjOk X.prog X.w H s.heap a (.dT kvs) from I.hok a _ ea)
    exact PySem.W.kia_tup PySem.W.kitx_dict I.kIn ⟨o2, h1, h2.1⟩ ho e (fun z => nomatch z) fin

/-! ### list(d.values()) -/
def tDVals (td : TE) : TE := fun σ H Q => td σ H fun x H1 => ∃ a kvs, x = .ref a ∧ Rd H1 a (.dK kvs) ∧ ∀ l, H1 l = none → Q (.ref l) (upd H1 l (.lst (kvs.map (·.2))))
theorem KV.valsOf {κ : Type} {kvs : List (κ × V)} {vs : List (κ × Value)} (r : KV kvs vs) : Vals (kvs.map (·.2)) (vs.map (·.2)) := by
  unfold KV at r
  induction r with
  | nil => exact .nil
  | cons h _ ih => exact .cons h.2 ih
theorem pe_dvals {o : Expr} {td : TE} {apos cpos p pos : Pos} (hc : X.calm = true) (hg : Gl X "list") (hm : X.mg "list" = none) (ho : PE X o td) (hb : attributeBase o "values" X.env (eval o X.env) = eval o X.env) (hl : (apos.endLine == cpos.line) = true)
    (he : starEach [.Call (.Attribute o "values" apos) [] [] cpos] X.env = [(false, eval (.Call (.Attribute o "values" apos) [] [] cpos) X.env)] := by rfl) :
    PE X (.Call (.Name "list" p) [.Call (.Attribute o "values" apos) [] [] cpos] [] pos) (tDVals td) := by
  intro pins s σ H Q I h
  refine wpAny_Call_Name_kw (ld_blt I hg hm boot_list ?_)
  have inner : wpAny (model X.prog X.w) X.A (eval (.Call (.Attribute o "values" apos) [] [] cpos) X.env) (fun u s1 => ∃ (r a : Addr) (kvs : List (Key × V)) (H1 : Hp), u = .ref r ∧ Inv X pins σ H1 s1 ∧ Rd H1 a (.dK kvs) ∧ s1.heap.IsValuesView r a ∧ ∀ l, H1 l = none → Q (.ref l) (upd H1 l (.lst (kvs.map (·.2))))) X.xe s := by
    refine wpAny_Call_method hb rfl hl PySem.F.plainAttrs_dict PySem.F.slot_dict_values PySem.F.type_dict_values (thn (ho pins s σ H _ I h) fun u s1 ⟨x, H1, I1, rx, a, kvs, ex, d, q1⟩ => ?_)
    subst ex
    obtain rfl : u = Value.ref a := rx
    obtain ⟨t1, t2, _⟩ := isD_at I1 (.inl ⟨kvs, d⟩)
    refine ⟨t1, t2, ?_⟩
    show wpAny _ _ (callWith cpos (.builtin "dict.values") [.ref a] [] []) _ _ s1
    obtain ⟨z, hd, vs, rel, dd⟩ := dk_rd I1.hok d
    refine Calls.callWith_builtin rfl (PySem.evalArgs_none ?_)
    refine call_meetsIn PySem.F.slot_dict_values dd.typeIs PySem.F.entry_dict_values (PySem.F.args_dict_values_1 _) (meets_dict_values (mixKind X.prog X.w) a hd) ⟨⟨vs, dd⟩, ?_⟩
    exact ⟨_, a, kvs, H1, rfl, I1.kept (t' := s1.toks) fun b o e => Heap.get?_push_of_some _ e, d, ⟨_, Heap.get?_push_size _ rfl, rfl, rfl⟩, q1⟩
  have hdo : X.A.handled = none → wpAny (model X.prog X.w) X.A (callWith pos (.type "list") [] (backTo pos (starEach [.Call (.Attribute o "values" apos) [] [] cpos] X.env)) []) (EP X pins σ Q) X.xe s := fun hh => by
    refine PyProof.Rows.callWith_type1 ?_ he rfl
    rw [he]
    show wpAny _ _ (spliced ((false, eval (.Call (.Attribute o "values" apos) [] [] cpos) X.env) :: [])) _ _ s
    refine Calls.spliced_cons (thn inner fun u s1 ⟨r, a, kvs, H1, eu, I1, d, hv, q1⟩ => Calls.spliced_nil ?_)
    subst eu
    obtain ⟨z, hd, vs, rel, dd⟩ := dk_rd I1.hok d
    obtain ⟨ep, hat⟩ := dd.dictAt
    refine PySem.W.kdl_call (PySem.W.kdl_values (knd := mixKind X.prog X.w) (kvs := vs) (ep := ep)) hh ⟨hv, hat⟩ (by rw [← rel.length]; exact z) fun h' tk acc c kp hD hacc => ?_
    have hv2 : acc.toList = vs.map (·.2) := PySem.W.kdl_vals_eq acc.toList (by rw [Array.length_toList]; exact hacc.1) fun j v e => hacc.2 j v (by rw [← Array.getElem?_toList]; exact e)
    refine ⟨.ref s1.heap.objs.size, _, I1.laid (t' := tk) kp (Nat.le_refl _) (show ObjOk X.prog X.w _ h' _ (.lst (kvs.map (·.2))) from ⟨by rw [List.length_map]; exact z, acc.toList, c, by rw [hv2]; exact rel.valsOf, by simpa using hD⟩), rfl, q1 _ I1.fresh⟩
  exact hdo (I.ok.hd hc)

/-! ### max of a list of ints, with a default -/
section
variable {prog : Program} {w : World} {A : Around} {R : Result → Shared → Prop} {I : Addr} {fp wr : List Addr} {n : Nat} {P : Nat → Value → Prop} {St : Nat → Heap → Prop}
theorem mx_go (W : Walks prog w A.in1 I fp wr n P St) (bt : Nat → Nat → Bool) (hcmp : CmpOf prog w A.in1 .Gt P bt) (B : Addr) (nB : B ∉ fp) (kw : List (Str × Value)) :
    ∀ (left j : Nat) (sh : Shared) (top : Value) (c : Nat), n - (j + 1) = left → j + 1 ≤ n → St (j + 1) sh.heap → P (argBest bt j) top →
    sh.heap.get? B = some { cls := .type "list", dict := none, data := .seq #[top, top] c, slots := #[] } →
    (∀ v h' tk, P (argBest bt (n - 1)) v → (∀ b o, b ∉ wr → b ≠ B → sh.heap.get? b = some o → h'.get? b = some o) → R (.ok (.ret v)) { sh with heap := h', toks := tk }) →
    codeAny (model prog w) A (.builtin "max.loop" ⟨[.ref I, .none, .ref B], kw⟩) R sh := by
  have wB : B ∉ wr := fun z => nB (W.sub _ z)
  have nm : (toString "max" ++ toString ".loop" : String) = "max.loop" := by decide
  intro left
  induction left with
  | zero =>
    intro j sh top c e1 e2 st pt hB fin
    have last : j + 1 = n := by omega
    refine codeAny_builtin PySem.F.entry_max_loop ?_
    rw [Around.under_plainId PySem.F.plain_max_loop _]
    show wpAny _ A.in1 (seqItems? (.ref B) >>= _) _ _ sh
    refine wpAny_bind (wpAny_seqItems hB rfl ?_)
    show wpAny _ A.in1 (tryCatch (pyNext (.ref I)) _ >>= _) _ _ sh
    refine wpAny_bind (wpAny_tryCatch (W.done sh _ _ (last ▸ st) fun h' tk kp => ?_))
    have hB2 := kp B _ wB hB
    show wpAny _ A.in1 (updateSeq B (fun _ => #[]) >>= _) _ _ _
    refine wpAny_bind ?_
    refine wpAny_updateSeq hB2 rfl (wpAny_bind (wpAny_letGo (wpAny_pure ?_)))
    exact fin top _ tk (by rw [← last]; exact pt) fun b o z1 z2 e => (Heap.get?_update_other _ _ (Ne.symm z2)).trans (kp b o z1 e)
  | succ left ih =>
    intro j sh top c e1 e2 st pt hB fin
    have more : j + 1 < n := by omega
    refine codeAny_builtin PySem.F.entry_max_loop ?_
    rw [Around.under_plainId PySem.F.plain_max_loop _]
    show wpAny _ A.in1 (seqItems? (.ref B) >>= _) _ _ sh
    refine wpAny_bind (wpAny_seqItems hB rfl ?_)
    show wpAny _ A.in1 (tryCatch (pyNext (.ref I)) _ >>= _) _ _ sh
    refine wpAny_bind (wpAny_tryCatch (W.item (j + 1) sh _ _ more st fun v h' tk pv st' kp => ?_))
    have hB2 := kp B _ wB hB
    show wpAny _ A.in1 (tryCatch (holding [v, v] (richCompare .Gt v top >>= _)) _ >>= _) _ _ _
    refine wpAny_bind (wpAny_tryCatch (wpAny_holding (wpAny_bind (hcmp (j + 1) (argBest bt j) v top _ _ _ pv pt ?_))))
    refine wpAny_bind (wpAny_holding (wpAny_truthy_bool ?_))
    refine wpAny_bind (wpAny_letGo (wpAny_pure ?_))
    cases q : bt (j + 1) (argBest bt j) with
    | true =>
      simp only [if_true]
      refine wpAny_bind ?_
      refine wpAny_updateSeq hB2 rfl (wpAny_bind (wpAny_letGo ?_))
      rw [nm]
      refine wpAny_pure ⟨plainId_quiet PySem.F.plain_max_loop _, ih (j + 1) _ v _ (by omega) more (W.frame _ _ _ st' fun b z o e => ?_) (by simp only [argBest, q, if_true]; exact pv) (Heap.get?_update_self _ hB2 rfl) fun v' h2 tk2 p2 kp2 => ?_⟩
      · exact (Heap.get?_update_other _ _ (fun y : B = b => nB (by rw [y]; exact z))).trans e
      · exact fin v' h2 tk2 p2 fun b o z1 z2 e => kp2 b o z1 z2 ((Heap.get?_update_other _ _ (Ne.symm z2)).trans (kp b o z1 e))
    | false =>
      simp only [Bool.false_eq_true, if_false]
      refine wpAny_bind (wpAny_letGo ?_)
      rw [nm]
      refine wpAny_pure ⟨plainId_quiet PySem.F.plain_max_loop _, ih (j + 1) _ top c (by omega) more st' (by simp only [argBest, q, Bool.false_eq_true, if_false]; exact pt) hB2 fun v' h2 tk2 p2 kp2 => ?_⟩
      exact fin v' h2 tk2 p2 fun b o z1 z2 e => kp2 b o z1 z2 (kp b o z1 e)
theorem mx_first (W : Walks prog w A.in1 I fp wr n P St) (bt : Nat → Nat → Bool) (hcmp : CmpOf prog w A.in1 .Gt P bt) (B : Addr) (nB : B ∉ fp) (nm0 : Str) (d : Value) {sh : Shared} {c : Nat} (st : St 0 sh.heap)
    (hB : sh.heap.get? B = some { cls := .type "list", dict := none, data := .seq #[] c, slots := #[] })
    (fin0 : n = 0 → ∀ h' tk, (∀ b o, b ∉ wr → sh.heap.get? b = some o → h'.get? b = some o) → R (.ok (.ret d)) { sh with heap := h', toks := tk })
    (fin : 0 < n → ∀ v h' tk, P (argBest bt (n - 1)) v → (∀ b o, b ∉ wr → b ≠ B → sh.heap.get? b = some o → h'.get? b = some o) → R (.ok (.ret v)) { sh with heap := h', toks := tk }) :
    codeAny (model prog w) A (.builtin "max.loop" ⟨[.ref I, .none, .ref B], [(nm0, d)]⟩) R sh := by
  have wB : B ∉ wr := fun z => nB (W.sub _ z)
  have nm : (toString "max" ++ toString ".loop" : String) = "max.loop" := by decide
  refine codeAny_builtin PySem.F.entry_max_loop ?_
  rw [Around.under_plainId PySem.F.plain_max_loop _]
  show wpAny _ A.in1 (seqItems? (.ref B) >>= _) _ _ sh
  refine wpAny_bind (wpAny_seqItems hB rfl ?_)
  show wpAny _ A.in1 (tryCatch (pyNext (.ref I)) _ >>= _) _ _ sh
  by_cases hn : 0 < n
  · refine wpAny_bind (wpAny_tryCatch (W.item 0 sh _ _ hn st fun v h' tk pv st' kp => ?_))
    have hB2 := kp B _ wB hB
    show wpAny _ A.in1 (updateSeq B (fun _ => #[v, v]) >>= _) _ _ _
    refine wpAny_bind ?_
    refine wpAny_updateSeq hB2 rfl ?_
    rw [nm]
    refine wpAny_pure ⟨plainId_quiet PySem.F.plain_max_loop _, mx_go W bt hcmp B nB _ _ 0 _ v _ rfl hn (W.frame _ _ _ st' fun b z o e => ?_) pv (Heap.get?_update_self _ hB2 rfl) fun v' h2 tk2 p2 kp2 => ?_⟩
    · exact (Heap.get?_update_other _ _ (fun y : B = b => nB (by rw [y]; exact z))).trans e
    · exact fin hn v' h2 tk2 p2 fun b o z1 z2 e => kp2 b o z1 z2 ((Heap.get?_update_other _ _ (Ne.symm z2)).trans (kp b o z1 e))
  · have e0 : n = 0 := by omega
    refine wpAny_bind (wpAny_tryCatch (W.done sh _ _ (e0 ▸ st) fun h' tk kp => ?_))
    show wpAny _ A.in1 (rule _ >>= _) _ _ _
    exact wpAny_bind (wpAny_rule (wpAny_pure (fin0 e0 h' tk kp)))
end
theorem argBest_best {f : Nat → Int} : ∀ k, argBest (fun i j => decide (f i > f j)) k ≤ k ∧ ∀ i, i ≤ k → f i ≤ f (argBest (fun i j => decide (f i > f j)) k)
  | 0 => ⟨Nat.le_refl _, fun i h => by have : i = 0 := by omega
                                       subst this; exact Int.le_refl _⟩
  | k + 1 => by
    obtain ⟨h1, h2⟩ := argBest_best (f := f) k
    by_cases q : f (k + 1) > f (argBest (fun i j => decide (f i > f j)) k)
    · have e : argBest (fun i j => decide (f i > f j)) (k + 1) = k + 1 := by simp only [argBest]; rw [if_pos (by simpa using q)]
      rw [e]
      refine ⟨Nat.le_refl _, fun i hi => ?_⟩
      by_cases z : i ≤ k
      · have := h2 i z; omega
      · have : i = k + 1 := by omega
        subst this; exact Int.le_refl _
    · have e : argBest (fun i j => decide (f i > f j)) (k + 1) = argBest (fun i j => decide (f i > f j)) k := by simp only [argBest]; rw [if_neg (by simpa using q)]
      rw [e]
      refine ⟨by omega, fun i hi => ?_⟩
      by_cases z : i ≤ k
      · exact h2 i z
      · have : i = k + 1 := by omega
        subst this; omega

def tMaxD (K : PySem.W.Frag) (te td : TE) : TE := fun σ H Q => te σ H fun x H1 => td σ H1 fun z H2 => ∃ a ns, x = .ref a ∧ SqL K H2 a (ns.map V.int) ∧ (ns = [] → Q z H2) ∧ ∀ m, m ∈ ns → (∀ y ∈ ns, y ≤ m) → Q (.int m) H2
theorem args_maxD (a v : Value) : argsOk "max" ⟨[a], [(Str.ofString "default", v)]⟩ := by unfold argsOk; kernel_rfl
theorem vals_int_at : ∀ {ns : List Int} {us : List Value}, Vals (ns.map V.int) us → ∀ (i : Nat) (v : Value), us.toArray[i]? = some v → ∃ t, v = .int (ns.getD i 0) t
  | [], _, r, i, v, e => by cases r; simp at e
  | n :: ns, _, r, i, v, e => by
    cases r with
    | cons r rr =>
      cases i with
      | zero => obtain ⟨t, rfl⟩ := r; simp at e; exact ⟨t, by simp [← e]⟩
      | succ i =>
        obtain ⟨t, ht⟩ := vals_int_at rr i v (by simpa using e)
        exact ⟨t, by simpa using ht⟩
theorem call_maxD {A : Around} {E : Value → Shared → Prop} {a : Addr} {ns : List Int} {dv : Value} {Q : Value → Shared → Prop} (hh : A.handled = none) (I : Inv X pins σ H s) (hq : SqL X.K H a (ns.map V.int))
    (q0 : ns = [] → ∀ s', Inv X pins σ H s' → Q dv s') (qm : ∀ m t s', m ∈ ns → (∀ y ∈ ns, y ≤ m) → Inv X pins σ H s' → Q (.int m t) s') :
    wpAny (model X.prog X.w) A (call (.builtin "max") [.ref a] [(Str.ofString "default", dv)]) Q E s := by
  obtain ⟨its, rv, pl, hz⟩ := I.list hq
  have hlen := rv.length
  rw [List.length_map] at hlen
  have nm : (toString "max" ++ toString ".loop" : String) = "max.loop" := by decide
  refine kmb_tree PySem.F.kind_max PySem.F.plain_max PySem.F.entry_max (args_maxD _ _) ?_
  show wpAny _ A.in1 (Builtin.Builtins.bindParams "max" ["key", "default"] 0 ⟨[], [(Str.ofString "default", dv)]⟩ >>= _) _ _ s
  refine wpAny_bind (wpAny_of_eq (show Builtin.Builtins.bindParams "max" ["key", "default"] 0 ⟨[], [(Str.ofString "default", dv)]⟩ = pure [none, some dv] from rfl) ?_)
  refine wpAny_bind (wpAny_pure ?_)
  refine wpAny_bind (wpAny_pyIter_list pl.isList ?_)
  refine wpAny_bind (wpAny_newObj_type ?_)
  have ha : a < s.heap.objs.size := by
    obtain ⟨o, n, e, _⟩ := pl
    exact Heap.lt_size e
  have W := Walks.list (prog := X.prog) (w := X.w) (A := A.in1) hh s.heap.objs.size a (Nat.ne_of_lt ha) its.toArray
  have k1 : ∀ b o, s.heap.get? b = some o → ((s.heap.push { cls := .type "list_iterator", data := .fields #[.ref a, .int 0 0] }).push { cls := .type "list", dict := none, data := .seq ([] : List Value).toArray }).get? b = some o := fun b o e => Heap.get?_push_of_some _ (Heap.get?_push_of_some _ e)
  have st : ((s.heap.push { cls := .type "list_iterator", data := .fields #[.ref a, .int 0 0] }).push { cls := .type "list", dict := none, data := .seq ([] : List Value).toArray }).IsListIter s.heap.objs.size a 0 := ⟨_, Heap.get?_push_of_some _ (Heap.get?_push_size _ rfl), rfl, rfl⟩
  have nS : (s.heap.push { cls := .type "list_iterator", data := .fields #[.ref a, .int 0 0] }).objs.size = s.heap.objs.size + 1 := by rw [Heap.size_push]
  rw [nm]
  refine wpAny_pure ⟨plainId_quiet PySem.F.plain_max_loop _, ?_⟩
  refine mx_first (c := 0) W (fun i j => decide (ns.getD i 0 > ns.getD j 0)) (CmpOf.ints_gt (fun i => ns.getD i 0) fun i v e => vals_int_at rv i v e) (s.heap.push { cls := .type "list_iterator", data := .fields #[.ref a, .int 0 0] }).objs.size ?_ _ _ ⟨st, ?_⟩ (Heap.get?_push_size _ rfl) ?_ ?_
  · rw [nS]; intro z
    simp only [List.mem_cons, List.not_mem_nil, or_false] at z
    rcases z with z | z
    · exact absurd z (Nat.succ_ne_self _)
    · rw [← z] at ha
      exact absurd ha (Nat.not_lt.mpr (Nat.le_succ _))
  · obtain ⟨o, ho, hc, n, hd⟩ := pl.isList
    exact ⟨o, k1 _ _ ho, hc, n, hd⟩
  · intro e0 h' tk kp
    have n0 : ns.length = 0 := by rw [hlen]; simpa using e0
    refine q0 (List.length_eq_zero_iff.mp n0) _ (I.kept fun b o e => kp b o (fun z => ?_) (k1 b o e))
    have : b = s.heap.objs.size := by simpa using z
    exact absurd (Heap.lt_size e) (by rw [this]; exact Nat.lt_irrefl _)
  · intro hn v h' tk pv kp
    obtain ⟨b1, b2⟩ := argBest_best (f := fun i => ns.getD i 0) (its.toArray.size - 1)
    have hsz : its.toArray.size = ns.length := by simp [hlen]
    obtain ⟨t, rfl⟩ := vals_int_at rv _ v pv
    refine qm _ t _ ?_ (fun y hy => ?_) (I.kept fun b o e => kp b o (fun z => ?_) ?_ (k1 b o e))
    · have hlt : argBest (fun i j => decide (ns.getD i 0 > ns.getD j 0)) (its.toArray.size - 1) < ns.length := by omega
      rw [List.getD_eq_getElem?_getD, List.getElem?_eq_getElem hlt]
      exact List.getElem_mem hlt
    · obtain ⟨i, hi, e⟩ := List.mem_iff_getElem.mp hy
      have := b2 i (by omega)
      have e2 : ns.getD i 0 = y := by rw [List.getD_eq_getElem?_getD, List.getElem?_eq_getElem hi]; exact e
      rw [e2] at this
      exact this
    · have : b = s.heap.objs.size := by simpa using z
      exact absurd (Heap.lt_size e) (by rw [this]; exact Nat.lt_irrefl _)
    · intro z
      rw [nS] at z
      exact absurd (Heap.lt_size e) (by rw [z]; exact Nat.not_lt.mpr (Nat.le_succ _))
theorem pe_maxD {e d : Expr} {te td : TE} {p pos kp : Pos} (hc : X.calm = true) (hg : Gl X "max") (hm : X.mg "max" = none) (he : PE X e te) (hd : PE X d td)
    (hs : starEach [e] X.env = [(false, eval e X.env)] := by rfl) : PE X (.Call (.Name "max" p) [e] [⟨some "default", d, kp⟩] pos) (tMaxD X.K te td) := by
  intro pins s σ H Q I h
  refine wpAny_Call_Name_kw (ld_blt I hg hm boot_max ?_)
  refine callWith_kw (e := e) (rest := []) (kws := [⟨some "default", d, kp⟩]) ?_ (by rw [hs]; rfl) (by rw [hs]; rfl)
  rw [hs]
  show wpAny _ _ (spliced ((false, eval e X.env) :: [])) _ _ s
  refine Calls.spliced_cons (thn (he pins s σ H _ I h) fun u s1 ⟨x, H1, I1, rx, q1⟩ => Calls.spliced_nil ?_)
  refine kws_cons (thn (hd pins s1 σ H1 _ I1 q1) fun dv s2 ⟨z, H2, I2, rd, a, ns, ex, hq, q0, qm⟩ => kws_nil ?_)
  subst ex
  obtain rfl : u = Value.ref a := rx
  exact call_maxD (I.ok.hd hc) I2 hq (fun e0 s' I' => ⟨z, H2, I', rd, q0 e0⟩) fun m t s' h1 h2 I' => ⟨.int m, H2, I', ⟨t, rfl⟩, qm m h1 h2⟩

/-! ### texts -/
theorem op_mul_str : OpR X (binaryOp .Mult) (fun x y H Q => ∃ z n, x = .str z ∧ y = .int n ∧ MulOk z n ∧ Q (.str (Txt.mul z n)) H) := by
  intro pins s σ H x y v u Q I rx ry h
  obtain ⟨z, n, rfl, rfl, ok, q⟩ := h
  obtain ⟨t, rfl⟩ := rx
  obtain ⟨t', rfl⟩ := ry
  exact SB.mul ok fun t2 k => ⟨.str _, H, I.tok _, ⟨t2, rfl⟩, q⟩
theorem call_int_text : CallR X (.type "int") (fun xs H Q => ∃ x n, xs = [.str x] ∧ PySem.intText? x = some n ∧ x.length ≤ 640 ∧ Q (.int n) H) := by
  intro pins s σ H xs us Q I r h
  obtain ⟨x, n, rfl, hn, hl, q⟩ := h
  obtain ⟨u, rfl, t, rfl⟩ := vals1 r
  exact PySem.W.KIN.call_text hn hl ⟨.int n, H, I.tok _, ⟨_, rfl⟩, q⟩
end

/-! ### a def, a method, a class of the text, with all that a call of it asks -/
structure Def (P : Program) (w : World) (K : PySem.W.Frag) (mg : Str → Option Value) (base : Heap) (x : Str) (k : Nat) (ps : List Str) (sp : Sp) : Prop where
  ex : ∃ f fd, mg x = some (.ref f) ∧ PySem.W.keepIn K (.ref f) = true ∧ Binds K fd ps [] ∧ FnOk P w K mg base CX0 k f fd ps sp
structure MDef (P : Program) (w : World) (K : PySem.W.Frag) (mg : Str → Option Value) (base : Heap) (C : Addr) (m : Str) (k : Nat) (ps : List Str) (sp : Sp) : Prop where
  cl : Cls K C
  ex : ∃ f fd, Meth K C m f ∧ Binds K fd ps [] ∧ FnOk P w K mg base CX0 k f fd ps sp
structure CDef (P : Program) (w : World) (K : PySem.W.Frag) (mg : Str → Option Value) (base : Heap) (x : Str) (C : Addr) (k : Nat) (ps : List Str) (sp : Sp) : Prop where
  mgc : mg x = some (.ref C)
  ex : ∃ f fd, Mk K C f ∧ Binds K fd ps [] ∧ FnOk P w K mg base CX0 k f fd ps sp
section
variable {X : Cx} {k : Nat} {C : Addr} {ps : List Str} {sp : Sp} {x m : Str} {p pos apos : Pos} {e o : Expr} {es : List Expr} {ta : TE} {t : TA}
theorem pe_def (D : Def X.prog X.w X.K X.mg X.base x k ps sp) (hr : Room k X.A) (hg : Gl X x) (ha : PA X (e :: es) t) (hdb : (x == ("__debug__" : Str)) = false := by decide)
    (he : starEach (e :: es) X.env = (false, eval e X.env) :: starEach es X.env := by rfl) (hpl : (backTo pos (starEach es X.env)).any (·.1) = false := by rfl) : PE X (.Call (.Name x p) (e :: es) [] pos) (tCall sp [] E0 t) := by
  obtain ⟨f, fd, h1, h2, h3, h4⟩ := D.ex
  exact pe_call h4 hr hg h1 h2 h3 .nil pass0 ha hdb he hpl
theorem pe_def0 (D : Def X.prog X.w X.K X.mg X.base x k ps sp) (hr : Room k X.A) (hg : Gl X x) (hdb : (x == ("__debug__" : Str)) = false := by decide) : PE X (.Call (.Name x p) [] [] pos) (tCall sp [] E0 tNil) := by
  obtain ⟨f, fd, h1, h2, h3, h4⟩ := D.ex
  exact pe_call0 h4 hr hg h1 h2 h3 .nil pass0 hdb
theorem pe_mdef {pl : Sem Bool} (ho : PE X o ta) (D : MDef X.prog X.w X.K X.mg X.base C m k ps sp) (hr : Room k X.A) (ha : PA X (e :: es) t)
    (hst : starEach (e :: es) X.env = (false, eval e X.env) :: starEach es X.env := by rfl) (hpl : (backTo pos (starEach es X.env)).any (·.1) = false := by rfl)
    (ht : eval (.Call (.Attribute o m apos) (e :: es) [] pos) X.env = (do
      let ov ← eval o X.env
      standAt apos.atName
      let (f, first) ← holding [ov] (getMethod ov m pl)
      callWith pos f first (backTo pos (starEach (e :: es) X.env)) (backToKw pos (keywordEach [] X.env))) := by rfl) :
    PE X (.Call (.Attribute o m apos) (e :: es) [] pos) (tMeth C m sp [] E0 ta t) := by
  obtain ⟨f, fd, h1, h3, h4⟩ := D.ex
  exact pe_meth ho D.cl h1 h4 hr h3 .nil pass0 ha hst hpl ht
theorem pe_mdef0 {pl : Sem Bool} (ho : PE X o ta) (D : MDef X.prog X.w X.K X.mg X.base C m k ps sp) (hr : Room k X.A)
    (ht : eval (.Call (.Attribute o m apos) [] [] pos) X.env = (do
      let ov ← eval o X.env
      standAt apos.atName
      let (f, first) ← holding [ov] (getMethod ov m pl)
      callWith pos f first (backTo pos (starEach [] X.env)) (backToKw pos (keywordEach [] X.env))) := by rfl) :
    PE X (.Call (.Attribute o m apos) [] [] pos) (tMeth C m sp [] E0 ta tNil) := by
  obtain ⟨f, fd, h1, h3, h4⟩ := D.ex
  exact pe_meth0 ho D.cl h1 h4 hr h3 .nil pass0 ht
theorem pe_cls (D : CDef X.prog X.w X.K X.mg X.base x C k ps sp) (hr : Room (k + 1) X.A) (hg : Gl X x) (ha : PA X (e :: es) t) (hdb : (x == ("__debug__" : Str)) = false := by decide)
    (he : starEach (e :: es) X.env = (false, eval e X.env) :: starEach es X.env := by rfl) (hpl : (backTo pos (starEach es X.env)).any (·.1) = false := by rfl) : PE X (.Call (.Name x p) (e :: es) [] pos) (tMake C sp [] E0 t) := by
  obtain ⟨f, fd, h1, h3, h4⟩ := D.ex
  exact pe_make h1 h4 hr hg D.mgc h3 .nil pass0 ha hdb he hpl
theorem pe_cls0 (D : CDef X.prog X.w X.K X.mg X.base x C k ps sp) (hr : Room (k + 1) X.A) (hg : Gl X x) (hdb : (x == ("__debug__" : Str)) = false := by decide) : PE X (.Call (.Name x p) [] [] pos) (tMake C sp [] E0 tNil) := by
  obtain ⟨f, fd, h1, h3, h4⟩ := D.ex
  exact pe_make0 h1 h4 hr hg D.mgc h3 .nil pass0 hdb
end
end L2

end

section
set_option maxHeartbeats 4000000
namespace L2
open PySem PySem.Spec PyProof.Rows

section
variable {CX : CXT} {P : Program} {w : World} {K : PySem.W.Frag} {mg : Str → Option Value} {base : Heap} {N : List Str} {qual : Str} {scope : Scope} {f : Addr} {cd : Value} {A : Around} {outer : List Env} {s : Shared} {H : Hp} {E : XK}
theorem cxOf_K : (cxOf CX P w K mg base N qual scope f cd A outer s H E).K = K := rfl
theorem cxOf_A : (cxOf CX P w K mg base N qual scope f cd A outer s H E).A = A.deeper (envOfC qual scope s.heap.objs.size f cd) := rfl
theorem cxComp_K {X : Cx} {own : List Str} {cl : List (Str × Addr)} {C : Addr} {fp : List Addr} : (cxComp X scope own cl C s H fp).K = X.K := rfl
theorem cxComp_A {X : Cx} {own : List Str} {cl : List (Str × Addr)} {C : Addr} {fp : List Addr} : (cxComp X scope own cl C s H fp).A = X.A := rfl
end

/-! ### what is walked, as a list that stays -/
def Yields (J : It) (xs : List V) (H : Hp) : Prop := (∀ (i : Nat) x, xs[i]? = some x → J.go i H ∧ ∀ y H', J.yld i H y H' → H' = H ∧ y = x) ∧ J.stop xs.length H
theorem Yields.list {K : PySem.W.Frag} {a : Addr} {xs : List V} {H : Hp} (h : SqL K H a xs) : Yields (Itl K a) xs H :=
  ⟨fun i x e => ⟨⟨xs, x, h, e⟩, fun y H' ⟨e1, e2⟩ => ⟨e1, Option.some.inj ((e2 xs h).symm.trans e)⟩⟩, ⟨xs, h, Nat.le_refl _⟩⟩
theorem Yields.tup {K : PySem.W.Frag} {a : Addr} {xs : List V} {H : Hp} (h : SqT K H a xs) : Yields (Itt K a) xs H :=
  ⟨fun i x e => ⟨⟨xs, x, h, e⟩, fun y H' ⟨e1, e2⟩ => ⟨e1, Option.some.inj ((e2 xs h).symm.trans e)⟩⟩, ⟨xs, h, Nat.le_refl _⟩⟩
def rngV (lo : Int) (n : Nat) : List V := (List.range n).map fun i => V.int (lo + ((i : Nat) : Int))
theorem rngV_len (lo : Int) (n : Nat) : (rngV lo n).length = n := by simp [rngV]
theorem rngV_at {lo : Int} {n i : Nat} {x : V} (h : (rngV lo n)[i]? = some x) : i < n ∧ x = .int (lo + (i : Int)) := by
  unfold rngV at h
  rw [List.getElem?_map] at h
  by_cases hi : i < n
  · rw [List.getElem?_range hi] at h
    exact ⟨hi, (Option.some.inj h).symm⟩
  · rw [List.getElem?_eq_none (by simpa using hi)] at h
    cases h
theorem Yields.range {lo : Int} {n : Nat} {H : Hp} : Yields (Itr lo n) (rngV lo n) H :=
  ⟨fun i x e => by
    obtain ⟨h1, h2⟩ := rngV_at e
    exact ⟨h1, fun y H' ⟨e1, e2⟩ => ⟨e1, e2.trans h2.symm⟩⟩, by rw [rngV_len]; exact Nat.le_refl n⟩

/-- a for's loop -/
def ForW (J : It) (g : TG) (tb : TS) (D : Ends) (σ : St) (H : Hp) : Prop := ∃ W : Nat → Nat → St → Hp → Prop, (∃ m, W 0 m σ H) ∧ ∀ i m σ H, W i m σ H →
  (J.stop i H ∧ D.nx σ H) ∨ (J.go i H ∧ ∃ N : St → Hp → Prop, (∀ σ' H', N σ' H' → ∃ m', m' < m ∧ W (i + 1) m' σ' H') ∧ ∀ x H', J.yld i H x H' → g x σ H' fun σ2 H2 => tb { D with nx := N, ct := N, bk := D.nx } σ2 H2)
def tForG (wi : TI) (g : TG) (tb : TS) : TS := fun D σ H => wi σ H fun J H1 => ForW J g tb D σ H1
theorem ps_forG {X : Cx} {tg iter : Expr} {body : List Stmt} {wi : TI} {g : TG} {tb : TS} {pos : Pos} (hp : PassesOwn (model X.prog X.w) X.A X.env X.xe) (hc : X.calm = true) (hi : PI X tg iter wi) (hg : PG X tg g) (hb : PSs X body tb)
    (hs : ∀ x, foldedSetIterable iter X.env x = pure x := by intro _; rfl) : PS X (.For tg iter body [] pos) (tForG wi g tb) := ps_for hp hc hi hg hb hs
/-- a for over what stays -/
theorem for_gen {J : It} {xs : List V} {g : TG} {tb : TS} {D : Ends} {σ : St} {H : Hp} (Pv : Nat → St → Hp → Prop) (h0 : Pv 0 σ H) (hl : ∀ i σ H, i ≤ xs.length → Pv i σ H → Yields J xs H)
    (hs : ∀ i x σ H, xs[i]? = some x → Pv i σ H → g x σ H fun σ2 H2 => tb { D with nx := Pv (i + 1), ct := Pv (i + 1), bk := D.nx } σ2 H2) (hd : ∀ σ H, Pv xs.length σ H → D.nx σ H) : ForW J g tb D σ H := by
  refine ⟨fun i m σ H => m = xs.length - i ∧ i ≤ xs.length ∧ Pv i σ H, ⟨xs.length, by simp, Nat.zero_le _, h0⟩, ?_⟩
  rintro i m σ H ⟨rfl, hi, p⟩
  obtain ⟨y1, y2⟩ := hl i σ H hi p
  by_cases hlt : i < xs.length
  · have e : xs[i]? = some xs[i] := by simp [hlt]
    obtain ⟨g1, g2⟩ := y1 i _ e
    refine .inr ⟨g1, Pv (i + 1), fun σ' H' p' => ⟨xs.length - (i + 1), by omega, rfl, hlt, p'⟩, fun x H' y => ?_⟩
    obtain ⟨e1, e2⟩ := g2 x H' y
    subst e1 e2
    exact hs i _ σ _ e p
  · have e : i = xs.length := by omega
    subst e
    exact .inl ⟨y2, hd σ H p⟩

/-- the loop of a comprehension over what stays -/
theorem lc_gen {J : It} {xs : List V} {D : Addr} {n : Nat} {g : TG} {tc : TT} {te : TE} {σ : St} {Qd : Addr → Hp → Prop} {H1 : Hp} (Pv : Nat → Hp → Prop) (h0 : Pv 0 (upd H1 D (.lst []))) (hl : ∀ i H, i ≤ xs.length → Pv i H → Yields J xs H)
    (hs : ∀ i x H, xs[i]? = some x → Pv i H → g x (σ ++ List.replicate n none) H fun σ2 H2 => (∀ (j : Nat) v, (σ ++ List.replicate n none)[j]? = some (some v) → σ2[j]? = some (some v)) ∧ tc σ2 H2 fun b H3 =>
      if b = true then te σ2 H3 fun y H4 => ∃ ys, H4 D = some (.lst ys) ∧ ys.length < sizeLine ∧ Pv (i + 1) (upd H4 D (.lst (ys ++ [y]))) else Pv (i + 1) H3)
    (hd : ∀ H, Pv xs.length H → Qd D H) : LcW J D n g tc te σ Qd H1 := by
  refine ⟨fun i m H => m = xs.length - i ∧ i ≤ xs.length ∧ Pv i H, ⟨xs.length, by simp, Nat.zero_le _, h0⟩, ?_⟩
  rintro i m H ⟨rfl, hi, p⟩
  obtain ⟨y1, y2⟩ := hl i H hi p
  by_cases hlt : i < xs.length
  · have e : xs[i]? = some xs[i] := by simp [hlt]
    obtain ⟨g1, g2⟩ := y1 i _ e
    refine .inr ⟨g1, Pv (i + 1), fun H' p' => ⟨xs.length - (i + 1), by omega, rfl, hlt, p'⟩, fun x H' y => ?_⟩
    obtain ⟨e1, e2⟩ := g2 x H' y
    subst e1 e2
    exact hs i _ _ e p
  · have e : i = xs.length := by omega
    subst e
    exact .inl ⟨y2, hd H p⟩
theorem keep_own {σ : St} {x : V} {j : Nat} {v : V} (h : (σ ++ List.replicate 1 none)[j]? = some (some v)) : ((σ ++ List.replicate 1 none).set σ.length (some x))[j]? = some (some v) := by
  by_cases e : j = σ.length
  · subst e
    rw [List.getElem?_append_right (Nat.le_refl _)] at h
    simp at h
  · rw [List.getElem?_set_ne (fun z => e z.symm)]
    exact h
theorem set_own (σ : St) (x : V) : (σ ++ List.replicate 1 none).set σ.length (some x) = σ ++ [some x] := by
  rw [List.set_append_right _ _ (Nat.le_refl _)]
  simp
/-- elements and tests that change nothing -/
theorem lc_pure {J : It} {xs : List V} {D : Addr} {k : Nat} {tc : TT} {te : TE} {σ : St} {Qd : Addr → Hp → Prop} {H1 : Hp} (hk : k = σ.length) (hD : H1 D = none) (hJ : ∀ H, Same H1 H → Yields J xs H) (hl : xs.length ≤ 1000) (p : V → Bool) (f : V → V)
    (ht : ∀ x ∈ xs, ∀ H, Same H1 H → ∀ Q : Bool → Hp → Prop, Q (p x) H → tc (σ ++ [some x]) H Q) (he : ∀ x ∈ xs, p x = true → ∀ H, Same H1 H → ∀ Q : VK, Q (f x) H → te (σ ++ [some x]) H Q)
    (q : Qd D (upd H1 D (.lst ((xs.filter p).map f)))) : LcW J D 1 (gName k) tc te σ Qd H1 := by
  subst hk
  have same : ∀ o, Same H1 (upd H1 D o) := fun o b u e => by rw [upd_ne (ne_of_none e hD)]; exact e
  refine lc_gen (xs := xs) (fun i H => H = upd H1 D (.lst (((xs.take i).filter p).map f))) (by simp) (fun i H _ e => hJ H (by rw [e]; exact same _)) (fun i x H hx e => ?_) (fun H e => by rw [e, List.take_length]; exact q)
  subst e
  have hm := List.mem_of_getElem? hx
  have hi : i < xs.length := (List.getElem?_eq_some_iff.mp hx).1
  have et : xs.take (i + 1) = xs.take i ++ [x] := by rw [List.take_add_one, hx]; rfl
  show _ ∧ _
  refine ⟨fun j v h => keep_own h, ?_⟩
  rw [set_own]
  refine ht x hm _ (same _) _ ?_
  cases e : p x with
  | true =>
    refine iteT (he x hm e _ (same _) _ ⟨_, upd_same, ?_, ?_⟩)
    · have h1 : ((xs.take i).filter p).length ≤ (xs.take i).length := List.length_filter_le _ _
      rw [List.length_map]
      rw [List.length_take] at h1
      exact small1000 (by omega)
    · rw [upd_upd, et, List.filter_append, List.map_append]
      simp [e]
  | false =>
    refine iteF ?_
    rw [et, List.filter_append]
    simp [e]
theorem rIxL_of {K : PySem.W.Frag} {p : Addr} {xs : List V} {i : Int} {v : V} {H : Hp} {Q : VK} (h1 : SqL K H p xs) (h2 : atI xs i = some v) (q : Q v H) : rIxL K (.ref p) (.int i) H Q := ⟨p, xs, i, v, rfl, rfl, h1, h2, q⟩
theorem rIxT_of {K : PySem.W.Frag} {p : Addr} {xs : List V} {i : Int} {v : V} {H : Hp} {Q : VK} (h1 : SqT K H p xs) (h2 : atI xs i = some v) (q : Q v H) : rIxT K (.ref p) (.int i) H Q := ⟨p, xs, i, v, rfl, rfl, h1, h2, q⟩
theorem atI_at {α : Type} {xs : List α} {z : Int} (h0 : 0 ≤ z) (h1 : z < xs.length) : ∃ o, atI xs z = some o ∧ xs[z.toNat]? = some o := by
  obtain ⟨k, rfl⟩ : ∃ k : Nat, z = (k : Int) := ⟨z.toNat, by omega⟩
  have hk : k < xs.length := by omega
  have e : xs[k]? = some xs[k] := by simp [hk]
  exact ⟨_, atI_nat e, by rw [Int.toNat_natCast]; exact e⟩
theorem atI_int {ns : List Int} {z : Int} (h0 : 0 ≤ z) (h1 : z < ns.length) : ∃ o, atI (ns.map V.int) z = some (.int o) ∧ ns[z.toNat]? = some o := by
  obtain ⟨v, h2, h3⟩ := atI_at (xs := ns.map V.int) h0 (by rw [List.length_map]; exact h1)
  rw [List.getElem?_map] at h3
  cases e : ns[z.toNat]? with
  | none => rw [e] at h3; cases h3
  | some o =>
    rw [e] at h3
    exact ⟨o, by rw [h2]; exact congrArg some (Option.some.inj h3).symm, rfl⟩
theorem Same.new {H H' : Hp} {p : Addr} {o : HO} (s : Same H H') (h : H' p = Option.none) : Same H (upd H' p o) := fun b u e => by
  have e' := s b u e
  rw [upd_ne (ne_of_none e' h)]
  exact e'
theorem tyN_non {H : Hp} : tyN H .non = some "NoneType" := rfl
theorem tyN_bl {H : Hp} {b : Bool} : tyN H (.bl b) = some "bool" := rfl
theorem tyN_int {H : Hp} {i : Int} : tyN H (.int i) = some "int" := rfl
theorem tyN_str {H : Hp} {x : Str} : tyN H (.str x) = some "str" := rfl
theorem tyN_lst {H : Hp} {a : Addr} {xs : List V} (h : H a = some (.lst xs)) : tyN H (.ref a) = some "list" := by simp only [tyN, h]
theorem tyN_tup {H : Hp} {a : Addr} {xs : List V} (h : H a = some (.tup xs)) : tyN H (.ref a) = some "tuple" := by simp only [tyN, h]
/-! lists of ints as data -/
theorem dts_ints {K : PySem.W.Frag} {H : Hp} : ∀ ns : List Int, Dts K H (ns.map V.int) (ns.map PyData.int)
  | [] => .nil
  | n :: ns => .cons (.int n) (dts_ints ns)
theorem lay_ints : ∀ ns : List Int, PyData.canLayAll0 (ns.map PyData.int) = true
  | [] => rfl
  | n :: ns => by
    show (true && PyData.canLayAll0 (ns.map PyData.int)) = true
    rw [lay_ints ns]
    rfl
theorem depth_ints : ∀ ns : List Int, PyData.depthAll (ns.map PyData.int) = 0
  | [] => rfl
  | n :: ns => by
    show max 0 (PyData.depthAll (ns.map PyData.int)) = 0
    rw [depth_ints ns]
    rfl
theorem dt_ints {K : PySem.W.Frag} {H : Hp} {a : Addr} {ns : List Int} (h : SqL K H a (ns.map V.int)) : Dt K H (.ref a) (.list (ns.map PyData.int)) := .lst h (dts_ints ns)
theorem lay_list_ints (ns : List Int) : PyData.canLay0 (.list (ns.map PyData.int)) = true := lay_ints ns
theorem depth_list_ints (ns : List Int) : PyData.depth (.list (ns.map PyData.int)) = 1 := by
  show PyData.depthAll (ns.map PyData.int) + 1 = 1
  rw [depth_ints]
theorem cmul_l : True := True.intro
theorem cmul_2 (x : Int) : CMul 2 x := Or.inl (by decide)
theorem cmul_4 (x : Int) : CMul 4 x := Or.inl (by decide)
theorem cmul_h (x : Int) : CMul x 48271 := Or.inr (by decide)
theorem known_bool : "bool" ∈ knownT := by decide
theorem known_int : "int" ∈ knownT := by decide
theorem known_str : "str" ∈ knownT := by decide
theorem known_list : "list" ∈ knownT := by decide
theorem known_tuple : "tuple" ∈ knownT := by decide
theorem known_dict : "dict" ∈ knownT := by decide
theorem sT_NoneType_bool : subT "NoneType" "bool" = false := by decide
theorem sT_NoneType_int : subT "NoneType" "int" = false := by decide
theorem sT_NoneType_str : subT "NoneType" "str" = false := by decide
theorem sT_NoneType_list : subT "NoneType" "list" = false := by decide
theorem sT_NoneType_tuple : subT "NoneType" "tuple" = false := by decide
theorem sT_NoneType_dict : subT "NoneType" "dict" = false := by decide
theorem sT_bool_bool : subT "bool" "bool" = true := by decide
theorem sT_bool_int : subT "bool" "int" = true := by decide
theorem sT_bool_str : subT "bool" "str" = false := by decide
theorem sT_bool_list : subT "bool" "list" = false := by decide
theorem sT_bool_tuple : subT "bool" "tuple" = false := by decide
theorem sT_bool_dict : subT "bool" "dict" = false := by decide
theorem sT_int_bool : subT "int" "bool" = false := by decide
theorem sT_int_int : subT "int" "int" = true := by decide
theorem sT_int_str : subT "int" "str" = false := by decide
theorem sT_int_list : subT "int" "list" = false := by decide
theorem sT_int_tuple : subT "int" "tuple" = false := by decide
theorem sT_int_dict : subT "int" "dict" = false := by decide
theorem sT_str_bool : subT "str" "bool" = false := by decide
theorem sT_str_int : subT "str" "int" = false := by decide
theorem sT_str_str : subT "str" "str" = true := by decide
theorem sT_str_list : subT "str" "list" = false := by decide
theorem sT_str_tuple : subT "str" "tuple" = false := by decide
theorem sT_str_dict : subT "str" "dict" = false := by decide
theorem sT_list_bool : subT "list" "bool" = false := by decide
theorem sT_list_int : subT "list" "int" = false := by decide
theorem sT_list_str : subT "list" "str" = false := by decide
theorem sT_list_list : subT "list" "list" = true := by decide
theorem sT_list_tuple : subT "list" "tuple" = false := by decide
theorem sT_list_dict : subT "list" "dict" = false := by decide
theorem sT_tuple_bool : subT "tuple" "bool" = false := by decide
theorem sT_tuple_int : subT "tuple" "int" = false := by decide
theorem sT_tuple_str : subT "tuple" "str" = false := by decide
theorem sT_tuple_list : subT "tuple" "list" = false := by decide
theorem sT_tuple_tuple : subT "tuple" "tuple" = true := by decide
theorem sT_tuple_dict : subT "tuple" "dict" = false := by decide
theorem sT_dict_bool : subT "dict" "bool" = false := by decide
theorem sT_dict_int : subT "dict" "int" = false := by decide
theorem sT_dict_str : subT "dict" "str" = false := by decide
theorem sT_dict_list : subT "dict" "list" = false := by decide
theorem sT_dict_tuple : subT "dict" "tuple" = false := by decide
theorem sT_dict_dict : subT "dict" "dict" = true := by decide
theorem small_of {n : Nat} (h : n ≤ 1000) : n ≤ sizeLine := Nat.le_of_lt (small1000 h)
end L2

end

section
set_option maxHeartbeats 4000000
namespace L2
open PySem PySem.Spec PyProof.Rows
section
variable {X : Cx}
theorem op_is_bl : OpR X (compareOp .Is) (fun x y H Q => ∃ b c, x = .bl b ∧ y = .bl c ∧ Q (.bl (b == c)) H) := by
  intro pins s σ H x y v u Q I rx ry h
  obtain ⟨b, c, rfl, rfl, q⟩ := h
  cases rx
  cases ry
  exact is_bool ⟨.bl _, H, I, rfl, q⟩
theorem op_isnot_bl : OpR X (compareOp .IsNot) (fun x y H Q => ∃ b c, x = .bl b ∧ y = .bl c ∧ Q (.bl (b != c)) H) := by
  intro pins s σ H x y v u Q I rx ry h
  obtain ⟨b, c, rfl, rfl, q⟩ := h
  cases rx
  cases ry
  exact isnot_bool ⟨.bl _, H, I, rfl, q⟩
/-- max of a list of ints that is not empty -/
theorem call_max1 (hc : X.calm = true) : CallR X (.builtin "max") (fun xs H Q => ∃ a ns, xs = [.ref a] ∧ SqL X.K H a (ns.map V.int) ∧ ns ≠ [] ∧ ∀ m, m ∈ ns → (∀ y ∈ ns, y ≤ m) → Q (.int m) H) := by
  intro pins s σ H xs us Q I r h
  obtain ⟨a, ns, rfl, hq, hne, qm⟩ := h
  obtain ⟨u, rfl, ru⟩ := vals1 r
  cases ru
  obtain ⟨its, rv, pl, hz⟩ := I.list hq
  have hlen := rv.length
  rw [List.length_map] at hlen
  have ha : a < s.heap.objs.size := by
    obtain ⟨o, n, e, _⟩ := pl
    exact Heap.lt_size e
  have hsz : its.toArray.size = ns.length := by simp [hlen]
  refine call_max_walk (wpAny_pyIter_list pl.isList ⟨s.heap.objs.size, _, _, _, _, _, fun i j => decide (ns.getD i 0 > ns.getD j 0), rfl, Walks.list (prog := X.prog) (w := X.w) (A := X.A.in1) (I.ok.hd hc) s.heap.objs.size a (Nat.ne_of_lt ha) its.toArray, ⟨⟨_, Heap.get?_push_size _ rfl, rfl, rfl⟩, ?_⟩, ?_, ?_, CmpOf.ints_gt (fun i => ns.getD i 0) fun i v e => vals_int_at rv i v e, ?_⟩)
  · obtain ⟨o, ho, hcl, n, hd⟩ := pl.isList
    exact ⟨o, Heap.get?_push_of_some _ ho, hcl, n, hd⟩
  · intro b hb
    rw [Heap.size_push]
    simp only [List.mem_cons, List.not_mem_nil, or_false] at hb
    rcases hb with e | e
    · rw [e]; exact Nat.lt_succ_self _
    · rw [e]; exact Nat.lt_succ_of_lt ha
  · rw [hsz]
    exact List.length_pos_iff.mpr hne
  · intro v h' tk pv kp
    obtain ⟨b1, b2⟩ := argBest_best (f := fun i => ns.getD i 0) (its.toArray.size - 1)
    have hpos := List.length_pos_iff.mpr hne
    obtain ⟨t, rfl⟩ := vals_int_at rv _ v pv
    refine ⟨.int _, H, I.kept fun b o e => kp b o (fun z => ?_) (Heap.get?_push_of_some _ e), ⟨t, rfl⟩, qm _ ?_ fun y hy => ?_⟩
    · have z' : b = s.heap.objs.size := by simpa using z
      exact absurd (Heap.lt_size e) (by rw [z']; exact Nat.lt_irrefl _)
    · have hlt : argBest (fun i j => decide (ns.getD i 0 > ns.getD j 0)) (its.toArray.size - 1) < ns.length := by omega
      rw [List.getD_eq_getElem?_getD, List.getElem?_eq_getElem hlt]
      exact List.getElem_mem hlt
    · obtain ⟨i, hi, e⟩ := List.mem_iff_getElem.mp hy
      have := b2 i (by omega)
      have e2 : ns.getD i 0 = y := by rw [List.getD_eq_getElem?_getD, List.getElem?_eq_getElem hi]; exact e
      rw [e2] at this
      exact this
end
/-! ### data whose lists and tuples are tracked -/
mutual
inductive Dh (H : Hp) : V → PyData → Prop
  | non : Dh H .non .none
  | bl (b : Bool) : Dh H (.bl b) (.bool b)
  | int (i : Int) : Dh H (.int i) (.int i)
  | str (x : Str) : Dh H (.str x) (.str x)
  | lst {a : Addr} {xs : List V} {ds : List PyData} : H a = some (.lst xs) → Dhs H xs ds → Dh H (.ref a) (.list ds)
  | tup {a : Addr} {xs : List V} {ds : List PyData} : H a = some (.tup xs) → Dhs H xs ds → Dh H (.ref a) (.tuple ds)
inductive Dhs (H : Hp) : List V → List PyData → Prop
  | nil : Dhs H [] []
  | cons {v : V} {d : PyData} {vs : List V} {ds : List PyData} : Dh H v d → Dhs H vs ds → Dhs H (v :: vs) (d :: ds)
end
mutual
theorem Dh.dt {K : PySem.W.Frag} {H : Hp} : ∀ {v : V} {d : PyData}, Dh H v d → Dt K H v d
  | _, _, .non => .non
  | _, _, .bl b => .bl b
  | _, _, .int i => .int i
  | _, _, .str x => .str x
  | _, _, .lst e ds => .lst (SqL.of e) (Dhs.dts ds)
  | _, _, .tup e ds => .tup (SqT.of e) (Dhs.dts ds)
theorem Dhs.dts {K : PySem.W.Frag} {H : Hp} : ∀ {vs : List V} {ds : List PyData}, Dhs H vs ds → Dts K H vs ds
  | _, _, .nil => .nil
  | _, _, .cons d ds => .cons (Dh.dt d) (Dhs.dts ds)
end
/-- the lists and tuples stay -/
def SameD (H H' : Hp) : Prop := ∀ b, (∀ xs, H b = some (.lst xs) → H' b = some (.lst xs)) ∧ ∀ xs, H b = some (.tup xs) → H' b = some (.tup xs)
theorem Same.d {H H' : Hp} (s : Same H H') : SameD H H' := fun b => ⟨fun xs e => s b _ e, fun xs e => s b _ e⟩
mutual
theorem Dh.same {H H' : Hp} (s : SameD H H') : ∀ {v : V} {d : PyData}, Dh H v d → Dh H' v d
  | _, _, .non => .non
  | _, _, .bl b => .bl b
  | _, _, .int i => .int i
  | _, _, .str x => .str x
  | _, _, .lst e ds => .lst ((s _).1 _ e) (Dhs.same s ds)
  | _, _, .tup e ds => .tup ((s _).2 _ e) (Dhs.same s ds)
theorem Dhs.same {H H' : Hp} (s : SameD H H') : ∀ {vs : List V} {ds : List PyData}, Dhs H vs ds → Dhs H' vs ds
  | _, _, .nil => .nil
  | _, _, .cons d ds => .cons (Dh.same s d) (Dhs.same s ds)
end
mutual
def noL : PyData → Bool
  | .tuple ds => noLs ds
  | .none => true
  | .bool _ => true
  | .int _ => true
  | .str _ => true
  | _ => false
def noLs : List PyData → Bool
  | [] => true
  | d :: ds => noL d && noLs ds
end
mutual
/-- data without lists lean on the tuples alone -/
theorem Dh.sameT {H H' : Hp} (hT : ∀ b xs, H b = some (.tup xs) → H' b = some (.tup xs)) : ∀ {v : V} {d : PyData}, Dh H v d → noL d = true → Dh H' v d
  | _, _, .non, _ => .non
  | _, _, .bl b, _ => .bl b
  | _, _, .int i, _ => .int i
  | _, _, .str x, _ => .str x
  | _, _, .lst _ _, h => by simp [noL] at h
  | _, _, .tup e ds, h => .tup (hT _ _ e) (Dhs.sameT hT ds (by simpa [noL] using h))
theorem Dhs.sameT {H H' : Hp} (hT : ∀ b xs, H b = some (.tup xs) → H' b = some (.tup xs)) : ∀ {vs : List V} {ds : List PyData}, Dhs H vs ds → noLs ds = true → Dhs H' vs ds
  | _, _, .nil, _ => .nil
  | _, _, .cons d ds, h => by
    have h' := (Bool.and_eq_true _ _).mp (by simpa [noLs] using h : (noL _ && noLs _) = true)
    exact .cons (Dh.sameT hT d h'.1) (Dhs.sameT hT ds h'.2)
end
theorem noLs_append : ∀ (xs ys : List PyData), noLs (xs ++ ys) = (noLs xs && noLs ys)
  | [], ys => by simp [noLs]
  | x :: xs, ys => by
    show (noL x && noLs (xs ++ ys)) = ((noL x && noLs xs) && noLs ys)
    rw [noLs_append xs ys, Bool.and_assoc]
mutual
/-- no list or tuple in it is too long -/
def lenOk : PyData → Prop
  | .list ds => ds.length ≤ 100000 ∧ lensOk ds
  | .tuple ds => ds.length ≤ 100000 ∧ lensOk ds
  | .dict _ => False
  | _ => True
def lensOk : List PyData → Prop
  | [] => True
  | d :: ds => lenOk d ∧ lensOk ds
end
theorem lens_mem : ∀ {ds : List PyData} {d : PyData}, lensOk ds → d ∈ ds → lenOk d
  | e :: ds, d, h, hm => by
    have h : lenOk e ∧ lensOk ds := by simpa [lensOk] using h
    rcases List.mem_cons.mp hm with z | z
    · rw [z]; exact h.1
    · exact lens_mem h.2 z
theorem depth_mem : ∀ {ds : List PyData} {d : PyData}, d ∈ ds → d.depth ≤ PyData.depthAll ds
  | e :: ds, d, hm => by
    show d.depth ≤ max e.depth (PyData.depthAll ds)
    rcases List.mem_cons.mp hm with z | z
    · rw [z]; exact Nat.le_max_left _ _
    · exact Nat.le_trans (depth_mem z) (Nat.le_max_right _ _)
theorem Dhs.length {H : Hp} : ∀ {vs : List V} {ds : List PyData}, Dhs H vs ds → vs.length = ds.length
  | _, _, .nil => rfl
  | _, _, .cons _ ds => by rw [List.length_cons, List.length_cons, ds.length]
theorem Dhs.get {H : Hp} : ∀ {vs : List V} {ds : List PyData} {i : Nat} {v : V}, Dhs H vs ds → vs[i]? = some v → ∃ d, ds[i]? = some d ∧ Dh H v d
  | _, _, i, v, .nil, h => by simp at h
  | _, _, 0, v, .cons d _, h => by simp at h; subst h; exact ⟨_, rfl, d⟩
  | _, _, i + 1, v, .cons _ ds, h => by
    obtain ⟨d', h1, h2⟩ := ds.get (i := i) (v := v) (by simpa using h)
    exact ⟨d', by simpa using h1, h2⟩
theorem Dhs.snoc {H : Hp} : ∀ {vs : List V} {ds : List PyData} {v : V} {d : PyData}, Dhs H vs ds → Dh H v d → Dhs H (vs ++ [v]) (ds ++ [d])
  | _, _, _, _, .nil, h => .cons h .nil
  | _, _, _, _, .cons a r, h => .cons a (Dhs.snoc r h)
theorem dhs_ints {H : Hp} : ∀ ns : List Int, Dhs H (ns.map V.int) (ns.map PyData.int)
  | [] => .nil
  | n :: ns => .cons (.int n) (dhs_ints ns)
end L2

end

section
set_option maxHeartbeats 2000000
/-! Exceptions of own classes in the hand layer: raised, passed on by a def, caught by name. -/
namespace L2
open PySem PySem.Spec PyProof.Rows
section
variable {P : Program} {w : World} {H : Hp} {h h' h0 : Heap} {a x : Addr} {o : HO} {cls : Value}
theorem ObjOk.there (q : ObjOk P w H h a o) : ∃ u, h.get? a = some u := by
  cases o with
  | lst xs => obtain ⟨_, _, _, _, e⟩ := q; exact ⟨_, e⟩
  | tup xs => obtain ⟨_, _, _, _, e, _⟩ := q; exact ⟨_, e⟩
  | dK kvs => obtain ⟨_, _, _, _, _, _, _, e, _⟩ := q; exact ⟨_, e⟩
  | dT kvs => obtain ⟨_, _, _, _, _, _, _, e, _⟩ := q; exact ⟨_, e⟩
  | set S n => obtain ⟨_, _, _, _, e, _⟩ := q; exact ⟨_, e⟩
  | ins C dx fs => obtain ⟨_, _, _, e, _⟩ := q; exact ⟨_, e⟩
  | own y => exact q
  | xd fs => obtain ⟨_, ⟨_, _, _, e, _⟩, _⟩ := q; exact ⟨_, e⟩
  | rng lo hi => obtain ⟨_, _, _, e⟩ := q; exact ⟨_, e⟩
  | frz ob u => obtain ⟨e, _⟩ := q; exact ⟨_, e⟩
  | tbl ps => exact ⟨_, (show h.get? a = some _ from q)⟩
  | met f y => exact ⟨_, (show h.get? a = some _ from q)⟩
  | ext φ => obtain ⟨_, e, _⟩ := q; exact e
/-- the tracked objects are kept -/
theorem HOk.same (q : HOk P w H h) (k : ∀ b u v, H b = some v → h.get? b = some u → h'.get? b = some u) : HOk P w H h' := fun b v e =>
  (q b v e).stay (fun c u hc r => by
    rcases hc with z | z
    · subst z; exact k c u v e r
    · exact k c u _ z r) (fun _ r => r) fun _ _ r => r
/-- an exception in flight: it and its trace are new since h0, and not tracked -/
def Fly (h0 : Heap) (H : Hp) (x : Addr) (cls : Value) (h : Heap) : Prop :=
  ∃ oe vs a0 T oT ts, h.get? x = some oe ∧ (oe.cls = cls ∧ vs[0]? = some a0) ∧ oe.data = .fields vs ∧ vs[1]? = some (.ref T) ∧ T ≠ x ∧ h.get? T = some oT ∧ oT.data = .fields ts ∧ ts[3]? = some .none ∧
    (h0.get? x = none ∧ H x = none) ∧ h0.get? T = none ∧ H T = none
theorem none_of {h1 h2 : Heap} {b : Addr} (k : ∀ b o, h1.get? b = some o → ∃ o', h2.get? b = some o') (n : h2.get? b = none) : h1.get? b = none := by
  cases e : h1.get? b with
  | none => rfl
  | some o =>
    obtain ⟨o', e'⟩ := k b o e
    rw [n] at e'; cases e'
theorem Fly.older {h1 : Heap} (f : Fly h0 H x cls h) (k : ∀ b o, h1.get? b = some o → ∃ o', h0.get? b = some o') : Fly h1 H x cls h := by
  obtain ⟨oe, vs, a0, T, oT, ts, e1, e2, e3, e4, e5, e6, e7, e8, ⟨e9, e10⟩, e11, e12⟩ := f
  exact ⟨oe, vs, a0, T, oT, ts, e1, e2, e3, e4, e5, e6, e7, e8, ⟨none_of k e9, e10⟩, none_of k e11, e12⟩
theorem frs_mem {l : List Env} {env : Env} {b : Addr} (he : env ∈ l) (hb : env.frame = some b) : b ∈ frs l := List.mem_filterMap.mpr ⟨env, he, hb⟩
/-- what a turn of the trace keeps -/
def Keeps (h0 : Heap) (H : Hp) (l : List Env) (h h' : Heap) : Prop :=
  (∀ b u, h.get? b = some u → b ∉ frs l → ((∃ v, H b = some v) ∨ (∃ v, h0.get? b = some v) ∨ ∀ vs, u.data ≠ .fields vs) → h'.get? b = some u) ∧
  ∀ b u, h.get? b = some u → b ∈ frs l → ∃ sl, h'.get? b = some { u with slots := sl }
theorem fly_step {B : Heap} {l : List Env} (hok : HOk P w H h) (ff : h.FunFrames B l) (fr : ∀ b ∈ frs l, H b = none) (fl : Fly h0 H x cls h)
    (old : ∀ b v, h0.get? b = some v → ∃ v', h.get? b = some v') :
    ∃ Bx a0, Heap.FlyingW Bx l x cls a0 h ∧ ∀ l' h', Heap.FlyingW Bx l' x cls a0 h' → h.UpToSlots h' → Fly h0 H x cls h' ∧ HOk P w H h' ∧ Keeps h0 H l h h' := by
  obtain ⟨oe, vs, a0, T, oT, ts, e1, e2, e3, e4, e5, e6, e7, e8, ⟨e9, e10⟩, e11, e12⟩ := fl
  have mx : x ∈ x :: T :: frs l := List.mem_cons_self
  have mT : T ∈ x :: T :: frs l := List.mem_cons_of_mem _ List.mem_cons_self
  have mf : ∀ b, b ∈ frs l → b ∈ x :: T :: frs l := fun b z => List.mem_cons_of_mem _ (List.mem_cons_of_mem _ z)
  refine ⟨PySem.W.hideAll h (x :: T :: frs l), a0, ⟨fun b u e => PySem.W.of_hideAll _ e, PySem.W.hideAll_none _ mx, PySem.W.funFrames_hide ff fun env he b hb => mf b (frs_mem he hb),
    oe, vs, T, oT, ts, e1, e2, e3, e4, PySem.W.hideAll_none _ mT, e5, e6, e7, e8⟩, fun l' h' fl' up => ?_⟩
  have nf : ∀ b u, h.get? b = some u → b ∈ frs l → ∀ ws, u.data ≠ .fields ws := fun b u e hb => by
    obtain ⟨_, u', e', d⟩ := ff.mem hb
    rw [e] at e'; cases e'; exact d
  have keep : ∀ b u, h.get? b = some u → b ∉ frs l → b ≠ x → b ≠ T → h'.get? b = some u := fun b u e n1 n2 n3 =>
    fl'.1 b u (PySem.W.hideAll_get _ e fun hm => by
      rcases List.mem_cons.mp hm with z | z
      · exact n2 z
      · rcases List.mem_cons.mp z with z | z
        · exact n3 z
        · exact n1 z)
  have slot : ∀ b u, h.get? b = some u → b ∈ frs l → ∃ sl, h'.get? b = some { u with slots := sl } := fun b u e hb => up b u e (nf b u e hb)
  obtain ⟨oe', vs', T', oT', ts', q1, q2, q3, q4, q5, q6, q7, q8, q9⟩ := fl'.2.2.2
  have sameT : ∀ u, h.get? T' = some u → T' = T := fun u e => by
    by_cases hb : T' ∈ frs l
    · obtain ⟨sl, e'⟩ := slot T' u e hb
      rw [q7] at e'; cases e'
      exact absurd q8 (nf T' u e hb ts')
    · by_cases hT : T' = T
      · exact hT
      · have := PySem.W.hideAll_get (x :: T :: frs l) e fun hm => by
          rcases List.mem_cons.mp hm with z | z
          · exact q6 z
          · rcases List.mem_cons.mp z with z | z
            · exact hT z
            · exact hb z
        rw [q5] at this; cases this
  refine ⟨⟨oe', vs', a0, T', oT', ts', q1, q2, q3, q4, q6, q7, q8, q9, ⟨e9, e10⟩, ?_, ?_⟩, hok.same fun b u v e r => ?_, fun b u e hb hc => ?_, slot⟩
  · cases z : h0.get? T' with
    | none => rfl
    | some u =>
      obtain ⟨u', e'⟩ := old T' u z
      rw [sameT u' e', e11] at z; cases z
  · cases z : H T' with
    | none => rfl
    | some v =>
      obtain ⟨u', e'⟩ := (hok T' v z).there
      rw [sameT u' e', e12] at z; cases z
  · refine keep b u r (fun hb => ?_) (fun z => ?_) fun z => ?_
    · rw [fr b hb] at e; cases e
    · rw [z, e10] at e; cases e
    · rw [z, e12] at e; cases e
  · refine keep b u e hb (fun z => ?_) fun z => ?_
    · subst z
      rcases hc with ⟨v, c⟩ | ⟨v, c⟩ | c
      · rw [e10] at c; cases c
      · rw [e9] at c; cases c
      · rw [e1] at e; cases e; exact c vs e3
    · subst z
      rcases hc with ⟨v, c⟩ | ⟨v, c⟩ | c
      · rw [e12] at c; cases c
      · rw [e11] at c; cases c
      · rw [e6] at e; cases e; exact c ts e7
end

section
variable {X : Cx} {pins : List (Addr × Obj)} {σ : St} {H : Hp} {s : Shared} {hc h' : Heap}
/-- what hc, the heap ahead of the call that raised, holds -/
structure Older (X : Cx) (pins : List (Addr × Obj)) (hc h : Heap) : Prop where
  s0 : ∀ b o, X.s₀.heap.get? b = some o → b ∉ X.ex → ∃ o', hc.get? b = some o'
  pin : ∀ p ∈ X.pn ++ pins, ∃ o, hc.get? p.1 = some o
  here : ∀ b o, hc.get? b = some o → ∃ o', h.get? b = some o'
theorem Inv.unK (I : Inv X pins σ H s) (O : Older X pins hc s.heap) (k : Keeps hc H X.stack s.heap h') : Un X.fs X.ex X.H₀ H X.s₀.heap h' := by
  have nl : ∀ b o, X.s₀.heap.get? b = some o → b ≠ X.env.locals := fun b o e => Nat.ne_of_lt (Nat.lt_of_lt_of_le (Heap.lt_size e) I.ok.above)
  refine ⟨fun b o e n hb hx => ?_, fun b o e n hb hx => ?_, I.base.free, fun b o e hx => ?_, I.base.tups, I.base.frzs, I.base.tbls⟩
  · refine k.1 b o (I.base.keep b o e n hb hx) (fun z => ?_) (.inr (.inl (O.s0 b o e hx)))
    rcases List.mem_cons.mp (I.stkSub b z) with z | z
    · exact nl b o e z
    · exact hb z
  · obtain ⟨sl, e1⟩ := I.base.slot b o e n hb hx
    by_cases z : b ∈ frs X.stack
    · obtain ⟨sl', e2⟩ := k.2 b _ e1 z
      exact ⟨sl', e2⟩
    · exact ⟨sl, k.1 b _ e1 z (.inr (.inl (O.s0 b o e hx)))⟩
  · obtain ⟨o', e1⟩ := I.base.there b o e hx
    by_cases z : b ∈ frs X.stack
    · obtain ⟨sl', e2⟩ := k.2 b _ e1 z
      exact ⟨_, e2⟩
    · exact ⟨_, k.1 b _ e1 z (.inr (.inl (O.s0 b o e hx)))⟩
theorem Inv.flown (I : Inv X pins σ H s) (O : Older X pins hc s.heap) (k : Keeps hc H X.stack s.heap h') (hok : HOk X.prog X.w H h') : Inv X pins σ H { s with heap := h' } := by
  have cellK : ∀ c v, s.heap.IsCell c v → h'.IsCell c v := fun c v ⟨o, ho, hd⟩ => by
    by_cases z : c ∈ frs X.stack
    · obtain ⟨sl, e⟩ := k.2 c o ho z
      exact ⟨_, e, hd⟩
    · exact ⟨o, k.1 c o ho z (.inr (.inr fun vs q => by rw [hd] at q; cases q)), hd⟩
  refine ⟨I.ok, I.os, I.bare, I.unK O k, ?_, fun y c e => ?_, I.free, I.freeC, fun p hp => ?_, hok, I.len⟩
  · obtain ⟨m, ⟨o, es, ep, ho, hd, r⟩, hl⟩ := I.loc
    have hn : h'.Ns X.env.locals m := by
      by_cases z : X.env.locals ∈ frs X.stack
      · obtain ⟨sl, e⟩ := k.2 _ o ho z
        exact ⟨_, es, ep, e, hd, r⟩
      · exact ⟨o, es, ep, k.1 _ o ho z (.inr (.inr fun vs q => by rw [hd] at q; cases q)), hd, r⟩
    refine ⟨m, hn, fun i y v e1 e2 e3 => ?_⟩
    obtain ⟨u, ru, l⟩ := hl i y v e1 e2 e3
    refine ⟨u, ru, ?_⟩
    rcases l with l | ⟨kd, c, e, z⟩
    · exact .inl l
    · exact .inr ⟨kd, c, e, cellK c _ z⟩
  · obtain ⟨v, z⟩ := I.cell y c e
    exact ⟨v, cellK c v z⟩
  · obtain ⟨e, n, ne, nf, d⟩ := I.pin p hp
    refine ⟨k.1 p.1 p.2 e (fun z => ?_) (.inr (.inl (O.pin p hp))), n, ne, nf, d⟩
    rcases List.mem_cons.mp (I.stkSub _ z) with z | z
    · exact ne z
    · exact nf z
end

/-! ### passing on -/
def CX1 (P : Program) (w : World) : CXT := fun outer H s E e s' => ∃ x C H', e = .ref x ∧ s'.os = s.os ∧ AllBare s'.gens ∧ Un (frs outer) [] H H' s.heap s'.heap ∧ HOk P w H' s'.heap ∧ Fly s.heap H' x (.ref C) s'.heap ∧ E (.ref C) none H'
section
variable {P : Program} {w : World} {K : PySem.W.Frag} {mg : Str → Option Value} {base : Heap} {N : List Str} {qual : Str} {scope : Scope} {f : Addr} {cd : Value} {A : Around} {outer : List Env} {s : Shared} {H : Hp} {E : XK}
abbrev cx1 (P : Program) (w : World) (K : PySem.W.Frag) (mg : Str → Option Value) (base : Heap) (N : List Str) (qual : Str) (scope : Scope) (f : Addr) (cd : Value) (A : Around) (outer : List Env) (s : Shared) (H : Hp) (E : XK) : Cx :=
  cxOf (CX1 P w) P w K mg base N qual scope f cd A outer s H E
theorem older_here {X : Cx} {pins : List (Addr × Obj)} {σ : St} {H : Hp} {s : Shared} (I : Inv X pins σ H s) (hx : X.ex = []) : ∀ b o, X.s₀.heap.get? b = some o → ∃ o', s.heap.get? b = some o' := fun b o e => I.base.there b o e (by rw [hx]; simp)
theorem leave1 {pins : List (Addr × Obj)} {σ : St} {H' : Hp} {s' : Shared} {x C : Addr} (I : Inv (cx1 P w K mg base N qual scope f cd A outer s H E) pins σ H' s') (fl : Fly s.heap H' x (.ref C) s'.heap) (q : E (.ref C) none H') :
    (cx1 P w K mg base N qual scope f cd A outer s H E).xe (.ref x) s' := by
  obtain ⟨Bx, a0, f1, f2⟩ := fly_step I.hok I.stack I.stkFree fl (older_here I rfl)
  show wpAny _ _ (leaving _ _) _ _ _
  refine wpAny_leaves_onW I.ok.frames rfl f1 fun h' fl' up => ?_
  obtain ⟨g1, g2, g3⟩ := f2 _ h' fl' up
  have nl : ∀ b o, s.heap.get? b = some o → b ≠ (cx1 P w K mg base N qual scope f cd A outer s H E).env.locals := fun b o e => Nat.ne_of_lt (Nat.lt_of_lt_of_le (Heap.lt_size e) I.ok.above)
  have ne : ∀ b : Addr, b ∉ (cx1 P w K mg base N qual scope f cd A outer s H E).ex := fun b z => nomatch z
  refine ⟨x, C, H', rfl, I.os, I.bare, ⟨fun b o e n hb _ => ?_, fun b o e n hb _ => ?_, fun b o e n _ => I.base.free b o e n (ne b), fun b o e _ => ?_, I.base.tups, I.base.frzs, I.base.tbls⟩, g2, g1, q⟩
  · refine g3.1 b o (I.base.keep b o e n hb (ne b)) (fun z => ?_) (.inr (.inl ⟨o, e⟩))
    rcases List.mem_cons.mp (I.stkSub b z) with z | z
    · exact nl b o e z
    · exact hb z
  · obtain ⟨sl, e1⟩ := I.base.slot b o e n hb (ne b)
    by_cases z : b ∈ frs (cx1 P w K mg base N qual scope f cd A outer s H E).stack
    · obtain ⟨sl', e2⟩ := g3.2 b _ e1 z
      exact ⟨sl', e2⟩
    · exact ⟨sl, g3.1 b _ e1 z (.inr (.inl ⟨o, e⟩))⟩
  · obtain ⟨o', e1⟩ := I.base.there b o e (ne b)
    by_cases z : b ∈ frs (cx1 P w K mg base N qual scope f cd A outer s H E).stack
    · obtain ⟨sl', e2⟩ := g3.2 b _ e1 z
      exact ⟨_, e2⟩
    · exact ⟨_, g3.1 b _ e1 z (.inr (.inl ⟨o, e⟩))⟩
theorem pass1 : Passes (CX1 P w) (cx1 P w K mg base N qual scope f cd A outer s H E) E := fun pins σ H1 s1 e s' I hx => by
  obtain ⟨x, C, H', rfl, os, bare, un, hok, fl, q⟩ := hx
  have I' := I.call' (ch := []) os un hok bare (fun _ z => nomatch z)
  exact leave1 I' (fl.older (older_here I rfl)) q
/-- what was made, and flies from here -/
theorem leave_made {pins : List (Addr × Obj)} {σ : St} {H' : Hp} {s' : Shared} {x C : Addr} {vs : List Value} {h1 : Heap} (I : Inv (cx1 P w K mg base N qual scope f cd A outer s H E) pins σ H' s') (hx : Heap.MadeExcOf s'.heap h1 x (.ref C) vs) (q : E (.ref C) none H') :
    (cx1 P w K mg base N qual scope f cd A outer s H E).xe (.ref x) { s' with heap := h1 } := by
  show wpAny _ _ (leaving _ _) _ _ _
  have mf : ∀ env ∈ (cx1 P w K mg base N qual scope f cd A outer s H E).stack, ∀ b, env.frame = some b → b ∈ frs (cx1 P w K mg base N qual scope f cd A outer s H E).stack := fun env he b hb => frs_mem he hb
  refine wpAny_leaves_madeW (s := { s' with heap := h1 }) (base := PySem.W.hideAll s'.heap (frs (cx1 P w K mg base N qual scope f cd A outer s H E).stack)) (h := s'.heap) I.ok.frames rfl (fun b o e => PySem.W.of_hideAll _ e) (PySem.W.funFrames_hide I.stack mf) hx fun h' t fl' _ _ up => ?_
  have nl : ∀ b o, s.heap.get? b = some o → b ≠ (cx1 P w K mg base N qual scope f cd A outer s H E).env.locals := fun b o e => Nat.ne_of_lt (Nat.lt_of_lt_of_le (Heap.lt_size e) I.ok.above)
  have ne : ∀ b : Addr, b ∉ (cx1 P w K mg base N qual scope f cd A outer s H E).ex := fun b z => nomatch z
  have keep : ∀ b u, s'.heap.get? b = some u → b ∉ frs (cx1 P w K mg base N qual scope f cd A outer s H E).stack → h'.get? b = some u := fun b u e n => fl'.1 b u (PySem.W.hideAll_get _ e n)
  have slot : ∀ b u, s'.heap.get? b = some u → b ∈ frs (cx1 P w K mg base N qual scope f cd A outer s H E).stack → ∃ sl, h'.get? b = some { u with slots := sl } := fun b u e hb => by
    obtain ⟨_, u', e', d⟩ := I.stack.mem hb
    rw [e] at e'; cases e'
    exact up b u (hx.keeps b u e) d
  have free : ∀ b v, H' b = some v → b ∉ frs (cx1 P w K mg base N qual scope f cd A outer s H E).stack := fun b v e hb => by rw [I.stkFree b hb] at e; cases e
  obtain ⟨oe, ws, T, oT, ts, q1, q2, q3, q4, q5, q6, q7, q8, q9⟩ := fl'.2.2.2
  have nT : ∀ u, s'.heap.get? T = some u → False := fun u e => by
    by_cases hb : T ∈ frs (cx1 P w K mg base N qual scope f cd A outer s H E).stack
    · obtain ⟨_, u', e', d⟩ := I.stack.mem hb
      rw [e] at e'; cases e'
      obtain ⟨sl, e2⟩ := slot T u e hb
      rw [q7] at e2; cases e2
      exact d ts q8
    · have := PySem.W.hideAll_get _ e hb
      rw [q5] at this; cases this
  have oldNone : ∀ b, (∀ u, s'.heap.get? b = some u → False) → s.heap.get? b = none ∧ H' b = none := fun b hn => by
    constructor
    · cases z : s.heap.get? b with
      | none => rfl
      | some u =>
        obtain ⟨u', e'⟩ := I.base.there b u z (ne b)
        exact (hn u' e').elim
    · cases z : H' b with
      | none => rfl
      | some v =>
        obtain ⟨u', e'⟩ := (I.hok b v z).there
        exact (hn u' e').elim
  have nx := oldNone x fun u e => by rw [hx.new] at e; cases e
  have nT' := oldNone T nT
  refine ⟨x, C, H', rfl, I.os, I.bare, ⟨fun b o e n hb _ => ?_, fun b o e n hb _ => ?_, fun b o e n _ => I.base.free b o e n (ne b), fun b o e _ => ?_, I.base.tups, I.base.frzs, I.base.tbls⟩, I.hok.same fun b u v e r => keep b u r (free b v e), ⟨oe, ws, _, T, oT, ts, q1, q2, q3, q4, q6, q7, q8, q9, nx, nT'.1, nT'.2⟩, q⟩
  · refine keep b o (I.base.keep b o e n hb (ne b)) fun z => ?_
    rcases List.mem_cons.mp (I.stkSub b z) with z | z
    · exact nl b o e z
    · exact hb z
  · obtain ⟨sl, e1⟩ := I.base.slot b o e n hb (ne b)
    by_cases z : b ∈ frs (cx1 P w K mg base N qual scope f cd A outer s H E).stack
    · obtain ⟨sl', e2⟩ := slot b _ e1 z
      exact ⟨sl', e2⟩
    · exact ⟨sl, keep b _ e1 z⟩
  · obtain ⟨o', e1⟩ := I.base.there b o e (ne b)
    by_cases z : b ∈ frs (cx1 P w K mg base N qual scope f cd A outer s H E).stack
    · obtain ⟨sl', e2⟩ := slot b _ e1 z
      exact ⟨_, e2⟩
    · exact ⟨_, keep b _ e1 z⟩
/-- the rule for a def that may raise -/
theorem Fun.ok1 {x qual : Str} {st : Stmt} {f : Addr} {fd : FuncData} {N ps : List Str} {k : Nat} {sp : Sp} (F : Fun K x qual st f fd) (S : FnScope N ps (defScope st)) (len : ∀ vs H Q E, sp vs H Q E → vs.length = ps.length)
    (hbody : ∀ (cdv : Value) (A : Around) (outer : List Env) (s : Shared) (H : Hp) (vs : List V) (Q : VK) (E : XK), Room k (A.deeper (envOfC qual (defScope st) s.heap.objs.size f cdv)) → sp vs H Q E →
      ∃ t, PSs (cx1 P w K mg base N qual (defScope st) f cdv A outer s H E) (defBody st) t ∧ t { nx := fun _ H' => Q .non H', rt := Q } (start N vs) H) : FnOk P w K mg base (CX1 P w) (k + 1) f fd ps sp := by
  obtain ⟨oc, od, kV, doc, pm, an, cdv, ct, osl, rfl, lk, hcd⟩ := F.ex
  exact fn_of lk hcd S len fun A outer s H vs Q E hr hsp => hbody cdv A outer s H vs Q E hr hsp
end
/-! ### raise -/
section
variable {P : Program} {w : World} {K : PySem.W.Frag} {mg : Str → Option Value} {base : Heap} {N : List Str} {qual : Str} {scope : Scope} {f : Addr} {cd : Value} {A : Around} {outer : List Env} {s : Shared} {H : Hp} {E : XK}
abbrev valMro : List Value := [.type "ValueError", .type "Exception", .type "BaseException", .type "object"]
/-- the class of an error of our own, as the top has made it -/
structure Er (K : PySem.W.Frag) (mg : Str → Option Value) (x : Str) (C : Addr) : Prop where
  mg : mg x = some (.ref C)
  ex : PySem.W.excIn K C valMro "ValueError.__new__" = true
theorem Er.obj {x : Str} {C : Addr} {h : Heap} (e : Er K mg x C) (X : K.In h) : ∃ bm N nm q bs hdct sn sub ab col dd k0 k1 k2 k3 k5 mN, h.get? C = some (excClassObj nm q C N bs bm hdct sn sub ab col dd k0 k1 k2 k3 k5 "ValueError.__new__") ∧ h.Ns N mN ∧ mN "__init__" = none ∧ OwnTail h valMro bm := by
  have q := e.ex
  unfold PySem.W.excIn at q
  split at q
  · rename_i dict cdat slots look
    split at q
    · rename_i C2 tail s0 s1 s2 s3 nw s5 hmro hslots
      rw [Bool.and_eq_true, Bool.and_eq_true, Bool.and_eq_true, Bool.and_eq_true, Bool.and_eq_true] at q
      obtain ⟨⟨⟨⟨⟨qa, qb⟩, qc⟩, qd⟩, qe⟩, qf⟩ := q
      replace qa := beq_iff_eq.mp qa
      replace qb := beq_iff_eq.mp qb
      replace qf := beq_iff_eq.mp qf
      replace qc : cdat.hasDel = false := by simpa using qc
      subst qa qb
      obtain ⟨l⟩ := slots
      replace hslots : l = [s0, s1, s2, s3, some (.builtin "ValueError.__new__"), s5] := hslots
      subst hslots
      cases cdat
      dsimp only at hmro qc qe qf
      subst hmro qc
      exact ⟨_, _, _, _, _, _, _, _, _, _, _, _, _, _, _, _, _, X _ _ look, .of_isNs (PySem.W.isNs_of_in X qe), PySem.W.nsMap_none_of_in X qe qf, PySem.W.tail_of_in X qd⟩
    · cases q
  · cases q
def tRaise (C : Addr) (E : XK) (t : TA) : TS := fun _ σ H => t σ H fun vs H' => vs.length ≤ sizeLine ∧ E (.ref C) none H'
theorem ps_raise {x : Str} {C : Addr} {e0 : Expr} {es : List Expr} {t : TA} {np cpos pos : Pos} (er : Er K mg x C) (hg : Gl (cx1 P w K mg base N qual scope f cd A outer s H E) x) (ha : PA (cx1 P w K mg base N qual scope f cd A outer s H E) (e0 :: es) t) (hdb : (x == ("__debug__" : Str)) = false := by decide)
    (he : starEach (e0 :: es) (cx1 P w K mg base N qual scope f cd A outer s H E).env = (false, eval e0 (cx1 P w K mg base N qual scope f cd A outer s H E).env) :: starEach es (cx1 P w K mg base N qual scope f cd A outer s H E).env := by rfl)
    (hpl : (backTo cpos (starEach es (cx1 P w K mg base N qual scope f cd A outer s H E).env)).any (·.1) = false := by rfl) :
    PS (cx1 P w K mg base N qual scope f cd A outer s H E) (.Raise (some (.Call (.Name x np) (e0 :: es) [] cpos)) none pos) (tRaise C E t) := by
  intro pins s1 σ H1 D I h
  obtain ⟨bm, N', nm, q, bs, hdct, sn, sub, ab, col, dd, k0, k1, k2, k3, k5, mN, hC, hN, hni, T⟩ := er.obj I.mod.kin
  have hp2 : (backTo cpos (starEach (e0 :: es) (cx1 P w K mg base N qual scope f cd A outer s H E).env)).any (·.1) = false := by
    rw [he]
    exact hpl
  refine wpAny_Raise_call_subT (C := C) (nm := nm) (q := q) (N := N') (bs := bs) (bm := bm) (hdct := hdct) (sn := sn) (sub := sub) (ab := ab) (col := col) (dd := dd) (k0 := k0) (k1 := k1) (k2 := k2) (k3 := k3) (k5 := k5)
    PySem.F.excBase_ValueError (mN := mN) (T.hasType (by rfl)) (I.ok.hd rfl) hp2 hni (ld_glob I hg er.mg ⟨rfl, ?_⟩ hdb)
  have go := ha cpos pins s1 σ H1 _ I h
  rw [he] at go ⊢
  refine Calls.evalArgs_plain (thn go fun us s2 hq => ?_)
  obtain ⟨vs, H2, I2, r, ql, qe⟩ := hq
  refine ⟨rfl, by show us.length ≤ sizeLine; rw [← r.length]; exact ql, I2.bk _ _ hC, hN.keeps I2.bk, T.keeps I2.bk, fun h' e hm => ?_⟩
  exact leave_made I2 hm qe
end
/-! ### a def that may raise, called -/
structure Def1 (P : Program) (w : World) (K : PySem.W.Frag) (mg : Str → Option Value) (base : Heap) (x : Str) (k : Nat) (ps : List Str) (sp : Sp) : Prop where
  ex : ∃ f fd, mg x = some (.ref f) ∧ PySem.W.keepIn K (.ref f) = true ∧ Binds K fd ps [] ∧ FnOk P w K mg base (CX1 P w) k f fd ps sp
structure MDef1 (P : Program) (w : World) (K : PySem.W.Frag) (mg : Str → Option Value) (base : Heap) (C : Addr) (m : Str) (k : Nat) (ps : List Str) (sp : Sp) : Prop where
  cl : Cls K C
  ex : ∃ f fd, Meth K C m f ∧ Binds K fd ps [] ∧ FnOk P w K mg base (CX1 P w) k f fd ps sp
section
variable {X : Cx} {k : Nat} {C : Addr} {ps : List Str} {sp : Sp} {x m : Str} {p pos apos : Pos} {e o : Expr} {es : List Expr} {ta : TE} {t : TA} {E : XK}
theorem pe_def1 (D : Def1 X.prog X.w X.K X.mg X.base x k ps sp) (hx : Passes (CX1 X.prog X.w) X E) (hr : Room k X.A) (hg : Gl X x) (ha : PA X (e :: es) t) (hdb : (x == ("__debug__" : Str)) = false := by decide)
    (he : starEach (e :: es) X.env = (false, eval e X.env) :: starEach es X.env := by rfl) (hpl : (backTo pos (starEach es X.env)).any (·.1) = false := by rfl) : PE X (.Call (.Name x p) (e :: es) [] pos) (tCall sp [] E t) := by
  obtain ⟨f, fd, h1, h2, h3, h4⟩ := D.ex
  exact pe_call h4 hr hg h1 h2 h3 .nil hx ha hdb he hpl
theorem pe_mdef1 {pl : Sem Bool} (ho : PE X o ta) (D : MDef1 X.prog X.w X.K X.mg X.base C m k ps sp) (hx : Passes (CX1 X.prog X.w) X E) (hr : Room k X.A) (ha : PA X (e :: es) t)
    (hst : starEach (e :: es) X.env = (false, eval e X.env) :: starEach es X.env := by rfl) (hpl : (backTo pos (starEach es X.env)).any (·.1) = false := by rfl)
    (ht : eval (.Call (.Attribute o m apos) (e :: es) [] pos) X.env = (do
      let ov ← eval o X.env
      standAt apos.atName
      let (f, first) ← holding [ov] (getMethod ov m pl)
      callWith pos f first (backTo pos (starEach (e :: es) X.env)) (backToKw pos (keywordEach [] X.env))) := by rfl) :
    PE X (.Call (.Attribute o m apos) (e :: es) [] pos) (tMeth C m sp [] E ta t) := by
  obtain ⟨f, fd, h1, h3, h4⟩ := D.ex
  exact pe_meth ho D.cl h1 h4 hr h3 .nil hx ha hst hpl ht
theorem PS.nox {st : Stmt} {t : TS} (h : PS X.nox st t) : PS X st t := fun pins s σ H D I hw =>
  wpAny_mono (h pins s σ H D (I.wish _) hw) (fun _ _ q => q.unwish) fun _ _ z => False.elim z
end
/-! ### try .. except NAME: suite -/
section
variable {X : Cx} {pins : List (Addr × Obj)} {σ : St} {H : Hp} {s : Shared}
def Caught (X : Cx) (pins : List (Addr × Obj)) (XE : XK) : Value → Shared → Prop := fun e s' => ∃ x C H' σ' hc, e = .ref x ∧ Inv X pins σ' H' s' ∧ Fly hc H' x (.ref C) s'.heap ∧ Older X pins hc s'.heap ∧ XE (.ref C) none H'
abbrev tryX (X : Cx) (pins : List (Addr × Obj)) (XE : XK) : Cx := { X with pn := X.pn ++ pins, xe := Caught X pins XE }
theorem Cx.Ok.tryX (ok : X.Ok) (pins : List (Addr × Obj)) (XE : XK) : (tryX X pins XE).Ok :=
  ⟨ok.mod, ok.kind, ok.glob, ok.blt, ok.above, ok.inj, ok.has, ok.cab, ok.hd, ok.frames, ok.stk, ok.exf, ok.bs, ok.bsz, ok.noex, ok.exfs, ok.funs, ok.frf⟩
theorem Cx.Ok.unTry {pins : List (Addr × Obj)} {XE : XK} (ok : (L2.tryX X pins XE).Ok) : X.Ok :=
  ⟨ok.mod, ok.kind, ok.glob, ok.blt, ok.above, ok.inj, ok.has, ok.cab, ok.hd, ok.frames, ok.stk, ok.exf, ok.bs, ok.bsz, ok.noex, ok.exfs, ok.funs, ok.frf⟩
theorem Inv.tryX (I : Inv X pins σ H s) (XE : XK) : Inv (tryX X pins XE) [] σ H s :=
  ⟨I.ok.tryX pins XE, I.os, I.bare, I.base, I.loc, I.cell, I.free, I.freeC, fun p hp => I.pin p (by simpa using hp), I.hok, I.len⟩
theorem Inv.unTry {pins' : List (Addr × Obj)} {XE : XK} (I : Inv (L2.tryX X pins XE) pins' σ H s) : Inv X pins σ H s :=
  ⟨I.ok.unTry, I.os, I.bare, I.base, I.loc, I.cell, I.free, I.freeC, fun p hp => I.pin p (List.mem_append_left _ hp), I.hok, I.len⟩
theorem SP.unTry {XE : XK} {D : Ends} {f : Flow} {s' : Shared} (h : SP (tryX X pins XE) [] D f s') : SP X pins D f s' := by
  cases f with
  | next => obtain ⟨σ', H', I, q⟩ := h; exact ⟨σ', H', I.unTry, q⟩
  | brk => obtain ⟨σ', H', I, q⟩ := h; exact ⟨σ', H', I.unTry, q⟩
  | cont => obtain ⟨σ', H', I, q⟩ := h; exact ⟨σ', H', I.unTry, q⟩
  | ret u => obtain ⟨v, σ', H', I, r, q⟩ := h; exact ⟨v, σ', H', I.unTry, r, q⟩
theorem passT {XE : XK} : Passes (CX1 X.prog X.w) (tryX X pins XE) XE := fun pins' σ H1 s1 e s' I hx => by
  obtain ⟨x, C, H', rfl, os, bare, un, hok, fl, q⟩ := hx
  have I' := I.call' (ch := []) os un hok bare (fun _ z => nomatch z)
  refine ⟨x, C, H', σ, s1.heap, rfl, I'.unTry, fl, ⟨fun b o e hb => I.base.there b o e hb, fun p hp => ⟨_, (I.pin p (List.mem_append_left _ hp)).1⟩, fun b o e => un.there b o e (by simp)⟩, q⟩
/-- the handlers, for an exception of the class cls -/
def PH (X : Cx) (hs : List ExceptHandler) (cls : Value) (t : TS) : Prop := ∀ (pins : List (Addr × Obj)) (s : Shared) (σ : St) (H : Hp) (D : Ends) (x : Addr) (hc : Heap), Inv X pins σ H s → Fly hc H x cls s.heap → Older X pins hc s.heap → t D σ H →
  wpAny (model X.prog X.w) X.A (handleBy (.ref x) X.env hs) (SP X pins D) X.xe s
def tTry (X : Cx) (hs : List ExceptHandler) (tb : XK → TS) : TS := fun D σ H => tb (fun cls _ H' => ∃ t, PH X hs cls t ∧ ∀ σ', t D σ' H') D σ H
theorem ps_try {body : List Stmt} {h0 : ExceptHandler} {hs : List ExceptHandler} {pos : Pos} {tb : XK → TS} (hst : X.stack = X.env :: X.outer) (hf : X.env.frame = some X.env.locals) (hb : ∀ pins XE, PSs (tryX X pins XE) body (tb XE)) :
    PS X (.Try body (h0 :: hs) [] [] pos) (tTry X (h0 :: hs) tb) := by
  intro pins s σ H D I h
  refine wpAny_Try_except (wpAny_mono (hb pins _ [] s σ H D (I.tryX _) h) (fun f s1 q => ?_) fun e s1 q => ?_)
  · have q := SP.unTry q
    cases f with
    | next => exact wpAny_execs_nil q
    | ret v => exact q
    | brk => exact q
    | cont => exact q
  · obtain ⟨x, C, H', σ', hc, rfl, I1, fl, O, t, ht, q⟩ := q
    obtain ⟨Bx, a0, f1, f2⟩ := fly_step I1.hok I1.stack I1.stkFree fl O.here
    rw [hst] at f1
    refine wpAny_looks_onW (by rw [← hst]; exact I1.ok.frames) hf f1 fun h4 held up4 => wpAny_landsW held fun h5 fl5 up5 => ?_
    obtain ⟨g1, g2, g3⟩ := f2 _ h5 fl5 (up4.trans up5)
    have O5 : Older X pins hc h5 := ⟨O.s0, O.pin, fun b o e => by
      obtain ⟨o', e1⟩ := O.here b o e
      by_cases z : b ∈ frs X.stack
      · obtain ⟨sl', e2⟩ := g3.2 b _ e1 z
        exact ⟨_, e2⟩
      · exact ⟨_, g3.1 b _ e1 z (.inr (.inl ⟨o, e⟩))⟩⟩
    exact ht pins { s1 with heap := h5 } σ' H' D x hc (I1.flown O g3 g2) g1 O5 (q σ')
/-- while a handler is tried, or its suite runs -/
abbrev markX (X : Cx) (x : Addr) (E : Value → Shared → Prop) : Cx := { X with A := X.A.mark (some (.ref x)), calm := false, xe := E }
theorem Inv.mark (I : Inv X pins σ H s) (x : Addr) (E : Value → Shared → Prop) : Inv (markX X x E) pins σ H s :=
  let ok := I.ok
  ⟨⟨ok.mod, ok.kind, ok.glob, ok.blt, ok.above, ok.inj, ok.has, ok.cab, fun z => (nomatch z), ok.frames, ok.stk, ok.exf, ok.bs, ok.bsz, ok.noex, ok.exfs, ok.funs, ok.frf⟩, I.os, I.bare, I.base, I.loc, I.cell, I.free, I.freeC, I.pin, I.hok, I.len⟩
theorem Inv.unmark {x : Addr} {E : Value → Shared → Prop} (I : Inv (markX X x E) pins σ H s) (ok : X.Ok) : Inv X pins σ H s := ⟨ok, I.os, I.bare, I.base, I.loc, I.cell, I.free, I.freeC, I.pin, I.hok, I.len⟩
theorem SP.unmark {x : Addr} {E : Value → Shared → Prop} {D : Ends} {f : Flow} {s' : Shared} (ok : X.Ok) (h : SP (markX X x E) pins D f s') : SP X pins D f s' := by
  cases f with
  | next => obtain ⟨σ', H', I, q⟩ := h; exact ⟨σ', H', I.unmark ok, q⟩
  | brk => obtain ⟨σ', H', I, q⟩ := h; exact ⟨σ', H', I.unmark ok, q⟩
  | cont => obtain ⟨σ', H', I, q⟩ := h; exact ⟨σ', H', I.unmark ok, q⟩
  | ret u => obtain ⟨v, σ', H', I, r, q⟩ := h; exact ⟨v, σ', H', I.unmark ok, r, q⟩
theorem Fly.ty {M : Model} {hc h : Heap} {x : Addr} {cls : Value} (f : Fly hc H x cls h) : PySem.W.Looks M h (typeOf (.ref x)) cls := by
  obtain ⟨oe, vs, a0, T, oT, ts, e1, e2, _⟩ := f
  obtain ⟨rfl, _⟩ := e2
  exact (PySem.W.Looks.ld e1).andThen .now
theorem ph_miss {n : Str} {c cls : Value} {np pos : Pos} {nm : Option Str} {suite : List Stmt} {rest : List ExceptHandler} {t : TS} (hg : Gl X n) (hm : X.mg n = some c) (hx : PySem.W.exmOne X.K cls c = some false) (hr : PH X rest cls t) (hdb : (n == ("__debug__" : Str)) = false := by decide) :
    PH X (.ExceptHandler (some (.Name n np)) nm suite pos :: rest) cls t := by
  intro pins s σ H D x hc I fl O q
  refine wpAny_handleBy_cons (codeAny_handlers_test ?_) (by intro z; cases z)
  refine ld_glob (I.mark x X.xe) hg hm ?_ hdb
  exact PySem.W.exm_one I.kIn fl.ty hx _ _ _ _ (fun _ _ e => e) (hr pins s σ H D x hc I fl O q)
theorem ph_hit {n : Str} {c cls : Value} {np pos : Pos} {b0 : Stmt} {suite : List Stmt} {rest : List ExceptHandler} {t : TS} (hg : Gl X n) (hm : X.mg n = some c) (hx : PySem.W.exmOne X.K cls c = some true) (hs : ∀ x E, PSs (markX X x E) (b0 :: suite) t) (hdb : (n == ("__debug__" : Str)) = false := by decide) :
    PH X (.ExceptHandler (some (.Name n np)) none (b0 :: suite) pos :: rest) cls t := by
  intro pins s σ H D x hc I fl O q
  refine wpAny_handleBy_cons (codeAny_handlers_test ?_) (by intro z; cases z)
  refine ld_glob (I.mark x X.xe) hg hm ?_ hdb
  refine PySem.W.exm_one I.kIn fl.ty hx _ _ _ _ (fun _ _ e => e) ?_
  refine codeAny_handlers_suite ?_
  obtain ⟨Bx, a0, f1, f2⟩ := fly_step I.hok I.stack I.stkFree fl O.here
  refine lands_againW f1 fun h6 fl6 up6 => ?_
  obtain ⟨g1, g2, g3⟩ := f2 _ h6 fl6 up6
  have I6 := I.flown O g3 g2
  refine thn (hs x _ pins { s with heap := h6 } σ H D (I6.mark x _) q) fun f s2 hq => ?_
  exact hq.unmark I.ok
end
end L2

end

section
set_option maxHeartbeats 2000000
/-! A dict's values walked: the dict is known (frozen) meanwhile; behind the walk it thaws. -/
namespace L2
open PySem PySem.Spec PyProof.Rows
section
variable {X : Cx} {pins : List (Addr × Obj)} {σ : St} {H : Hp} {s : Shared} {d : Addr} {ob : Obj} {kvs : List (Key × V)} {tg : Expr}
theorem Inv.freeze (I : Inv X pins σ H s) (hd : H d = some (.dK kvs)) (ho : s.heap.get? d = some ob) : Inv X pins σ (upd H d (.frz ob (.dK kvs))) s := by
  have ne : ∀ b o, H b = some o → (∀ l, o ≠ .dK l) → b ≠ d := fun b o e n z => by subst z; rw [hd] at e; cases e; exact n _ rfl
  have u : Un X.fs [] H (upd H d (.frz ob (.dK kvs))) s.heap s.heap := ⟨fun _ _ e _ _ _ => e, fun b o e _ _ _ => ⟨o.slots, e⟩, fun b o e n _ => by rw [upd_ne (fun z => by subst z; rw [hd] at n; cases n)]; exact n, fun b o e _ => ⟨o, e⟩,
    fun b xs e => by rw [upd_ne (ne b _ e (by intro l z; cases z))]; exact e, fun b o v e => by rw [upd_ne (ne b _ e (by intro l z; cases z))]; exact e, fun b ps e => ⟨#[], by rw [upd_ne (ne b _ e (by intro l z; cases z)), e]; simp⟩⟩
  have hok : HOk X.prog X.w (upd H d (.frz ob (.dK kvs))) s.heap := fun b o e => by
    have st : ∀ a v, ObjOk X.prog X.w H s.heap a v → ObjOk X.prog X.w (upd H d (.frz ob (.dK kvs))) s.heap a v := fun a v q => q.stay (fun _ _ _ e => e) (fun c e => by rw [upd_ne (ne c _ e (by intro l z; cases z))]; exact e) fun c xs e => by rw [upd_ne (ne c _ e (by intro l z; cases z))]; exact e
    by_cases z : b = d
    · subst z
      rw [upd_same] at e
      cases e
      exact ⟨ho, st _ _ (I.hok b _ hd)⟩
    · rw [upd_ne z] at e
      exact st _ _ (I.hok b o e)
  exact I.un (h' := s.heap) (t' := s.toks) u hok
theorem Inv.thaw {k0 : List (Key × V)} (I : Inv X pins σ H s) (h0 : X.H₀ d = some (.dK k0)) (hd : H d = some (.frz ob (.dK kvs))) : Inv X pins σ (upd H d (.dK kvs)) s := by
  have ne : ∀ b o, H b = some o → (∀ ob l, o ≠ .frz ob (.dK l)) → b ≠ d := fun b o e n z => by subst z; rw [hd] at e; cases e; exact n _ _ rfl
  have nn : ∀ b, H b = none → upd H d (.dK kvs) b = none := fun b n => by rw [upd_ne (fun z => by subst z; rw [hd] at n; cases n)]; exact n
  have ne0 : ∀ b o u, X.H₀ b = some (.frz o u) → b ≠ d := fun b o u e z => by subst z; rw [h0] at e; cases e
  have hok : HOk X.prog X.w (upd H d (.dK kvs)) s.heap := fun b o e => by
    have st : ∀ a v, ObjOk X.prog X.w H s.heap a v → ObjOk X.prog X.w (upd H d (.dK kvs)) s.heap a v := fun a v q => q.stay (fun _ _ _ e => e) (fun c e => by rw [upd_ne (ne c _ e (by intro l z w; cases w))]; exact e) fun c xs e => by rw [upd_ne (ne c _ e (by intro l z w; cases w))]; exact e
    by_cases z : b = d
    · subst z
      rw [upd_same] at e
      cases e
      exact st _ _ (I.hok b _ hd).2
    · rw [upd_ne z] at e
      exact st _ _ (I.hok b o e)
  exact ⟨I.ok, I.os, I.bare, ⟨I.base.keep, I.base.slot, fun b o e n hx => nn b (I.base.free b o e n hx), I.base.there, fun b xs e => by rw [upd_ne (ne b _ (I.base.tups b xs e) (by intro l z w; cases w))]; exact I.base.tups b xs e,
    fun b o u e => by rw [upd_ne (ne0 b o u e)]; exact I.base.frzs b o u e, fun b ps e => by
      obtain ⟨m, q⟩ := I.base.tbls b ps e
      exact ⟨m, by rw [upd_ne (ne b _ q (by intro l z w; cases w))]; exact q⟩⟩, I.loc, I.cell, nn _ I.free, fun x c e => nn _ (I.freeC x c e), fun p hp => by
      obtain ⟨e, n, r⟩ := I.pin p hp
      exact ⟨e, nn _ n, r⟩, hok, I.len⟩
def tThaw (H₀ : Hp) (t : TE) : TE := fun σ H Q => t σ H fun v H' => ∃ d ob kvs k0, H₀ d = some (.dK k0) ∧ H' d = some (.frz ob (.dK kvs)) ∧ Q v (upd H' d (.dK kvs))
theorem pe_thaw {e : Expr} {t : TE} (h : PE X e t) : PE X e (tThaw X.H₀ t) := fun pins s σ H Q I q =>
  thn (h pins s σ H _ I q) fun u s1 ⟨v, H1, I1, r, d, ob, kvs, k0, h0, hd, q1⟩ => ⟨v, _, I1.thaw h0 hd, r, q1⟩
/-- inside a comprehension: K by its own name -/
theorem pe_fldK {K : PySem.W.Frag} {e : Expr} {f : Str} {pos : Pos} {ta : TE} (hK : X.K = K) (he : PE X e ta) (hb : attributeBase e f X.env (eval e X.env) = eval e X.env) : PE X (.Attribute e f pos) (tFld K ta f) := hK ▸ pe_fld he hb
theorem pe_lcv {elt iter tg : Expr} {ifs : List Expr} {scope : Scope} {pos : Pos} {own : List Str} {wi : TI} {g : TG} {tc : TT} {te : TE} (hc : X.calm = true) (S : LcScope X scope own) (hi : PI X tg iter wi)
    (hb : ∀ cl C s H fp, PG (cxComp X scope own cl C s H fp) tg g ∧ PTs (cxComp X scope own cl C s H fp) ifs tc ∧ PE (cxComp X scope own cl C s H fp) elt te)
    (hs : ∀ x, foldedSetIterable iter X.env x = pure x := by intro _; rfl) : PE X (.ListComp elt [⟨tg, iter, ifs, 0⟩] scope pos) (tThaw X.H₀ (tLc own.length wi g tc te)) := pe_thaw (pe_lc hc S hi hb hs)
/-- a dict's values, walked: the dict is known as the object o meanwhile -/
def Itv (o : Obj) (d : Addr) (kvs : List (Key × V)) : It :=
  ⟨fun i H => H d = some (.frz o (.dK kvs)) ∧ i < kvs.length, fun i H x H' => H' = H ∧ (kvs.map (·.2))[i]? = some x, fun i H => H d = some (.frz o (.dK kvs)) ∧ kvs.length ≤ i⟩
theorem KV.getAt {κ : Type} : ∀ {kvs : List (κ × V)} {vs : List (κ × Value)} {i : Nat}, KV kvs vs → i < kvs.length → ∃ k x u, kvs[i]? = some (k, x) ∧ vs[i]? = some (k, u) ∧ RelV x u
  | _, _, 0, .cons (a := p) (b := q) h _, _ => by
    obtain ⟨k, x⟩ := p
    obtain ⟨k', u⟩ := q
    obtain ⟨e, r⟩ := h
    cases e
    exact ⟨k, x, u, rfl, rfl, r⟩
  | _, _, i + 1, .cons _ t, hi => by
    obtain ⟨k, x, u, e1, e2, r⟩ := KV.getAt (i := i) t (by simpa using hi)
    exact ⟨k, x, u, by simpa using e1, by simpa using e2, r⟩
theorem turn_dvals {P : Program} {w : World} {K : PySem.W.Frag} (it : Addr) {es : Array DictEntry} {ep : Nat} (hob : ob.data = .dict es ep) : Turn P w K tg (Itv ob d kvs) [it] it (fun i h => h.IsValIter it d i kvs.length ep) where
  mem := by simp
  obj := fun i h st b hb => by
    have e : b = it := by simpa using hb
    subst e
    obtain ⟨o, e, c, dd⟩ := st
    exact ⟨o, e, fun v z => by rw [dd] at z; cases z⟩
  keep := fun i h h' st k => st.at fun o e => k it (by simp) o e
  item := by
    intro X hP hw hK hc i pins s σ H E I hf st hg
    subst hP hw hK
    obtain ⟨hg, hi⟩ := hg
    obtain ⟨f0, f1, f2, f3, f4, f5⟩ := hf it (by simp)
    obtain ⟨ho, z, hsm, vs, rel, o', es', ep', ho', r1, r2, r3⟩ := (show ObjOk X.prog X.w H s.heap d (.frz ob (.dK kvs)) from I.hok d _ hg)
    rw [ho] at ho'
    cases ho'
    rw [hob] at r2
    cases r2
    have hat : s.heap.DictAt (mixKind X.prog X.w) d vs ep := ⟨ob, es, ho, r1, hob, r3⟩
    obtain ⟨k, x, u, e1, e2, rx⟩ := KV.getAt rel hi
    rw [rel.length] at st
    refine wpAny_pyNext_values_item st hat e2 fun h' st' sb => ?_
    have I1 : Inv X pins σ H { s with heap := h' } := I.turned (t' := s.toks) (fun b o hb e => (sb.2 b hb).trans e) f0 f1 f3 f4 f5
    obtain ⟨o, e, c, dd⟩ := id st'
    rw [← rel.length] at st'
    exact ⟨u, rfl, go_of (s := { s with heap := h' }) e c dd (by decide) ⟨x, H, I1, rx, ⟨rfl, by rw [List.getElem?_map, e1]; rfl⟩, st', fun b hb => (hf b hb).1⟩⟩
  done := by
    intro X hP hw hK hc i pins s σ H E I hf st hg
    subst hP hw hK
    obtain ⟨hg, hi⟩ := hg
    obtain ⟨f0, f1, f2, f3, f4, f5⟩ := hf it (by simp)
    obtain ⟨ho, z, hsm, vs, rel, o', es', ep', ho', r1, r2, r3⟩ := (show ObjOk X.prog X.w H s.heap d (.frz ob (.dK kvs)) from I.hok d _ hg)
    rw [ho] at ho'
    cases ho'
    rw [hob] at r2
    cases r2
    have hat : s.heap.DictAt (mixKind X.prog X.w) d vs ep := ⟨ob, es, ho, r1, hob, r3⟩
    have hl := rel.length
    rw [hl] at st
    exact wpAny_pyNext_values_end (I.ok.hd hc) st hat (by rw [List.getElem?_eq_none_iff]; omega) fun h' eb => ⟨rfl, I.turned (t' := s.toks) (fun b o hb e => eb b o hb e) f0 f1 f3 f4 f5⟩
  self := fun _ _ _ _ _ st h => wpAny_pyIter_valiter st h
def iDVals (td : TE) : TI := fun σ H R => td σ H fun x H1 => ∃ d kvs, x = .ref d ∧ H1 d = some (.dK kvs) ∧ ∀ o, R (Itv o d kvs) (upd H1 d (.frz o (.dK kvs)))
theorem pi_dvals {o : Expr} {td : TE} {apos cpos : Pos} (ho : PE X o td) (hb : attributeBase o "values" X.env (eval o X.env) = eval o X.env) (hl : (apos.endLine == cpos.line) = true) : PI X tg (.Call (.Attribute o "values" apos) [] [] cpos) (iDVals td) := by
  intro pins s σ H R I h
  refine wpAny_Call_method hb rfl hl PySem.F.plainAttrs_dict PySem.F.slot_dict_values PySem.F.type_dict_values (thn (ho pins s σ H _ I h) fun u s1 ⟨x, H1, I1, rx, d, kvs, ex, hd, q1⟩ => ?_)
  subst ex
  obtain rfl : u = Value.ref d := rx
  obtain ⟨t1, t2, _⟩ := isD_at I1 (.inl ⟨kvs, Rd.of hd⟩)
  refine ⟨t1, t2, ?_⟩
  show wpAny _ _ (callWith cpos (.builtin "dict.values") [.ref d] [] []) _ _ s1
  obtain ⟨z, hsm, vs, rel, dd⟩ := dk_rd I1.hok (Rd.of hd)
  refine Calls.callWith_builtin rfl (PySem.evalArgs_none ?_)
  refine call_meetsIn PySem.F.slot_dict_values dd.typeIs PySem.F.entry_dict_values (PySem.F.args_dict_values_1 _) (meets_dict_values (mixKind X.prog X.w) d hsm) ⟨⟨vs, dd⟩, ?_⟩
  obtain ⟨ob, es, ep, hob, r1, hdat, r3⟩ := id dd
  have I2 : Inv X pins σ H1 { s1 with heap := s1.heap.push { cls := .type "dict_values", data := .fields #[.ref d] } } := I1.kept (t' := s1.toks) fun b o e => Heap.get?_push_of_some _ e
  have hob2 := Heap.get?_push_of_some { cls := .type "dict_values", data := .fields #[.ref d] } hob
  refine wpAny_pyIter_values (knd := mixKind X.prog X.w) (kvs := vs) (ep := ep) ⟨_, Heap.get?_push_size _ rfl, rfl, rfl⟩ ⟨ob, es, hob2, r1, hdat, r3⟩ ?_
  have I3 := I2.kept (t' := s1.toks) (h' := (s1.heap.push { cls := .type "dict_values", data := .fields #[.ref d] }).push { cls := .type "dict_valueiterator", data := .fields #[.ref d, .int 0 0, .int vs.length 0, .int ep 0] }) fun b o e => Heap.get?_push_of_some _ e
  have I4 := I3.freeze hd (Heap.get?_push_of_some _ hob2)
  refine ⟨_, [_], _, Itv ob d kvs, _, rfl, I4, turn_dvals _ hdat, ?_, fun b hb => ?_, q1 ob⟩
  · rw [rel.length]
    exact ⟨_, Heap.get?_push_size _ rfl, rfl, rfl⟩
  · have e : b = (s1.heap.push { cls := .type "dict_values", data := .fields #[.ref d] }).objs.size := by simpa using hb
    subst e
    refine I2.fpOk (Nat.le_refl _) ?_
    rw [upd_ne]
    · exact I2.hok.fresh (Nat.le_refl _)
    · exact Nat.ne_of_gt (Heap.lt_size hob2)
theorem Yields.vals {o : Obj} {d : Addr} {kvs : List (Key × V)} {H : Hp} (h : H d = some (.frz o (.dK kvs))) : Yields (Itv o d kvs) (kvs.map (·.2)) H :=
  ⟨fun i x hx => ⟨⟨h, by
    have := (List.getElem?_eq_some_iff.mp hx).1
    simpa using this⟩, fun y H' hy => ⟨hy.1, by
      have := hy.2
      rw [hx] at this
      exact (Option.some.inj this).symm⟩⟩, ⟨h, by simp⟩⟩
end
end L2

end

section
namespace Fb
/-- the greatest of a list -/
def maxL : List Int → Option Int
  | [] => none
  | x :: r => match maxL r with
    | none => some x
    | some m => some (if m < x then x else m)
theorem maxL_none : ∀ {l : List Int}, maxL l = none ↔ l = []
  | [] => by simp [maxL]
  | x :: r => by
    simp only [maxL]
    cases maxL r <;> simp
theorem maxL_mem : ∀ {l : List Int} {m : Int}, maxL l = some m → m ∈ l ∧ ∀ y ∈ l, y ≤ m
  | x :: r, m, h => by
    cases e : maxL r with
    | none =>
      have z : r = [] := maxL_none.mp e
      subst z
      have hx : x = m := by simpa [maxL] using h
      subst hx
      refine ⟨by simp, fun y hy => ?_⟩
      have : y = x := by simpa using hy
      omega
    | some k =>
      obtain ⟨h1, h2⟩ := maxL_mem e
      by_cases q : k < x
      · have hx : x = m := by simpa [maxL, e, q] using h
        subst hx
        refine ⟨by simp, fun y hy => ?_⟩
        rcases List.mem_cons.mp hy with z | z
        · omega
        · have := h2 y z; omega
      · have hx : k = m := by simpa [maxL, e, q] using h
        subst hx
        refine ⟨by simp [h1], fun y hy => ?_⟩
        rcases List.mem_cons.mp hy with z | z
        · omega
        · exact h2 y z
theorem maxL_some {l : List Int} {m : Int} (hm : m ∈ l) (hy : ∀ y ∈ l, y ≤ m) : maxL l = some m := by
  cases e : maxL l with
  | none => rw [maxL_none.mp e] at hm; cases hm
  | some k =>
    obtain ⟨h1, h2⟩ := maxL_mem e
    have a := h2 m hm
    have b := hy k h1
    congr 1
    omega
def heldO (c : Int) (ns : List Int) : Option Int := maxL (ns.filter fun u => decide (c ≤ u))
theorem heldO_none_iff {c : Int} {l : List Int} : heldO c l = none ↔ ∀ u ∈ l, u < c := by
  unfold heldO
  rw [maxL_none, List.filter_eq_nil_iff]
  constructor
  · intro h u hu
    have := h u hu
    simp only [decide_eq_true_eq] at this
    omega
  · intro h u hu
    have := h u hu
    simp only [decide_eq_true_eq]
    omega
theorem heldO_some_iff {c m : Int} {l : List Int} : heldO c l = some m ↔ m ∈ l ∧ c ≤ m ∧ ∀ u ∈ l, u ≤ m := by
  unfold heldO
  constructor
  · intro h
    obtain ⟨h1, h2⟩ := maxL_mem h
    obtain ⟨h3, h4⟩ := List.mem_filter.mp h1
    have h4 : c ≤ m := by simpa using h4
    refine ⟨h3, h4, fun u hu => ?_⟩
    by_cases hc : c ≤ u
    · exact h2 u (List.mem_filter.mpr ⟨hu, by simpa using hc⟩)
    · omega
  · rintro ⟨h1, h2, h3⟩
    refine maxL_some (List.mem_filter.mpr ⟨h1, by simpa using h2⟩) fun y hy => h3 y (List.mem_filter.mp hy).1
/-- only which numbers stand there counts -/
theorem heldO_congr {c : Int} {l m : List Int} (h : ∀ u, u ∈ l ↔ u ∈ m) : heldO c l = heldO c m := by
  cases e : heldO c m with
  | none => exact heldO_none_iff.mpr fun u hu => heldO_none_iff.mp e u ((h u).mp hu)
  | some k =>
    obtain ⟨h1, h2, h3⟩ := heldO_some_iff.mp e
    exact heldO_some_iff.mpr ⟨(h k).mpr h1, h2, fun u hu => h3 u ((h u).mp hu)⟩
namespace Y
section
variable {κ α : Type} [DecidableEq κ]
def set1 (f : κ → α) (k : κ) (v : α) : κ → α := fun x => if x = k then v else f x
theorem set1_same {f : κ → α} {k : κ} {v : α} : set1 f k v k = v := if_pos rfl
theorem set1_ne {f : κ → α} {k x : κ} {v : α} (h : x ≠ k) : set1 f k v x = f x := if_neg h
end
structure Cp where
  value : Int
  version : Int
  till : Int
  deriving DecidableEq
structure Th where
  keeper : Int
  value : Int
  version : Int
  lent : Int → Option Int
  quiet : Option Int
  waiting : Option Int
structure Pl where
  count : Nat
  length : Int
  bound : Int
structure S (N : Type) where
  time : Int
  off : Int → Int
  up : Int → Bool
  cp : Int → N → Option Cp
  th : N → Option Th
inductive Deed (N : Type) where
  | pass (m : Int)
  | shift (d o : Int)
  | read (d : Int) (n : N)
  | change (d : Int) (n : N) (v : Int)
  | tries (n : N)
  | back (d : Int) (n : N)
  | stop (d : Int)
  | wake (d : Int)
inductive An where
  | int (i : Int)
  | bl (b : Bool)
  | own (v n : Int)
  | fresh (v n : Int)
  | lent (v n : Int)
  | waits (u : Int)
  | changed (n : Int)
  | noDesk | noThing | noClock | stopped | noAnswer | notNow | nothing
  deriving DecidableEq
variable {N : Type} [DecidableEq N]
def S.clock (s : S N) (d : Int) : Int := s.time + s.off d
def noted (p : Pl) (t : Th) : List Int := ((List.range p.count).filterMap fun (i : Nat) => t.lent (i : Int)) ++ t.quiet.toList
def doneT (t : Th) (v : Int) : Th := { t with value := v, version := t.version + 1, lent := fun _ => none, quiet := none, waiting := none }
def attempt (p : Pl) (c : Int) (t : Th) : An × Th := match t.waiting with
  | none => (.nothing, t)
  | some v => match heldO c (noted p t) with
    | some u => (.waits u, t)
    | none => (.changed (t.version + 1), doneT t v)
def isDesk (p : Pl) (d : Int) : Bool := decide (0 ≤ d) && decide (d < p.count)
/-- the checks of a deed that names a desk and a thing -/
def named (p : Pl) (s : S N) (d : Int) (n : N) (k : Th → An × S N) : An × S N :=
  if isDesk p d then match s.th n with
    | none => (.noThing, s)
    | some t => if s.up d then k t else (.stopped, s)
  else (.noDesk, s)
def freshC (p : Pl) (s : S N) (d : Int) (n : N) : Option Cp := match s.cp d n with
  | none => none
  | some c => if s.clock d + 2 * p.bound ≤ c.till then some c else none
def setC (f : Int → N → Option Cp) (d : Int) (n : N) (c : Option Cp) : Int → N → Option Cp := set1 f d (set1 (f d) n c)
def readT (p : Pl) (s : S N) (d : Int) (n : N) (t : Th) : An × S N :=
  if t.keeper = d then (.own t.value t.version, s)
  else match freshC p s d n with
    | some c => (.fresh c.value c.version, s)
    | none => if s.up t.keeper then match t.waiting with
        | some _ => (.notNow, s)
        | none => (.lent t.value t.version, { s with
            cp := setC s.cp d n (some ⟨t.value, t.version, s.clock t.keeper + p.length⟩)
            th := set1 s.th n (some { t with lent := set1 t.lent d (some (s.clock t.keeper + p.length)) }) })
      else (.noAnswer, s)
def changeT (p : Pl) (s : S N) (d : Int) (n : N) (v : Int) (t : Th) : An × S N :=
  if s.up t.keeper then match t.waiting with
    | some _ => (.notNow, { s with cp := setC s.cp d n none, th := set1 s.th n (some { t with lent := set1 t.lent d none }) })
    | none =>
      let r := attempt p (s.clock t.keeper) { t with lent := set1 t.lent d none, waiting := some v }
      (r.1, { s with cp := setC s.cp d n none, th := set1 s.th n (some r.2) })
  else (.noAnswer, s)
def backT (s : S N) (d : Int) (n : N) (t : Th) : An × S N :=
  (.bl (s.cp d n).isSome, { s with
    cp := setC s.cp d n none
    th := if s.up t.keeper then set1 s.th n (some { t with lent := set1 t.lent d none }) else s.th })
def stopD (s : S N) (d : Int) : S N := { s with
  up := set1 s.up d false
  cp := set1 s.cp d fun _ => none
  th := fun n => (s.th n).map fun t => if t.keeper = d then { t with lent := fun _ => none, waiting := none } else t }
def wakeD (p : Pl) (s : S N) (d : Int) : S N := { s with
  up := set1 s.up d true
  th := fun n => (s.th n).map fun t => if t.keeper = d then { t with quiet := some (s.clock d + p.length + 2 * p.bound) } else t }
def step (p : Pl) (s : S N) : Deed N → An × S N
  | .pass m => (.int (s.time + m), { s with time := s.time + m })
  | .shift d o => if isDesk p d then (if -p.bound ≤ o ∧ o ≤ p.bound then (.bl true, { s with off := set1 s.off d o }) else (.noClock, s)) else (.noDesk, s)
  | .read d n => named p s d n (readT p s d n)
  | .change d n v => named p s d n (changeT p s d n v)
  | .tries n => match s.th n with
    | none => (.noThing, s)
    | some t => if s.up t.keeper then
        let r := attempt p (s.clock t.keeper) t
        (r.1, { s with th := set1 s.th n (some r.2) })
      else (.noAnswer, s)
  | .back d n => named p s d n (backT s d n)
  | .stop d => if isDesk p d then (if s.up d then (.bl true, stopD s d) else (.bl false, s)) else (.noDesk, s)
  | .wake d => if isDesk p d then (if s.up d then (.bl false, s) else (.bl true, wakeD p s d)) else (.noDesk, s)
def run (p : Pl) : S N → List (Deed N) → List An × S N
  | s, [] => ([], s)
  | s, d :: ds => ((step p s d).1 :: (run p (step p s d).2 ds).1, (run p (step p s d).2 ds).2)
theorem run_append (p : Pl) : ∀ (ds es : List (Deed N)) (s : S N), run p s (ds ++ es) = ((run p s ds).1 ++ (run p (run p s ds).2 es).1, (run p (run p s ds).2 es).2)
  | [], es, s => rfl
  | d :: ds, es, s => by
    show ((step p s d).1 :: (run p (step p s d).2 (ds ++ es)).1, (run p (step p s d).2 (ds ++ es)).2) = _
    rw [run_append p ds es]
    rfl
theorem run_snoc (p : Pl) (ds : List (Deed N)) (s : S N) (d : Deed N) : run p s (ds ++ [d]) = ((run p s ds).1 ++ [(step p (run p s ds).2 d).1], (step p (run p s ds).2 d).2) := by
  rw [run_append]; rfl
theorem run_len (p : Pl) : ∀ (ds : List (Deed N)) (s : S N), (run p s ds).1.length = ds.length
  | [], _ => rfl
  | d :: ds, s => by show _ + 1 = _ + 1; rw [run_len p ds]
theorem run_get (p : Pl) (ds : List (Deed N)) (s : S N) (k : Nat) (d : Deed N) (h : ds[k]? = some d) : (run p s ds).1[k]? = some (step p (run p s (ds.take k)).2 d).1 := by
  induction ds generalizing s k with
  | nil => simp at h
  | cons e r ih =>
    cases k with
    | zero =>
      have : e = d := by simpa using h
      subst this
      rfl
    | succ j =>
      have h' : r[j]? = some d := by simpa using h
      exact ih (step p s e).2 j h'
/-- the beginning: f: the things by name -/
def begin_ (f : N → Option (Int × Int)) : S N where
  time := 0
  off := fun _ => 0
  up := fun _ => true
  cp := fun _ _ => none
  th := fun n => (f n).map fun kv => ⟨kv.1, kv.2, 0, fun _ => none, none, none⟩
theorem mem_noted {p : Pl} {t : Th} {u : Int} : u ∈ noted p t ↔ (∃ d, isDesk p d = true ∧ t.lent d = some u) ∨ t.quiet = some u := by
  unfold noted
  rw [List.mem_append, List.mem_filterMap]
  constructor
  · rintro (⟨i, hi, e⟩ | h)
    · refine Or.inl ⟨(i : Int), ?_, e⟩
      have := List.mem_range.mp hi
      unfold isDesk
      simp only [Bool.and_eq_true, decide_eq_true_eq]
      omega
    · refine Or.inr ?_
      cases e : t.quiet with
      | none => rw [e] at h; simp at h
      | some q => rw [e] at h; have : u = q := by simpa using h
                  rw [this]
  · rintro (⟨d, hd, e⟩ | h)
    · refine Or.inl ⟨d.toNat, List.mem_range.mpr ?_, ?_⟩
      · unfold isDesk at hd
        simp only [Bool.and_eq_true, decide_eq_true_eq] at hd
        omega
      · unfold isDesk at hd
        simp only [Bool.and_eq_true, decide_eq_true_eq] at hd
        have : ((d.toNat : Nat) : Int) = d := by omega
        rw [this]
        exact e
    · right
      rw [h]
      simp
end Y
end Fb

end

section
namespace Fb
open Y
inductive Bad where
  | noDesk | noThing | noClock | noAnswer | stopped
def badOf : An → Option Bad
  | .noDesk => some .noDesk
  | .noThing => some .noThing
  | .noClock => some .noClock
  | .stopped => some .stopped
  | .noAnswer => some .noAnswer
  | _ => none
section
variable {N : Type} [DecidableEq N]
/-- a keeper that is stopped has no notes -/
def Down (s : S N) : Prop := ∀ n t, s.th n = some t → s.up t.keeper = false → ∀ d, t.lent d = none
theorem bad_same {p : Pl} {s : S N} {δ : Deed N} {e : Bad} (h : badOf (step p s δ).1 = some e) : (step p s δ).2 = s := by
  have att : ∀ c t, badOf (attempt p c t).1 = none := fun c t => by
    unfold attempt
    cases t.waiting with
    | none => rfl
    | some v => dsimp only; cases heldO c (Y.noted p t) <;> rfl
  have nm : ∀ (d : Int) (n : N) (k : Th → An × S N), (∀ t, badOf (k t).1 = some e → (k t).2 = s) → badOf (named p s d n k).1 = some e → (named p s d n k).2 = s := fun d n k hk => by
    unfold named
    cases isDesk p d with
    | false => intro _; rfl
    | true =>
      simp only [↓reduceIte]
      cases s.th n with
      | none => intro _; rfl
      | some t =>
        dsimp only
        cases s.up d with
        | false => intro _; rfl
        | true => exact hk t
  cases δ with
  | pass m => cases h
  | shift d o =>
    revert h
    simp only [step]
    split
    · split
      · intro h; cases h
      · intro _; rfl
    · intro _; rfl
  | read d n =>
    refine nm d n _ (fun t => ?_) h
    unfold readT
    split
    · intro h; cases h
    · split
      · intro h; cases h
      · split
        · split
          · intro h; cases h
          · intro h; cases h
        · intro _; rfl
  | change d n v =>
    refine nm d n _ (fun t => ?_) h
    unfold changeT
    split
    · split
      · intro h; cases h
      · intro h
        have := att (s.clock t.keeper) { t with lent := set1 t.lent d none, waiting := some v }
        rw [show badOf (attempt p (s.clock t.keeper) { t with lent := set1 t.lent d none, waiting := some v }).1 = some e from h] at this
        cases this
    · intro _; rfl
  | tries n =>
    revert h
    simp only [step]
    split
    · intro _; rfl
    · rename_i t ht
      split
      · intro h
        have := att (s.clock t.keeper) t
        rw [show badOf (attempt p (s.clock t.keeper) t).1 = some e from h] at this
        cases this
      · intro _; rfl
  | back d n =>
    refine nm d n _ (fun t => ?_) h
    intro h
    cases h
  | stop d =>
    revert h
    simp only [step]
    split
    · split
      · intro h; cases h
      · intro h; cases h
    · intro _; rfl
  | wake d =>
    revert h
    simp only [step]
    split
    · split
      · intro h; cases h
      · intro h; cases h
    · intro _; rfl
theorem step_down {p : Pl} {s : S N} {δ : Deed N} (h : Down s) : Down (step p s δ).2 := by
  have nm : ∀ (d : Int) (n : N) (k : Th → An × S N), (∀ t, s.th n = some t → Down (k t).2) → Down (named p s d n k).2 := fun d n k hk => by
    unfold named
    cases isDesk p d with
    | false => exact h
    | true =>
      simp only [↓reduceIte]
      cases ht : s.th n with
      | none => exact h
      | some t =>
        dsimp only
        cases s.up d with
        | false => exact h
        | true => exact hk t ht
  have set : ∀ (n : N) (t t' : Th) (cp : Int → N → Option Cp), s.th n = some t → t'.keeper = t.keeper → s.up t.keeper = true → Down { s with cp := cp, th := set1 s.th n (some t') } := fun n t t' cp ht hk hu m u e hd => by
    by_cases z : m = n
    · have e : some t' = some u := by rw [← e, z]; exact set1_same.symm
      cases e
      have hd : s.up t'.keeper = false := hd
      rw [hk, hu] at hd; cases hd
    · have e : s.th m = some u := by rw [← e]; exact (set1_ne z).symm
      exact h m u e hd
  have ak : ∀ c t, (attempt p c t).2.keeper = t.keeper := fun c t => by
    unfold attempt
    cases t.waiting with
    | none => rfl
    | some v => dsimp only; cases heldO c (Y.noted p t) <;> rfl
  cases δ with
  | pass m => exact h
  | shift d o =>
    simp only [step]
    split
    · split
      · exact h
      · exact h
    · exact h
  | read d n =>
    refine nm d n _ fun t ht => ?_
    unfold readT
    split
    · exact h
    · split
      · exact h
      · split
        · rename_i hu
          split
          · exact h
          · exact set n t _ _ ht rfl hu
        · exact h
  | change d n v =>
    refine nm d n _ fun t ht => ?_
    unfold changeT
    split
    · rename_i hu
      split
      · exact set n t _ _ ht rfl hu
      · exact set n t _ _ ht (ak _ _) hu
    · exact h
  | tries n =>
    simp only [step]
    split
    · exact h
    · rename_i t ht
      split
      · rename_i hu
        exact set n t _ s.cp ht (ak _ _) hu
      · exact h
  | back d n =>
    refine nm d n _ fun t ht => ?_
    unfold backT
    cases hu : s.up t.keeper with
    | true => exact set n t _ _ ht rfl hu
    | false => exact h
  | stop d =>
    simp only [step]
    split
    · split
      · intro m u e hd x
        have e : (s.th m).map (fun t => if t.keeper = d then { t with lent := fun _ => none, waiting := none } else t) = some u := e
        cases ht : s.th m with
        | none => rw [ht] at e; cases e
        | some t =>
          rw [ht] at e
          have e := Option.some.inj e
          by_cases z : t.keeper = d
          · dsimp only at e
            rw [if_pos z] at e
            rw [← e]
          · dsimp only at e
            rw [if_neg z] at e
            subst e
            have hd : set1 s.up d false t.keeper = false := hd
            rw [set1_ne z] at hd
            exact h m t ht hd x
      · exact h
    · exact h
  | wake d =>
    simp only [step]
    split
    · split
      · exact h
      · intro m u e hd x
        have e : (s.th m).map (fun t => if t.keeper = d then { t with quiet := some (s.clock d + p.length + 2 * p.bound) } else t) = some u := e
        cases ht : s.th m with
        | none => rw [ht] at e; cases e
        | some t =>
          rw [ht] at e
          have e := Option.some.inj e
          by_cases z : t.keeper = d
          · dsimp only at e
            rw [if_pos z] at e
            subst e
            have hd : set1 s.up d true t.keeper = false := hd
            rw [z, set1_same] at hd; cases hd
          · dsimp only at e
            rw [if_neg z] at e
            subst e
            have hd : set1 s.up d true t.keeper = false := hd
            rw [set1_ne z] at hd
            exact h m t ht hd x
    · exact h
end
end Fb

end

section
set_option maxHeartbeats 2000000
namespace Fb
open PySem L2
def ov : Option Int → V
  | none => .non
  | some m => .int m
/-! ### a thing -/
/-- the attributes, in the order in which they are stored -/
def fl (k v n d q w : V) : List (Str × V) := [("keeper", k), ("value", v), ("version", n), ("notes", d), ("quiet", q), ("waiting", w)]
section
variable {k v n d q w x : V}
theorem fl_keeper : (fl k v n d q w).lookup ("keeper" : Str) = some k := by kernel_rfl
theorem fl_value : (fl k v n d q w).lookup ("value" : Str) = some v := by kernel_rfl
theorem fl_version : (fl k v n d q w).lookup ("version" : Str) = some n := by kernel_rfl
theorem fl_notes : (fl k v n d q w).lookup ("notes" : Str) = some d := by kernel_rfl
theorem fl_quiet : (fl k v n d q w).lookup ("quiet" : Str) = some q := by kernel_rfl
theorem fl_waiting : (fl k v n d q w).lookup ("waiting" : Str) = some w := by kernel_rfl
theorem fl_lend : (fl k v n d q w).lookup ("lend" : Str) = none := by kernel_rfl
theorem fl_take_back : (fl k v n d q w).lookup ("take_back" : Str) = none := by kernel_rfl
theorem fl_come_up : (fl k v n d q w).lookup ("come_up" : Str) = none := by kernel_rfl
theorem fl_put_up : (fl k v n d q w).lookup ("put_up" : Str) = none := by kernel_rfl
theorem fl_attempt : (fl k v n d q w).lookup ("attempt" : Str) = none := by kernel_rfl
theorem fl_noted_untils : (fl k v n d q w).lookup ("noted_untils" : Str) = none := by kernel_rfl
theorem fl_take_change : (fl k v n d q w).lookup ("take_change" : Str) = none := by kernel_rfl
theorem put_value : putF ("value" : Str) x (fl k v n d q w) = fl k x n d q w := by kernel_rfl
theorem put_version : putF ("version" : Str) x (fl k v n d q w) = fl k v x d q w := by kernel_rfl
theorem put_notes : putF ("notes" : Str) x (fl k v n d q w) = fl k v n x q w := by kernel_rfl
theorem put_quiet : putF ("quiet" : Str) x (fl k v n d q w) = fl k v n d x w := by kernel_rfl
theorem put_waiting : putF ("waiting" : Str) x (fl k v n d q w) = fl k v n d q x := by kernel_rfl
theorem put_all : putF ("waiting" : Str) w (putF ("quiet" : Str) q (putF ("notes" : Str) d (putF ("version" : Str) n (putF ("value" : Str) v (putF ("keeper" : Str) k []))))) = fl k v n d q w := by kernel_rfl
theorem fl_len : (fl k v n d q w).length < 1000 := by show 6 < 1000; decide
end
structure T where
  keeper : Int
  value : Int
  version : Int
  notes : List (Key × V)
  quiet : Option Int
  waiting : Option Int
structure ThAt (C : Addr) (H : Hp) (p d : Addr) (t : T) : Prop where
  ob : ∃ dx, H p = some (.ins C dx (fl (.int t.keeper) (.int t.value) (.int t.version) (.ref d) (ov t.quiet) (ov t.waiting)))
  dc : H d = some (.dK t.notes)
theorem ThAt.ne {C : Addr} {H : Hp} {p d : Addr} {t : T} (h : ThAt C H p d t) : p ≠ d := by
  obtain ⟨⟨dx, h1⟩, h2⟩ := h
  exact ne_of h1 h2 (by intro z; cases z)
/-- the ints of the notes -/
def valsOf (l : List (Key × V)) : List Int := l.filterMap fun kv => match kv.2 with
  | .int i => some i
  | _ => none
def Ints (l : List (Key × V)) : Prop := ∀ kv ∈ l, ∃ i, kv.2 = .int i
theorem vals_eq : ∀ {l : List (Key × V)}, Ints l → l.map (·.2) = (valsOf l).map V.int
  | [], _ => rfl
  | kv :: r, h => by
    obtain ⟨i, e⟩ := h kv List.mem_cons_self
    have ih := vals_eq (l := r) fun x hx => h x (List.mem_cons_of_mem _ hx)
    rw [List.map_cons, ih, e]
    show V.int i :: _ = List.map V.int (List.filterMap _ (kv :: r))
    rw [List.filterMap_cons]
    simp only [e]
    rfl
def noted (t : T) : List Int := valsOf t.notes ++ t.quiet.toList
inductive Ans where
  | nothing
  | waits (u : Int)
  | changed (n : Int)
def ansD : Ans → PyData
  | .nothing => .str "nothing"
  | .waits u => .tuple [.str "waits", .int u]
  | .changed n => .tuple [.str "changed", .int n]
def done (t : T) (v : Int) : T := { t with value := v, version := t.version + 1, notes := [], quiet := none, waiting := none }
def att (t : T) (c : Int) : Ans × T := match t.waiting with
  | none => (.nothing, t)
  | some v => match heldO c (noted t) with
    | some u => (.waits u, t)
    | none => (.changed (t.version + 1), done t v)
/-- what the class is, as the top has made it -/
structure Txt (K : PySem.W.Frag) (C : Addr) : Prop where
  cl : Cls K C
  n1 : NoAttr K C "keeper"
  n2 : NoAttr K C "value"
  n3 : NoAttr K C "version"
  n4 : NoAttr K C "notes"
  n5 : NoAttr K C "quiet"
  n6 : NoAttr K C "waiting"
theorem fl_go_down {k v n d q w : V} : (fl k v n d q w).lookup ("go_down" : Str) = none := by kernel_rfl
theorem ThAt.same {C : Addr} {H H' : Hp} {p d : Addr} {t : T} (S : ThAt C H p d t) (s : Same H H') : ThAt C H' p d t := by
  obtain ⟨⟨dx, h1⟩, h2⟩ := S
  exact ⟨⟨dx, s _ _ h1⟩, s _ _ h2⟩
theorem len_noted {t : T} (hl : t.notes.length ≤ 900) : (noted t).length ≤ 1000 := by
  have h1 : (valsOf t.notes).length ≤ t.notes.length := List.length_filterMap_le _ _
  unfold noted
  rw [List.length_append]
  have h2 : t.quiet.toList.length ≤ 1 := by cases t.quiet <;> simp
  omega
def Fr2 (p d : Addr) (H H' : Hp) : Prop := ∀ b o, H b = some o → b ≠ p → b ≠ d → H' b = some o
/-! ### copies, desks, the yard -/
def flC (v n u : V) : List (Str × V) := [("value", v), ("version", n), ("until", u)]
def flD (o s c : V) : List (Str × V) := [("offset", o), ("stopped", s), ("copies", c)]
def flY (l b t d h : V) : List (Str × V) := [("length", l), ("bound", b), ("true_time", t), ("desks", d), ("things", h)]
section
variable {v n u x : V}
theorem flC_value : (flC v n u).lookup ("value" : Str) = some v := by kernel_rfl
theorem flC_version : (flC v n u).lookup ("version" : Str) = some n := by kernel_rfl
theorem flC_until : (flC v n u).lookup ("until" : Str) = some u := by kernel_rfl
theorem flC_all : putF ("until" : Str) u (putF ("version" : Str) n (putF ("value" : Str) v [])) = flC v n u := by kernel_rfl
theorem flD_offset : (flD v n u).lookup ("offset" : Str) = some v := by kernel_rfl
theorem flD_stopped : (flD v n u).lookup ("stopped" : Str) = some n := by kernel_rfl
theorem flD_copies : (flD v n u).lookup ("copies" : Str) = some u := by kernel_rfl
theorem flD_all : putF ("copies" : Str) u (putF ("stopped" : Str) n (putF ("offset" : Str) v [])) = flD v n u := by kernel_rfl
theorem putD_offset : putF ("offset" : Str) x (flD v n u) = flD x n u := by kernel_rfl
theorem putD_stopped : putF ("stopped" : Str) x (flD v n u) = flD v x u := by kernel_rfl
theorem putD_copies : putF ("copies" : Str) x (flD v n u) = flD v n x := by kernel_rfl
theorem flD_len : (flD v n u).length < 1000 := by show 3 < 1000; decide
end
section
variable {l b t d h x : V}
theorem flY_length : (flY l b t d h).lookup ("length" : Str) = some l := by kernel_rfl
theorem flY_bound : (flY l b t d h).lookup ("bound" : Str) = some b := by kernel_rfl
theorem flY_true_time : (flY l b t d h).lookup ("true_time" : Str) = some t := by kernel_rfl
theorem flY_desks : (flY l b t d h).lookup ("desks" : Str) = some d := by kernel_rfl
theorem flY_things : (flY l b t d h).lookup ("things" : Str) = some h := by kernel_rfl
theorem flY_all : putF ("things" : Str) h (putF ("desks" : Str) d (putF ("true_time" : Str) t (putF ("bound" : Str) b (putF ("length" : Str) l [])))) = flY l b t d h := by kernel_rfl
theorem putY_time : putF ("true_time" : Str) x (flY l b t d h) = flY l b x d h := by kernel_rfl
theorem flY_len : (flY l b t d h).length < 1000 := by show 5 < 1000; decide
theorem flY_pass_time : (flY l b t d h).lookup ("pass_time" : Str) = none := by kernel_rfl
theorem flY_shift_clock : (flY l b t d h).lookup ("shift_clock" : Str) = none := by kernel_rfl
theorem flY_read_thing : (flY l b t d h).lookup ("read_thing" : Str) = none := by kernel_rfl
theorem flY_lend_copy : (flY l b t d h).lookup ("lend_copy" : Str) = none := by kernel_rfl
theorem flY_ask_change : (flY l b t d h).lookup ("ask_change" : Str) = none := by kernel_rfl
theorem flY_try_change : (flY l b t d h).lookup ("try_change" : Str) = none := by kernel_rfl
theorem flY_give_back : (flY l b t d h).lookup ("give_back" : Str) = none := by kernel_rfl
theorem flY_drop_copy : (flY l b t d h).lookup ("drop_copy" : Str) = none := by kernel_rfl
theorem flY_stop_desk : (flY l b t d h).lookup ("stop_desk" : Str) = none := by kernel_rfl
theorem flY_wake_desk : (flY l b t d h).lookup ("wake_desk" : Str) = none := by kernel_rfl
theorem flY_find_desk : (flY l b t d h).lookup ("find_desk" : Str) = none := by kernel_rfl
theorem flY_find_thing : (flY l b t d h).lookup ("find_thing" : Str) = none := by kernel_rfl
theorem flY_check_asker : (flY l b t d h).lookup ("check_asker" : Str) = none := by kernel_rfl
theorem flY_check_keeper : (flY l b t d h).lookup ("check_keeper" : Str) = none := by kernel_rfl
theorem flY_clock_of : (flY l b t d h).lookup ("clock_of" : Str) = none := by kernel_rfl
theorem flY_kept_by : (flY l b t d h).lookup ("kept_by" : Str) = none := by kernel_rfl
theorem flY_all_values : (flY l b t d h).lookup ("all_values" : Str) = none := by kernel_rfl
theorem flY_all_copies : (flY l b t d h).lookup ("all_copies" : Str) = none := by kernel_rfl
end
theorem ins_ne {H : Hp} {a b C C' dx dx' : Addr} {f f' : List (Str × V)} (h1 : H a = some (.ins C dx f)) (h2 : H b = some (.ins C' dx' f')) (h : f ≠ f') : a ≠ b := ne_of h1 h2 (by intro z; injection z with _ _ z; exact h z)
theorem flC_flT {v n u k v' n' d q w : V} : flC v n u ≠ fl k v' n' d q w := fun z => by have := congrArg List.length z; exact absurd this (by simp [flC, flD, flY, fl])
theorem flD_flT {v n u k v' n' d q w : V} : flD v n u ≠ fl k v' n' d q w := fun z => by have := congrArg List.length z; exact absurd this (by simp [flC, flD, flY, fl])
theorem flY_flT {l b t dd h k v' n' d q w : V} : flY l b t dd h ≠ fl k v' n' d q w := fun z => by have := congrArg List.length z; exact absurd this (by simp [flC, flD, flY, fl])
theorem flY_flD {l b t dd h v n u : V} : flY l b t dd h ≠ flD v n u := fun z => by have := congrArg List.length z; exact absurd this (by simp [flC, flD, flY, fl])
theorem flY_flC {l b t dd h v n u : V} : flY l b t dd h ≠ flC v n u := fun z => by have := congrArg List.length z; exact absurd this (by simp [flC, flD, flY, fl])
theorem flC_flD {v n u v' n' u' : V} : flC v n u ≠ flD v' n' u' := fun z => by
  have := congrArg (fun l => l.map (·.1)) z
  exact absurd (show ([("value" : Str), ("version" : Str), ("until" : Str)] : List Str) = [("offset" : Str), ("stopped" : Str), ("copies" : Str)] from this) (by decide +kernel)
structure Cs where
  T : Addr
  C : Addr
  D : Addr
  Y : Addr
  er : Bad → Addr
structure TxtC (K : PySem.W.Frag) (C : Addr) : Prop where
  cl : Cls K C
  n1 : NoAttr K C "value"
  n2 : NoAttr K C "version"
  n3 : NoAttr K C "until"
structure TxtD (K : PySem.W.Frag) (C : Addr) : Prop where
  cl : Cls K C
  n1 : NoAttr K C "offset"
  n2 : NoAttr K C "stopped"
  n3 : NoAttr K C "copies"
structure TxtY (K : PySem.W.Frag) (C : Addr) : Prop where
  cl : Cls K C
  n1 : NoAttr K C "length"
  n2 : NoAttr K C "bound"
  n3 : NoAttr K C "true_time"
  n4 : NoAttr K C "desks"
  n5 : NoAttr K C "things"
structure Gh where
  ld : Addr
  dt : Addr
  da : Nat → Addr
  ca : Nat → Addr
  ta : Str → Addr
  na : Str → Addr
  names : List Str
def tkOf (G : Gh) : List (Key × V) := G.names.map fun n => (Sum.inr n, .ref (G.ta n))
theorem len_sub {α : Type} [DecidableEq α] : ∀ {l m : List α}, l.Nodup → (∀ x ∈ l, x ∈ m) → l.length ≤ m.length
  | [], _, _, _ => Nat.zero_le _
  | x :: r, m, nd, h => by
    have hx := h x List.mem_cons_self
    have ih := len_sub (l := r) (m := m.erase x) (List.nodup_cons.mp nd).2 fun y hy => (List.mem_erase_of_ne (a := y) (b := x) (fun e => (List.nodup_cons.mp nd).1 (by rw [← e]; exact hy))).mpr (h y (List.mem_cons_of_mem _ hy))
    have e := List.length_erase_of_mem hx
    have : 0 < m.length := List.length_pos_of_mem hx
    simp only [List.length_cons]
    omega
theorem valV_drop {κ : Type} [DecidableEq κ] (k j : κ) : ∀ kvs : List (κ × V), valV (dropK kvs k) j = if j = k then none else valV kvs j
  | [] => by simp [valV, dropK]
  | p :: r => by
    by_cases e : p.1 = k
    · rw [dropK_pos e, valV_drop k j r]
      by_cases ej : j = k
      · rw [if_pos ej, if_pos ej]
      · rw [if_neg ej, if_neg ej, valV_neg (fun z => ej (z.symm.trans e))]
    · rw [dropK_neg e]
      by_cases ep : p.1 = j
      · rw [valV_pos ep, valV_pos ep, if_neg (fun z => e (ep.trans z))]
      · rw [valV_neg ep, valV_neg ep, valV_drop k j r]
theorem mem_putK {κ : Type} [DecidableEq κ] {kvs : List (κ × V)} {k : κ} {v : V} {p : κ × V} (h : p ∈ putK kvs k v) : p ∈ kvs ∨ p = (k, v) := by
  unfold putK at h
  split at h
  · obtain ⟨q, hq, e⟩ := List.mem_map.mp h
    split at e
    · rename_i hk
      refine Or.inr ?_
      rw [← e, hk]
    · exact Or.inl (e ▸ hq)
  · rcases List.mem_append.mp h with z | z
    · exact Or.inl z
    · exact Or.inr (by simpa using z)
theorem nd_put {κ : Type} [DecidableEq κ] {kvs : List (κ × V)} {k : κ} (v : V) (nd : (kvs.map (·.1)).Nodup) : ((putK kvs k v).map (·.1)).Nodup := by
  cases e : valV kvs k with
  | none => exact nd_putK v nd e
  | some x =>
    have hk : (kvs.any fun kv => decide (kv.1 = k)) = true := by rw [valV_any, e]; rfl
    unfold putK
    rw [if_pos hk, List.map_map]
    have : ((fun kv : κ × V => kv.1) ∘ fun kv : κ × V => if kv.1 = k then (kv.1, v) else kv) = fun kv => kv.1 := by
      funext kv
      show (if kv.1 = k then (kv.1, v) else kv).1 = kv.1
      split <;> rfl
    rw [this]
    exact nd
theorem valV_mem {κ : Type} [DecidableEq κ] {kvs : List (κ × V)} {k : κ} {v : V} (h : valV kvs k = some v) : (k, v) ∈ kvs := by
  unfold valV at h
  cases e : kvs.find? fun kv => decide (kv.1 = k) with
  | none => rw [e] at h; cases h
  | some p =>
    rw [e] at h
    have h1 := List.mem_of_find?_eq_some e
    have h2 : p.1 = k := by simpa using List.find?_some e
    obtain rfl : p.2 = v := by simpa using h
    rw [← h2]
    exact h1
theorem valV_of_mem {κ : Type} [DecidableEq κ] : ∀ {kvs : List (κ × V)} {p : κ × V}, (kvs.map (·.1)).Nodup → p ∈ kvs → valV kvs p.1 = some p.2
  | q :: r, p, nd, h => by
    rcases List.mem_cons.mp h with e | e
    · rw [e]; exact valV_pos rfl
    · have nd' := List.nodup_cons.mp (show (q.1 :: r.map (·.1)).Nodup from nd)
      rw [valV_neg (fun z => nd'.1 (by rw [z]; exact List.mem_map.mpr ⟨p, e, rfl⟩))]
      exact valV_of_mem nd'.2 e
open Y
/-- a keeper's notes -/
structure NoteR (p : Pl) (kvs : List (Key × V)) (f : Int → Option Int) : Prop where
  nd : (kvs.map (·.1)).Nodup
  ks : ∀ kv ∈ kvs, ∃ d u, kv = (Sum.inl d, .int u) ∧ isDesk p d = true
  val : ∀ d, valV kvs (Sum.inl d) = (f d).map V.int
theorem NoteR.nil {p : Pl} : NoteR p [] fun _ => none := ⟨List.nodup_nil, fun _ h => (nomatch h), fun _ => rfl⟩
theorem isDesk_iff {p : Pl} {d : Int} : isDesk p d = true ↔ 0 ≤ d ∧ d < p.count := by
  unfold isDesk
  simp only [Bool.and_eq_true, decide_eq_true_eq]
theorem isDesk_not {p : Pl} {d : Int} : isDesk p d = false ↔ ¬ (0 ≤ d ∧ d < p.count) := by
  rw [← isDesk_iff]; simp
section
variable {p : Pl} {kvs : List (Key × V)} {f : Int → Option Int}
theorem NoteR.put (h : NoteR p kvs f) {d u : Int} (hd : isDesk p d = true) : NoteR p (putK kvs (Sum.inl d) (.int u)) (set1 f d (some u)) := by
  refine ⟨nd_put _ h.nd, fun kv hk => ?_, fun e => ?_⟩
  · rcases mem_putK hk with z | z
    · exact h.ks kv z
    · exact ⟨d, u, z, hd⟩
  · rw [valV_put]
    by_cases z : e = d
    · rw [z, if_pos rfl, set1_same]; rfl
    · rw [if_neg (fun q => z (Sum.inl.inj q)), set1_ne z]; exact h.val e
theorem NoteR.drop (h : NoteR p kvs f) (d : Int) : NoteR p (dropK kvs (Sum.inl d)) (set1 f d none) := by
  refine ⟨nd_dropK h.nd, fun kv hk => h.ks kv (dropK_mem hk), fun e => ?_⟩
  rw [valV_drop]
  by_cases z : e = d
  · rw [z, if_pos rfl, set1_same]; rfl
  · rw [if_neg (fun q => z (Sum.inl.inj q)), set1_ne z]; exact h.val e
theorem NoteR.ints (h : NoteR p kvs f) : Ints kvs := fun kv hk => by
  obtain ⟨d, u, e, _⟩ := h.ks kv hk
  exact ⟨u, by rw [e]⟩
theorem NoteR.len (h : NoteR p kvs f) : kvs.length ≤ p.count := by
  have := len_sub (m := (List.range p.count).map fun (i : Nat) => (Sum.inl (i : Int) : Key)) h.nd fun k hk => by
    obtain ⟨kv, h1, h2⟩ := List.mem_map.mp hk
    obtain ⟨d, u, e, hd⟩ := h.ks kv h1
    obtain ⟨h3, h4⟩ := isDesk_iff.mp hd
    refine List.mem_map.mpr ⟨d.toNat, List.mem_range.mpr (by omega), ?_⟩
    rw [← h2, e]
    show (Sum.inl ((d.toNat : Nat) : Int) : Key) = Sum.inl d
    congr 1
    omega
  simpa using this
theorem NoteR.mem (h : NoteR p kvs f) (u : Int) : u ∈ valsOf kvs ↔ ∃ d, isDesk p d = true ∧ f d = some u := by
  unfold valsOf
  rw [List.mem_filterMap]
  constructor
  · rintro ⟨kv, h1, h2⟩
    obtain ⟨d, u', e, hd⟩ := h.ks kv h1
    have hv := valV_of_mem h.nd h1
    rw [e] at h2 hv
    have h2 : u' = u := by simpa using h2
    subst h2
    have := h.val d
    rw [hv] at this
    refine ⟨d, hd, ?_⟩
    cases z : f d with
    | none => rw [z] at this; cases this
    | some x => rw [z] at this; have := Option.some.inj this; cases this; rfl
  · rintro ⟨d, hd, e⟩
    have hv := h.val d
    rw [e] at hv
    exact ⟨_, valV_mem hv, rfl⟩
end
structure TR (p : Pl) (τ : T) (t : Th) : Prop where
  k : τ.keeper = t.keeper
  v : τ.value = t.value
  n : τ.version = t.version
  q : τ.quiet = t.quiet
  w : τ.waiting = t.waiting
  l : NoteR p τ.notes t.lent
theorem TR.held {p : Pl} {τ : T} {t : Th} (h : TR p τ t) (c : Int) : heldO c (noted τ) = heldO c (Y.noted p t) := heldO_congr fun u => by
  rw [mem_noted, ← h.l.mem u, ← h.q]
  unfold Fb.noted
  rw [List.mem_append]
  cases τ.quiet with
  | none => simp
  | some z => simp [eq_comm]
def anD : An → PyData
  | .int i => .int i
  | .bl b => .bool b
  | .own v n => .tuple [.str "own", .int v, .int n]
  | .fresh v n => .tuple [.str "fresh", .int v, .int n]
  | .lent v n => .tuple [.str "lent", .int v, .int n]
  | .waits u => .tuple [.str "waits", .int u]
  | .changed n => .tuple [.str "changed", .int n]
  | .noDesk => .str "no desk"
  | .noThing => .str "no thing"
  | .noClock => .str "no clock"
  | .stopped => .str "stopped"
  | .noAnswer => .str "no answer"
  | .notNow => .str "not now"
  | .nothing => .str "nothing"
theorem TR.att {p : Pl} {τ : T} {t : Th} (h : TR p τ t) (c : Int) : ansD (Fb.att τ c).1 = anD (attempt p c t).1 ∧ TR p (Fb.att τ c).2 (attempt p c t).2 ∧ badOf (attempt p c t).1 = none ∧ (attempt p c t).2.keeper = t.keeper := by
  unfold Fb.att attempt
  rw [h.w, h.held c]
  cases t.waiting with
  | none => exact ⟨rfl, h, rfl, rfl⟩
  | some v =>
    dsimp only
    cases heldO c (Y.noted p t) with
    | some u => exact ⟨rfl, h, rfl, rfl⟩
    | none =>
      refine ⟨?_, ⟨h.k, rfl, ?_, rfl, rfl, NoteR.nil⟩, rfl, rfl⟩
      · show PyData.tuple [.str "changed", .int (τ.version + 1)] = .tuple [.str "changed", .int (t.version + 1)]
        rw [h.n]
      · show τ.version + 1 = t.version + 1
        rw [h.n]
/-- a desk's copies -/
structure CopR (c : Addr) (H : Hp) (kvs : List (Key × V)) (names : List Str) (f : Str → Option Cp) : Prop where
  nd : (kvs.map (·.1)).Nodup
  ks : ∀ kv ∈ kvs, ∃ n, kv.1 = Sum.inr n ∧ n ∈ names
  no : ∀ n, f n = none → valV kvs (Sum.inr n) = none
  so : ∀ n x, f n = some x → ∃ q dx, valV kvs (Sum.inr n) = some (.ref q) ∧ H q = some (.ins c dx (flC (.int x.value) (.int x.version) (.int x.till)))
section
variable {c : Addr} {H H' : Hp} {kvs : List (Key × V)} {names : List Str} {f : Str → Option Cp}
theorem CopR.nil : CopR c H [] names fun _ => none := ⟨List.nodup_nil, fun _ h => (nomatch h), fun _ _ => rfl, fun _ _ h => (nomatch h)⟩
theorem CopR.mono (h : CopR c H kvs names f) (k : ∀ q dx v n u, H q = some (.ins c dx (flC v n u)) → H' q = some (.ins c dx (flC v n u))) : CopR c H' kvs names f :=
  ⟨h.nd, h.ks, h.no, fun n x e => by
    obtain ⟨q, dx, h1, h2⟩ := h.so n x e
    exact ⟨q, dx, h1, k _ _ _ _ _ h2⟩⟩
theorem CopR.len (h : CopR c H kvs names f) : kvs.length ≤ names.length := by
  have := len_sub (m := names.map fun n => (Sum.inr n : Key)) h.nd fun k hk => by
    obtain ⟨kv, h1, h2⟩ := List.mem_map.mp hk
    obtain ⟨n, h3, h4⟩ := h.ks kv h1
    exact List.mem_map.mpr ⟨n, h4, by rw [← h2, h3]⟩
  simpa using this
theorem CopR.drop (h : CopR c H kvs names f) (n : Str) : CopR c H (dropK kvs (Sum.inr n)) names (set1 f n none) := by
  refine ⟨nd_dropK h.nd, fun kv hk => h.ks kv (dropK_mem hk), fun m e => ?_, fun m x e => ?_⟩
  · rw [valV_drop]
    by_cases z : m = n
    · rw [z, if_pos rfl]
    · rw [if_neg (fun q => z (Sum.inr.inj q))]
      rw [set1_ne z] at e
      exact h.no m e
  · by_cases z : m = n
    · rw [z, set1_same] at e; cases e
    · rw [set1_ne z] at e
      rw [valV_drop, if_neg (fun q => z (Sum.inr.inj q))]
      exact h.so m x e
theorem CopR.put (h : CopR c H kvs names f) {n : Str} {q dx : Addr} {x : Cp} (hn : n ∈ names) (hq : H q = some (.ins c dx (flC (.int x.value) (.int x.version) (.int x.till)))) : CopR c H (putK kvs (Sum.inr n) (.ref q)) names (set1 f n (some x)) := by
  refine ⟨nd_put _ h.nd, fun kv hk => ?_, fun m e => ?_, fun m y e => ?_⟩
  · rcases mem_putK hk with z | z
    · exact h.ks kv z
    · exact ⟨n, by rw [z], hn⟩
  · by_cases z : m = n
    · rw [z, set1_same] at e; cases e
    · rw [set1_ne z] at e
      rw [valV_put, if_neg (fun q => z (Sum.inr.inj q))]
      exact h.no m e
  · by_cases z : m = n
    · rw [z, set1_same] at e
      cases e
      exact ⟨q, dx, by rw [valV_put, z, if_pos rfl], hq⟩
    · rw [set1_ne z] at e
      rw [valV_put, if_neg (fun q => z (Sum.inr.inj q))]
      exact h.so m y e
theorem CopR.some (h : CopR c H kvs names f) (n : Str) : (valV kvs (Sum.inr n)).isSome = (f n).isSome := by
  cases e : f n with
  | none => rw [h.no n e]; rfl
  | some x =>
    obtain ⟨q, dx, h1, _⟩ := h.so n x e
    rw [h1]; rfl
end
/-- the yard as it stands in the heap -/
structure Yd (c : Cs) (H : Hp) (y : Addr) (G : Gh) (p : Pl) (s : S Str) : Prop where
  yo : ∃ dx, H y = some (.ins c.Y dx (flY (.int p.length) (.int p.bound) (.int s.time) (.ref G.ld) (.ref G.dt)))
  ld : H G.ld = some (.lst ((List.range p.count).map fun i => .ref (G.da i)))
  dt : H G.dt = some (.dK (tkOf G))
  desk : ∀ i : Nat, i < p.count → ∃ dx, H (G.da i) = some (.ins c.D dx (flD (.int (s.off i)) (.bl (!s.up i)) (.ref (G.ca i))))
  cops : ∀ i : Nat, i < p.count → ∃ kvs, H (G.ca i) = some (.dK kvs) ∧ CopR c.C H kvs G.names (s.cp i)
  thing : ∀ n t, s.th n = some t → n ∈ G.names ∧ isDesk p t.keeper = true ∧ ∃ τ, ThAt c.T H (G.ta n) (G.na n) τ ∧ TR p τ t
  no : ∀ n, s.th n = Option.none → n ∉ G.names
  nd : G.names.Nodup
  dI : ∀ i j, i < p.count → j < p.count → G.da i = G.da j → i = j
  cI : ∀ i j, i < p.count → j < p.count → G.ca i = G.ca j → i = j
  tI : ∀ m n, m ∈ G.names → n ∈ G.names → G.ta m = G.ta n → m = n
  nI : ∀ m n, m ∈ G.names → n ∈ G.names → G.na m = G.na n → m = n
  cn : ∀ i n, i < p.count → n ∈ G.names → G.ca i ≠ G.na n
  dc : ∀ i, i < p.count → G.dt ≠ G.ca i
  dn : ∀ n, n ∈ G.names → G.dt ≠ G.na n
  small : p.count ≤ 500 ∧ G.names.length ≤ 500
/-- what is the yard's own, and may change -/
def Own (y : Addr) (G : Gh) (p : Pl) (b : Addr) : Prop := b = y ∨ (∃ i, i < p.count ∧ (b = G.da i ∨ b = G.ca i)) ∨ ∃ n, n ∈ G.names ∧ (b = G.ta n ∨ b = G.na n)
/-- on from H, G to H', G' -/
structure Fw (y : Addr) (p : Pl) (H : Hp) (G : Gh) (H' : Hp) (G' : Gh) : Prop where
  keep : ∀ b o, H b = some o → ¬ Own y G p b → H' b = some o
  own : ∀ b, Own y G' p b → Own y G p b ∨ H b = none
  ld : G'.ld = G.ld
theorem Fw.refl {y : Addr} {p : Pl} {H : Hp} {G : Gh} : Fw y p H G H G := ⟨fun _ _ e _ => e, fun _ h => Or.inl h, rfl⟩
theorem Fw.same {y : Addr} {p : Pl} {H H' : Hp} {G : Gh} (s : Same H H') : Fw y p H G H' G := ⟨fun b o e _ => s b o e, fun _ h => Or.inl h, rfl⟩
theorem Fw.trans {y : Addr} {p : Pl} {H H1 H2 : Hp} {G G1 G2 : Gh} (a : Fw y p H G H1 G1) (b : Fw y p H1 G1 H2 G2) : Fw y p H G H2 G2 := by
  refine ⟨fun x o e n => b.keep x o (a.keep x o e n) fun z => ?_, fun x h => ?_, b.ld.trans a.ld⟩
  · rcases a.own x z with q | q
    · exact n q
    · rw [e] at q; cases q
  · rcases b.own x h with q | q
    · exact a.own x q
    · cases e : H x with
      | none => exact Or.inr rfl
      | some o =>
        by_cases n : Own y G p x
        · exact Or.inl n
        · rw [a.keep x o e n] at q; cases q
section
variable {c : Cs} {H H' : Hp} {y : Addr} {G : Gh} {p : Pl} {s : S Str}
theorem Yd.deskAt (h : Yd c H y G p s) {d : Int} (hd : isDesk p d = true) : d.toNat < p.count ∧ ((d.toNat : Nat) : Int) = d := by
  obtain ⟨h1, h2⟩ := isDesk_iff.mp hd
  exact ⟨by omega, by omega⟩
theorem Yd.same (h : Yd c H y G p s) (k : Same H H') : Yd c H' y G p s where
  yo := let ⟨dx, e⟩ := h.yo; ⟨dx, k _ _ e⟩
  ld := k _ _ h.ld
  dt := k _ _ h.dt
  desk := fun i hi => let ⟨dx, e⟩ := h.desk i hi; ⟨dx, k _ _ e⟩
  cops := fun i hi => let ⟨kvs, e, r⟩ := h.cops i hi; ⟨kvs, k _ _ e, r.mono fun q dx v n u e => k _ _ e⟩
  thing := fun n t e => let ⟨h1, h2, τ, h3, h4⟩ := h.thing n t e; ⟨h1, h2, τ, h3.same k, h4⟩
  no := h.no
  nd := h.nd
  dI := h.dI
  cI := h.cI
  tI := h.tI
  nI := h.nI
  cn := h.cn
  dc := h.dc
  dn := h.dn
  small := h.small
/-- another list changes -/
theorem Yd.but (h : Yd c H y G p s) {D : Addr} {ys : List V} (hD : H D = some (.lst ys)) (hne : D ≠ G.ld) (kp : ∀ b o, H b = some o → b ≠ D → H' b = some o) : Yd c H' y G p s := by
  have k : ∀ b o, H b = some o → (∀ l, o ≠ .lst l) → H' b = some o := fun b o e n => kp b o e fun z => by rw [z, hD] at e; cases e; exact n _ rfl
  have ki : ∀ {b C dx f}, H b = some (.ins C dx f) → H' b = some (.ins C dx f) := fun {b C dx f} e => k _ _ e (by intro l z; cases z)
  have kd : ∀ {b l}, H b = some (.dK l) → H' b = some (.dK l) := fun {b l} e => k _ _ e (by intro l z; cases z)
  exact ⟨let ⟨dx, e⟩ := h.yo; ⟨dx, ki e⟩, kp _ _ h.ld hne.symm, kd h.dt, fun i hi => let ⟨dx, e⟩ := h.desk i hi; ⟨dx, ki e⟩, fun i hi => let ⟨kvs, e, r⟩ := h.cops i hi; ⟨kvs, kd e, r.mono fun q dx v n u e => ki e⟩,
    fun n t e => let ⟨h1, h2, τ, ⟨⟨dx, h3⟩, h4⟩, h5⟩ := h.thing n t e; ⟨h1, h2, τ, ⟨⟨dx, ki h3⟩, kd h4⟩, h5⟩, h.no, h.nd, h.dI, h.cI, h.tI, h.nI, h.cn, h.dc, h.dn, h.small⟩
theorem Yd.mem (h : Yd c H y G p s) {n : Str} (hn : n ∈ G.names) : ∃ t, s.th n = some t := by
  cases e : s.th n with
  | none => exact absurd hn (h.no n e)
  | some t => exact ⟨t, rfl⟩
theorem Yd.valT (h : Yd c H y G p s) (n : Str) : valV (tkOf G) (Sum.inr n) = (s.th n).map fun _ => .ref (G.ta n) := by
  have key : ∀ l : List Str, valV (l.map fun n => ((Sum.inr n : Key), V.ref (G.ta n))) (Sum.inr n) = if n ∈ l then some (.ref (G.ta n)) else none := by
    intro l
    induction l with
    | nil => rfl
    | cons m r ih =>
      rw [List.map_cons]
      by_cases e : m = n
      · rw [valV_pos (by rw [e]), if_pos (by rw [e]; exact List.mem_cons_self), e]
      · rw [valV_neg (fun z => e (Sum.inr.inj z)), ih]
        have : (n ∈ m :: r) ↔ n ∈ r := ⟨fun z => (List.mem_cons.mp z).resolve_left (fun q => e q.symm), fun z => List.mem_cons_of_mem _ z⟩
        simp only [this]
  unfold tkOf
  rw [key]
  cases e : s.th n with
  | none => rw [if_neg (h.no n e)]; rfl
  | some t => rw [if_pos (h.thing n t e).1]; rfl
/-- a thing changes, or its notes lie elsewhere -/
theorem Yd.setT (h : Yd c H y G p s) {n : Str} {t t' : Th} {τ' : T} {d' : Addr} (ht : s.th n = some t) (kp : Fr2 (G.ta n) (G.na n) H H') (hd : d' = G.na n ∨ H d' = none) (h1 : ThAt c.T H' (G.ta n) d' τ') (h2 : TR p τ' t') (hk : t'.keeper = t.keeper) :
    Yd c H' y { G with na := set1 G.na n d' } p { s with th := set1 s.th n (some t') } ∧ Fw y p H G H' { G with na := set1 G.na n d' } := by
  obtain ⟨hn, hkp, τ, hτ, hr⟩ := h.thing n t ht
  obtain ⟨⟨dxt, ht1⟩, ht2⟩ := id hτ
  have nk : ∀ {b o}, H b = some o → isObj o = true → o ≠ HO.dK τ.notes → (∀ C dx f, o = .ins C dx f → f ≠ fl (.int τ.keeper) (.int τ.value) (.int τ.version) (.ref (G.na n)) (ov τ.quiet) (ov τ.waiting)) → H' b = some o := fun {b o} e _ n1 n2 =>
    kp b o e (fun z => by rw [z, ht1] at e; cases e; exact n2 _ _ _ rfl rfl) fun z => by rw [z, ht2] at e; cases e; exact n1 rfl
  have kin : ∀ {b C dx f}, H b = some (.ins C dx f) → f ≠ fl (.int τ.keeper) (.int τ.value) (.int τ.version) (.ref (G.na n)) (ov τ.quiet) (ov τ.waiting) → H' b = some (.ins C dx f) := fun {b C dx f} e nf =>
    kp b _ e (fun z => by rw [z, ht1] at e; cases e; exact nf rfl) fun z => by rw [z, ht2] at e; cases e
  have kdK : ∀ {b l}, H b = some (.dK l) → b ≠ G.na n → H' b = some (.dK l) := fun {b l} e nb =>
    kp b _ e (fun z => by rw [z, ht1] at e; cases e) nb
  have na' : ∀ m, m ∈ G.names → m ≠ n → set1 G.na n d' m = G.na m := fun m _ e => set1_ne e
  have old : ∀ b o, H b = some o → b ≠ G.na n → b ≠ d' := fun b o e nb z => by
    rcases hd with q | q
    · exact nb (z.trans q)
    · rw [z, q] at e; cases e
  refine ⟨⟨?_, ?_, kdK h.dt (h.dn n hn), fun i hi => ?_, fun i hi => ?_, fun m u e => ?_, fun m e => ?_, h.nd, h.dI, h.cI, h.tI, fun a b ha hb e => ?_, fun i m hi hm => ?_, h.dc, fun m hm => ?_, h.small⟩, ⟨fun b o e nb => ?_, fun b hb => ?_, rfl⟩⟩
  · obtain ⟨dx, e⟩ := h.yo
    exact ⟨dx, kin e flY_flT⟩
  · exact kp _ _ h.ld (fun z => by have e := h.ld; rw [z, ht1] at e; cases e) fun z => by have e := h.ld; rw [z, ht2] at e; cases e
  · obtain ⟨dx, e⟩ := h.desk i hi
    exact ⟨dx, kin e flD_flT⟩
  · obtain ⟨kvs, e, r⟩ := h.cops i hi
    exact ⟨kvs, kdK e (h.cn i n hi hn), r.mono fun q dx v n u e => kin e flC_flT⟩
  · by_cases z : m = n
    · subst z
      have e : some t' = some u := by rw [← e]; exact set1_same.symm
      cases e
      refine ⟨hn, by rw [hk]; exact hkp, τ', ?_, h2⟩
      show ThAt c.T H' (G.ta m) (set1 G.na m d' m) τ'
      rw [set1_same]; exact h1
    · have e : s.th m = some u := by rw [← e]; exact (set1_ne z).symm
      obtain ⟨hm, hk2, τ2, ⟨⟨dx2, e1⟩, e2⟩, r2⟩ := h.thing m u e
      refine ⟨hm, hk2, τ2, ?_, r2⟩
      show ThAt c.T H' (G.ta m) (set1 G.na n d' m) τ2
      rw [set1_ne z]
      refine ⟨⟨dx2, kp _ _ e1 (fun q => z (h.tI m n hm hn q)) fun q => by rw [q, ht2] at e1; cases e1⟩, kdK e2 fun q => z (h.nI m n hm hn q)⟩
  · by_cases z : m = n
    · subst z
      have : some t' = none := by rw [← e]; exact set1_same.symm
      cases this
    · exact h.no m (by rw [← e]; exact (set1_ne z).symm)
  · by_cases za : a = n
    · by_cases zb : b = n
      · exact za.trans zb.symm
      · exfalso
        have e : d' = G.na b := by
          have e : set1 G.na n d' a = set1 G.na n d' b := e
          rw [za, set1_same, set1_ne zb] at e; exact e
        obtain ⟨u, hu⟩ := h.mem hb
        obtain ⟨_, _, _, ⟨_, e2⟩, _⟩ := h.thing b u hu
        exact old _ _ e2 (fun q => zb (h.nI b n hb hn q)) e.symm
    · by_cases zb : b = n
      · exfalso
        have e : G.na a = d' := by
          have e : set1 G.na n d' a = set1 G.na n d' b := e
          rw [zb, set1_same, set1_ne za] at e; exact e
        obtain ⟨u, hu⟩ := h.mem ha
        obtain ⟨_, _, _, ⟨_, e2⟩, _⟩ := h.thing a u hu
        exact old _ _ e2 (fun q => za (h.nI a n ha hn q)) e
      · have e : set1 G.na n d' a = set1 G.na n d' b := e
        rw [set1_ne za, set1_ne zb] at e
        exact h.nI a b ha hb e
  · by_cases z : m = n
    · show G.ca i ≠ set1 G.na n d' m
      rw [z, set1_same]
      obtain ⟨kvs, e, _⟩ := h.cops i hi
      exact old _ _ e (h.cn i n hi hn)
    · show G.ca i ≠ set1 G.na n d' m
      rw [set1_ne z]; exact h.cn i m hi hm
  · by_cases z : m = n
    · show G.dt ≠ set1 G.na n d' m
      rw [z, set1_same]
      exact old _ _ h.dt (h.dn n hn)
    · show G.dt ≠ set1 G.na n d' m
      rw [set1_ne z]; exact h.dn m hm
  · exact kp b o e (fun z => nb (Or.inr (Or.inr ⟨n, hn, Or.inl z⟩))) fun z => nb (Or.inr (Or.inr ⟨n, hn, Or.inr z⟩))
  · rcases hb with z | z | ⟨m, hm, z | z⟩
    · exact Or.inl (Or.inl z)
    · exact Or.inl (Or.inr (Or.inl z))
    · exact Or.inl (Or.inr (Or.inr ⟨m, hm, Or.inl z⟩))
    · by_cases q : m = n
      · have z : b = d' := by
          have z : b = set1 G.na n d' m := z
          rw [q, set1_same] at z; exact z
        rcases hd with w | w
        · exact Or.inl (Or.inr (Or.inr ⟨n, hn, Or.inr (z.trans w)⟩))
        · exact Or.inr (z ▸ w)
      · have z : b = G.na m := by
          have z : b = set1 G.na n d' m := z
          rw [set1_ne q] at z; exact z
        exact Or.inl (Or.inr (Or.inr ⟨m, hm, Or.inr z⟩))
/-- a desk's copies change -/
theorem Yd.setC (h : Yd c H y G p s) {i : Nat} {kvs' : List (Key × V)} {f' : Str → Option Cp} (hi : i < p.count) (kp : ∀ b o, H b = some o → b ≠ G.ca i → H' b = some o) (e' : H' (G.ca i) = some (.dK kvs')) (r' : CopR c.C H' kvs' G.names f') :
    Yd c H' y G p { s with cp := set1 s.cp (i : Int) f' } ∧ Fw y p H G H' G := by
  obtain ⟨kvs, e, r⟩ := h.cops i hi
  have kin : ∀ {b C dx f}, H b = some (.ins C dx f) → H' b = some (.ins C dx f) := fun {b C dx f} q => kp b _ q fun z => by rw [z, e] at q; cases q
  refine ⟨⟨?_, ?_, kp _ _ h.dt (h.dc i hi), fun j hj => ?_, fun j hj => ?_, fun m u q => ?_, h.no, h.nd, h.dI, h.cI, h.tI, h.nI, h.cn, h.dc, h.dn, h.small⟩, ⟨fun b o q nb => kp b o q fun z => nb (Or.inr (Or.inl ⟨i, hi, Or.inr z⟩)), fun b hb => Or.inl hb, rfl⟩⟩
  · obtain ⟨dx, q⟩ := h.yo
    exact ⟨dx, kin q⟩
  · exact kp _ _ h.ld fun z => by have q := h.ld; rw [z, e] at q; cases q
  · obtain ⟨dx, q⟩ := h.desk j hj
    exact ⟨dx, kin q⟩
  · by_cases z : j = i
    · subst z
      refine ⟨kvs', e', ?_⟩
      show CopR c.C H' kvs' G.names (set1 s.cp (j : Int) f' (j : Int))
      rw [set1_same]; exact r'
    · obtain ⟨l, q, r2⟩ := h.cops j hj
      refine ⟨l, kp _ _ q fun w => z (h.cI j i hj hi w), ?_⟩
      show CopR c.C H' l G.names (set1 s.cp (i : Int) f' (j : Int))
      rw [set1_ne (by omega)]
      exact r2.mono fun q dx v n u e => kin e
  · obtain ⟨hm, hk, τ, ⟨⟨dx, e1⟩, e2⟩, r2⟩ := h.thing m u q
    exact ⟨hm, hk, τ, ⟨⟨dx, kin e1⟩, kp _ _ e2 fun w => h.cn i m hi hm w.symm⟩, r2⟩
/-- a desk itself changes: offset, stopped, and where its copies lie (emptied) or not -/
theorem Yd.setD (h : Yd c H y G p s) {i : Nat} {o : Int} {u : Bool} {dx' : Addr} (hi : i < p.count) (kp : ∀ b v, H b = some v → b ≠ G.da i → H' b = some v) (e' : H' (G.da i) = some (.ins c.D dx' (flD (.int o) (.bl (!u)) (.ref (G.ca i))))) :
    Yd c H' y G p { s with off := set1 s.off (i : Int) o, up := set1 s.up (i : Int) u } ∧ Fw y p H G H' G := by
  obtain ⟨dx0, e⟩ := h.desk i hi
  have kin : ∀ {b C dx f}, H b = some (.ins C dx f) → f ≠ flD (.int (s.off i)) (.bl (!s.up i)) (.ref (G.ca i)) → H' b = some (.ins C dx f) := fun {b C dx f} q nf => kp b _ q fun z => by rw [z, e] at q; cases q; exact nf rfl
  have kdK : ∀ {b l}, H b = some (.dK l) → H' b = some (.dK l) := fun {b l} q => kp b _ q fun z => by rw [z, e] at q; cases q
  refine ⟨⟨?_, ?_, kdK h.dt, fun j hj => ?_, fun j hj => ?_, fun m t q => ?_, h.no, h.nd, h.dI, h.cI, h.tI, h.nI, h.cn, h.dc, h.dn, h.small⟩, ⟨fun b v q nb => kp b v q fun z => nb (Or.inr (Or.inl ⟨i, hi, Or.inl z⟩)), fun b hb => Or.inl hb, rfl⟩⟩
  · obtain ⟨dx, q⟩ := h.yo
    exact ⟨dx, kin q flY_flD⟩
  · exact kp _ _ h.ld fun z => by have q := h.ld; rw [z, e] at q; cases q
  · by_cases z : j = i
    · subst z
      refine ⟨dx', ?_⟩
      show H' (G.da j) = some (.ins c.D dx' (flD (.int (set1 s.off (j : Int) o (j : Int))) (.bl (!set1 s.up (j : Int) u (j : Int))) (.ref (G.ca j))))
      rw [set1_same, set1_same]; exact e'
    · obtain ⟨dx, q⟩ := h.desk j hj
      refine ⟨dx, ?_⟩
      show H' (G.da j) = some (.ins c.D dx (flD (.int (set1 s.off (i : Int) o (j : Int))) (.bl (!set1 s.up (i : Int) u (j : Int))) (.ref (G.ca j))))
      rw [set1_ne (by omega), set1_ne (by omega)]
      exact kp _ _ q fun w => z (h.dI j i hj hi w)
  · obtain ⟨l, q, r2⟩ := h.cops j hj
    exact ⟨l, kdK q, r2.mono fun q dx v n u e => kin e flC_flD⟩
  · obtain ⟨hm, hk, τ, ⟨⟨dx, e1⟩, e2⟩, r2⟩ := h.thing m t q
    exact ⟨hm, hk, τ, ⟨⟨dx, kin e1 flD_flT.symm⟩, kdK e2⟩, r2⟩
/-- a desk is stopped: its copies lie elsewhere, and there are none -/
theorem Yd.stopped (h : Yd c H y G p s) {i : Nat} {d' dx' : Addr} {u : Bool} (hi : i < p.count) (kp : ∀ b v, H b = some v → b ≠ G.da i → H' b = some v) (hd : H d' = none) (ed : H' d' = some (.dK [])) (e' : H' (G.da i) = some (.ins c.D dx' (flD (.int (s.off i)) (.bl (!u)) (.ref d')))) :
    Yd c H' y { G with ca := set1 G.ca i d' } p { s with up := set1 s.up (i : Int) u, cp := set1 s.cp (i : Int) fun _ => Option.none } ∧ Fw y p H G H' { G with ca := set1 G.ca i d' } := by
  obtain ⟨dx0, e⟩ := h.desk i hi
  have kin : ∀ {b C dx f}, H b = some (.ins C dx f) → f ≠ flD (.int (s.off i)) (.bl (!s.up i)) (.ref (G.ca i)) → H' b = some (.ins C dx f) := fun {b C dx f} q nf => kp b _ q fun z => by rw [z, e] at q; cases q; exact nf rfl
  have kdK : ∀ {b l}, H b = some (.dK l) → H' b = some (.dK l) := fun {b l} q => kp b _ q fun z => by rw [z, e] at q; cases q
  have old : ∀ {b v}, H b = some v → b ≠ d' := fun {b v} q z => by rw [z, hd] at q; cases q
  have cold : ∀ j, j < p.count → G.ca j ≠ d' := fun j hj => let ⟨_, q, _⟩ := h.cops j hj; old q
  refine ⟨⟨?_, ?_, kdK h.dt, fun j hj => ?_, fun j hj => ?_, fun m t q => ?_, h.no, h.nd, h.dI, fun a b ha hb q => ?_, h.tI, h.nI, fun j m hj hm => ?_, fun j hj => ?_, h.dn, h.small⟩, ⟨fun b v q nb => kp b v q fun z => nb (Or.inr (Or.inl ⟨i, hi, Or.inl z⟩)), fun b hb => ?_, rfl⟩⟩
  · obtain ⟨dx, q⟩ := h.yo
    exact ⟨dx, kin q flY_flD⟩
  · exact kp _ _ h.ld fun z => by have q := h.ld; rw [z, e] at q; cases q
  · by_cases z : j = i
    · subst z
      refine ⟨dx', ?_⟩
      show H' (G.da j) = some (.ins c.D dx' (flD (.int (s.off j)) (.bl (!set1 s.up (j : Int) u (j : Int))) (.ref (set1 G.ca j d' j))))
      rw [set1_same, set1_same]; exact e'
    · obtain ⟨dx, q⟩ := h.desk j hj
      refine ⟨dx, ?_⟩
      show H' (G.da j) = some (.ins c.D dx (flD (.int (s.off j)) (.bl (!set1 s.up (i : Int) u (j : Int))) (.ref (set1 G.ca i d' j))))
      rw [set1_ne (by omega), set1_ne z]
      exact kp _ _ q fun w => z (h.dI j i hj hi w)
  · by_cases z : j = i
    · subst z
      refine ⟨[], ?_, ?_⟩
      · show H' (set1 G.ca j d' j) = _
        rw [set1_same]; exact ed
      · show CopR c.C H' [] G.names (set1 s.cp (j : Int) (fun _ => Option.none) (j : Int))
        rw [set1_same]; exact CopR.nil
    · obtain ⟨l, q, r2⟩ := h.cops j hj
      refine ⟨l, ?_, ?_⟩
      · show H' (set1 G.ca i d' j) = _
        rw [set1_ne z]; exact kdK q
      · show CopR c.C H' l G.names (set1 s.cp (i : Int) (fun _ => Option.none) (j : Int))
        rw [set1_ne (by omega)]
        exact r2.mono fun q dx v n u e => kin e flC_flD
  · obtain ⟨hm, hk, τ, ⟨⟨dx, e1⟩, e2⟩, r2⟩ := h.thing m t q
    exact ⟨hm, hk, τ, ⟨⟨dx, kin e1 flD_flT.symm⟩, kdK e2⟩, r2⟩
  · have q : set1 G.ca i d' a = set1 G.ca i d' b := q
    by_cases za : a = i
    · by_cases zb : b = i
      · omega
      · rw [za, set1_same, set1_ne zb] at q
        exact absurd q.symm (cold b hb)
    · by_cases zb : b = i
      · rw [zb, set1_same, set1_ne za] at q
        exact absurd q (cold a ha)
      · rw [set1_ne za, set1_ne zb] at q
        exact h.cI a b ha hb q
  · show set1 G.ca i d' j ≠ G.na m
    by_cases z : j = i
    · rw [z, set1_same]
      obtain ⟨t, ht⟩ := h.mem hm
      obtain ⟨_, _, _, ⟨_, e2⟩, _⟩ := h.thing m t ht
      exact (old e2).symm
    · rw [set1_ne z]; exact h.cn j m hj hm
  · show G.dt ≠ set1 G.ca i d' j
    by_cases z : j = i
    · rw [z, set1_same]; exact old h.dt
    · rw [set1_ne z]; exact h.dc j hj
  · rcases hb with z | ⟨j, hj, z | z⟩ | z
    · exact Or.inl (Or.inl z)
    · exact Or.inl (Or.inr (Or.inl ⟨j, hj, Or.inl z⟩))
    · by_cases q : j = i
      · have z : b = d' := by
          have z : b = set1 G.ca i d' j := z
          rw [q, set1_same] at z; exact z
        exact Or.inr (z ▸ hd)
      · have z : b = G.ca j := by
          have z : b = set1 G.ca i d' j := z
          rw [set1_ne q] at z; exact z
        exact Or.inl (Or.inr (Or.inl ⟨j, hj, Or.inr z⟩))
    · exact Or.inl (Or.inr (Or.inr z))
/-- time passes -/
theorem Yd.setY (h : Yd c H y G p s) {t : Int} {dx' : Addr} (kp : ∀ b v, H b = some v → b ≠ y → H' b = some v) (e' : H' y = some (.ins c.Y dx' (flY (.int p.length) (.int p.bound) (.int t) (.ref G.ld) (.ref G.dt)))) :
    Yd c H' y G p { s with time := t } ∧ Fw y p H G H' G := by
  obtain ⟨dx0, e⟩ := h.yo
  have kin : ∀ {b C dx f}, H b = some (.ins C dx f) → f ≠ flY (.int p.length) (.int p.bound) (.int s.time) (.ref G.ld) (.ref G.dt) → H' b = some (.ins C dx f) := fun {b C dx f} q nf => kp b _ q fun z => by rw [z, e] at q; cases q; exact nf rfl
  have kdK : ∀ {b l}, H b = some (.dK l) → H' b = some (.dK l) := fun {b l} q => kp b _ q fun z => by rw [z, e] at q; cases q
  refine ⟨⟨⟨dx', e'⟩, ?_, kdK h.dt, fun j hj => ?_, fun j hj => ?_, fun m t q => ?_, h.no, h.nd, h.dI, h.cI, h.tI, h.nI, h.cn, h.dc, h.dn, h.small⟩, ⟨fun b v q nb => kp b v q fun z => nb (Or.inl z), fun b hb => Or.inl hb, rfl⟩⟩
  · exact kp _ _ h.ld fun z => by have q := h.ld; rw [z, e] at q; cases q
  · obtain ⟨dx, q⟩ := h.desk j hj
    exact ⟨dx, kin q flY_flD.symm⟩
  · obtain ⟨l, q, r2⟩ := h.cops j hj
    exact ⟨l, kdK q, r2.mono fun q dx v n u e => kin e flY_flC.symm⟩
  · obtain ⟨hm, hk, τ, ⟨⟨dx, e1⟩, e2⟩, r2⟩ := h.thing m t q
    exact ⟨hm, hk, τ, ⟨⟨dx, kin e1 flY_flT.symm⟩, kdK e2⟩, r2⟩
end
/-! ### a yard just made -/
def look (l : List (Str × Int × Int)) (n : Str) : Option (Int × Int) := (l.find? fun e => decide (e.1 = n)).map (·.2)
def ghOf (ld dt : Addr) (dl : List (Addr × Addr)) (tl : List (Str × Addr × Addr)) : Gh where
  ld := ld
  dt := dt
  da := fun i => ((dl[i]?).map (·.1)).getD 0
  ca := fun i => ((dl[i]?).map (·.2)).getD 0
  ta := fun n => ((tl.find? fun e => decide (e.1 = n)).map (·.2.1)).getD 0
  na := fun n => ((tl.find? fun e => decide (e.1 = n)).map (·.2.2)).getD 0
  names := tl.map (·.1)
theorem find_at {α : Type} {l : List (Str × α)} {e : Str × α} (nd : (l.map (·.1)).Nodup) (h : e ∈ l) : (l.find? fun x => decide (x.1 = e.1)) = some e := by
  induction l with
  | nil => cases h
  | cons x r ih =>
    have nd' := List.nodup_cons.mp (show (x.1 :: r.map (·.1)).Nodup from nd)
    rcases List.mem_cons.mp h with z | z
    · subst z
      simp
    · rw [List.find?_cons]
      have : decide (x.1 = e.1) = false := decide_eq_false fun q => nd'.1 (by rw [q]; exact List.mem_map.mpr ⟨e, z, rfl⟩)
      rw [this]
      exact ih nd'.2 z
theorem find_mem {α : Type} {l : List (Str × α)} {n : Str} {e : Str × α} (h : (l.find? fun x => decide (x.1 = n)) = some e) : e ∈ l ∧ e.1 = n := ⟨List.mem_of_find?_eq_some h, by simpa using List.find?_some h⟩
structure Made (c : Cs) (H : Hp) (y ld dt : Addr) (dl : List (Addr × Addr)) (tl : List (Str × Addr × Addr)) (p : Pl) (l : List (Str × Int × Int)) : Prop where
  yo : ∃ dx, H y = some (.ins c.Y dx (flY (.int p.length) (.int p.bound) (.int 0) (.ref ld) (.ref dt)))
  ldH : H ld = some (.lst (dl.map fun e => .ref e.1))
  dln : dl.length = p.count
  dtH : H dt = some (.dK (tl.map fun e => (Sum.inr e.1, .ref e.2.1)))
  desk : ∀ e, e ∈ dl → ∃ dx, H e.1 = some (.ins c.D dx (flD (.int 0) (.bl false) (.ref e.2))) ∧ H e.2 = some (.dK [])
  d1 : (dl.map (·.1)).Nodup
  d2 : (dl.map (·.2)).Nodup
  nm : tl.map (·.1) = l.map (·.1)
  th : ∀ (i : Nat) (e : Str × Addr × Addr) (t : Str × Int × Int), tl[i]? = some e → l[i]? = some t → ThAt c.T H e.2.1 e.2.2 ⟨t.2.1, t.2.2, 0, [], none, none⟩
  t1 : (tl.map (·.2.1)).Nodup
  t2 : (tl.map (·.2.2)).Nodup
  x1 : ∀ e f, e ∈ dl → f ∈ tl → e.2 ≠ f.2.2
  x2 : ∀ e, e ∈ dl → dt ≠ e.2
  x3 : ∀ f, f ∈ tl → dt ≠ f.2.2
theorem inj_of {α β : Type} {f : α → β} : ∀ {l : List α}, (l.map f).Nodup → ∀ {a b : α}, a ∈ l → b ∈ l → f a = f b → a = b
  | x :: r, nd, a, b, ha, hb, e => by
    have nd' := List.nodup_cons.mp (show (f x :: r.map f).Nodup from nd)
    rcases List.mem_cons.mp ha with za | za
    · rcases List.mem_cons.mp hb with zb | zb
      · rw [za, zb]
      · exact absurd (List.mem_map.mpr ⟨b, zb, by rw [← e, za]⟩) nd'.1
    · rcases List.mem_cons.mp hb with zb | zb
      · exact absurd (List.mem_map.mpr ⟨a, za, by rw [e, zb]⟩) nd'.1
      · exact inj_of nd'.2 za zb e
theorem Made.yd {c : Cs} {H : Hp} {y ld dt : Addr} {dl : List (Addr × Addr)} {tl : List (Str × Addr × Addr)} {p : Pl} {l : List (Str × Int × Int)} (h : Made c H y ld dt dl tl p l) (nd : (l.map (·.1)).Nodup) (hk : ∀ e ∈ l, isDesk p e.2.1 = true) (hs : p.count ≤ 500 ∧ l.length ≤ 500) :
    Yd c H y (ghOf ld dt dl tl) p (begin_ (look l)) := by
  have ndt : (tl.map (·.1)).Nodup := by rw [h.nm]; exact nd
  have hln : tl.length = l.length := by have := congrArg List.length h.nm; simpa using this
  have dAt : ∀ i, i < p.count → ∃ e, e ∈ dl ∧ dl[i]? = some e ∧ (ghOf ld dt dl tl).da i = e.1 ∧ (ghOf ld dt dl tl).ca i = e.2 := fun i hi => by
    have hi' : i < dl.length := by rw [h.dln]; exact hi
    refine ⟨dl[i], List.getElem_mem hi', List.getElem?_eq_getElem hi', ?_, ?_⟩
    · show ((dl[i]?).map (·.1)).getD 0 = _
      rw [List.getElem?_eq_getElem hi']; rfl
    · show ((dl[i]?).map (·.2)).getD 0 = _
      rw [List.getElem?_eq_getElem hi']; rfl
  have tAt : ∀ n, n ∈ tl.map (·.1) → ∃ e, e ∈ tl ∧ e.1 = n ∧ (ghOf ld dt dl tl).ta n = e.2.1 ∧ (ghOf ld dt dl tl).na n = e.2.2 := fun n hn => by
    obtain ⟨e, he, z⟩ := List.mem_map.mp hn
    have hf := find_at ndt he
    rw [z] at hf
    refine ⟨e, he, z, ?_, ?_⟩
    · show ((tl.find? fun e => decide (e.1 = n)).map (·.2.1)).getD 0 = _
      rw [hf]; rfl
    · show ((tl.find? fun e => decide (e.1 = n)).map (·.2.2)).getD 0 = _
      rw [hf]; rfl
  have ixd : ∀ i j e, dl[i]? = some e → dl[j]? = some e → i = j := fun i j e h1 h2 => by
    have nd3 : dl.Nodup := by
      have := h.d1
      exact List.Pairwise.of_map (S := fun a b => a ≠ b) (·.1) (fun a b hab e => hab (by rw [e])) this
    obtain ⟨hi, e1⟩ := List.getElem?_eq_some_iff.mp h1
    obtain ⟨hj, e2⟩ := List.getElem?_eq_some_iff.mp h2
    exact (List.getElem_inj nd3).mp (e1.trans e2.symm)
  refine ⟨h.yo, ?_, ?_, fun i hi => ?_, fun i hi => ?_, fun n t e => ?_, fun n e hn => ?_, ndt, fun i j hi hj e => ?_, fun i j hi hj e => ?_, fun m n hm hn e => ?_, fun m n hm hn e => ?_, fun i n hi hn e => ?_, fun i hi => ?_, fun n hn => ?_, ⟨hs.1, by show (tl.map (·.1)).length ≤ 500; rw [List.length_map, hln]; exact hs.2⟩⟩
  · show H ld = _
    rw [h.ldH]
    congr 2
    refine List.ext_getElem? fun i => ?_
    rw [List.getElem?_map, List.getElem?_map]
    by_cases hi : i < p.count
    · obtain ⟨e, _, he, hd, _⟩ := dAt i hi
      rw [he, List.getElem?_range hi]
      show some (V.ref e.1) = some (V.ref ((ghOf ld dt dl tl).da i))
      rw [hd]
    · rw [List.getElem?_eq_none (by rw [h.dln]; omega), List.getElem?_eq_none (by simp; omega)]
      rfl
  · show H dt = _
    rw [h.dtH]
    unfold tkOf
    show some (HO.dK _) = some (HO.dK ((tl.map (·.1)).map _))
    rw [List.map_map]
    congr 2
    refine List.map_congr_left fun e he => ?_
    show ((Sum.inr e.1 : Key), V.ref e.2.1) = ((Sum.inr e.1 : Key), V.ref ((ghOf ld dt dl tl).ta e.1))
    have hf := find_at ndt he
    have : (ghOf ld dt dl tl).ta e.1 = e.2.1 := by
      show ((tl.find? fun x => decide (x.1 = e.1)).map (·.2.1)).getD 0 = _
      rw [hf]; rfl
    rw [this]
  · obtain ⟨e, he, _, h1, h2⟩ := dAt i hi
    obtain ⟨dx, q, _⟩ := h.desk e he
    rw [h1, h2]
    exact ⟨dx, q⟩
  · obtain ⟨e, he, _, h1, h2⟩ := dAt i hi
    obtain ⟨dx, _, q⟩ := h.desk e he
    rw [h2]
    exact ⟨[], q, CopR.nil⟩
  · have e : (look l n).map (fun kv => (⟨kv.1, kv.2, 0, fun _ => none, none, none⟩ : Th)) = some t := e
    unfold look at e
    cases hf : l.find? fun e => decide (e.1 = n) with
    | none => rw [hf] at e; cases e
    | some r =>
      rw [hf] at e
      have e : (⟨r.2.1, r.2.2, 0, fun _ => none, none, none⟩ : Th) = t := Option.some.inj e
      obtain ⟨hr, hrn⟩ := find_mem hf
      obtain ⟨i, hi, ei⟩ := List.mem_iff_getElem.mp hr
      have hi' : i < tl.length := by rw [hln]; exact hi
      have q1 : tl[i]? = some tl[i] := List.getElem?_eq_getElem hi'
      have q2 : l[i]? = some r := by rw [List.getElem?_eq_getElem hi, ei]
      have q3 : tl[i].1 = n := by
        have z : (tl.map (·.1))[i]? = (l.map (·.1))[i]? := by rw [h.nm]
        rw [List.getElem?_map, List.getElem?_map, q1, q2] at z
        exact (Option.some.inj z).trans hrn
      have hm : n ∈ tl.map (·.1) := List.mem_map.mpr ⟨tl[i], List.getElem_mem hi', q3⟩
      have hf2 := find_at ndt (List.getElem_mem hi')
      rw [q3] at hf2
      have s := h.th i _ r q1 q2
      refine ⟨hm, ?_, ⟨r.2.1, r.2.2, 0, [], none, none⟩, ?_, ?_⟩
      · rw [← e]; exact hk r hr
      · show ThAt c.T H (((tl.find? fun e => decide (e.1 = n)).map (·.2.1)).getD 0) (((tl.find? fun e => decide (e.1 = n)).map (·.2.2)).getD 0) _
        rw [hf2]
        exact s
      · rw [← e]
        exact ⟨rfl, rfl, rfl, rfl, rfl, NoteR.nil⟩
  · have e : (look l n).map (fun kv => (⟨kv.1, kv.2, 0, fun _ => none, none, none⟩ : Th)) = none := e
    have hn : n ∈ tl.map (·.1) := hn
    rw [h.nm] at hn
    obtain ⟨r, hr, z⟩ := List.mem_map.mp hn
    have hf := find_at nd hr
    rw [z] at hf
    unfold look at e
    rw [hf] at e
    cases e
  · obtain ⟨a, ha, ia, h1, _⟩ := dAt i hi
    obtain ⟨b, hb, ib, h2, _⟩ := dAt j hj
    rw [h1, h2] at e
    have := inj_of (f := (·.1)) h.d1 ha hb e
    rw [this] at ia
    exact ixd i j b ia ib
  · obtain ⟨a, ha, ia, _, h1⟩ := dAt i hi
    obtain ⟨b, hb, ib, _, h2⟩ := dAt j hj
    rw [h1, h2] at e
    have := inj_of (f := (·.2)) h.d2 ha hb e
    rw [this] at ia
    exact ixd i j b ia ib
  · obtain ⟨a, ha, ea, h1, _⟩ := tAt m hm
    obtain ⟨b, hb, eb, h2, _⟩ := tAt n hn
    rw [h1, h2] at e
    have := inj_of (f := (·.2.1)) h.t1 ha hb e
    rw [← ea, ← eb, this]
  · obtain ⟨a, ha, ea, _, h1⟩ := tAt m hm
    obtain ⟨b, hb, eb, _, h2⟩ := tAt n hn
    rw [h1, h2] at e
    have := inj_of (f := (·.2.2)) h.t2 ha hb e
    rw [← ea, ← eb, this]
  · obtain ⟨a, ha, _, _, h1⟩ := dAt i hi
    obtain ⟨b, hb, _, _, h2⟩ := tAt n hn
    rw [h1, h2] at e
    exact h.x1 a b ha hb e
  · obtain ⟨a, ha, _, _, h1⟩ := dAt i hi
    rw [h1]
    exact h.x2 a ha
  · obtain ⟨b, hb, _, _, h2⟩ := tAt n hn
    rw [h2]
    exact h.x3 b hb
theorem Made.own {c : Cs} {H : Hp} {y ld dt : Addr} {dl : List (Addr × Addr)} {tl : List (Str × Addr × Addr)} {p : Pl} {l : List (Str × Int × Int)} (h : Made c H y ld dt dl tl p l) (nd : (l.map (·.1)).Nodup) {b : Addr} (hb : Own y (ghOf ld dt dl tl) p b) : b = y ∨ (∃ e, e ∈ dl ∧ (b = e.1 ∨ b = e.2)) ∨ ∃ f, f ∈ tl ∧ (b = f.2.1 ∨ b = f.2.2) := by
  have ndt : (tl.map (·.1)).Nodup := by rw [h.nm]; exact nd
  rcases hb with z | ⟨i, hi, z⟩ | ⟨n, hn, z⟩
  · exact Or.inl z
  · have hi' : i < dl.length := by rw [h.dln]; exact hi
    refine Or.inr (Or.inl ⟨dl[i], List.getElem_mem hi', ?_⟩)
    have e1 : (ghOf ld dt dl tl).da i = dl[i].1 := by
      show ((dl[i]?).map (·.1)).getD 0 = _
      rw [List.getElem?_eq_getElem hi']; rfl
    have e2 : (ghOf ld dt dl tl).ca i = dl[i].2 := by
      show ((dl[i]?).map (·.2)).getD 0 = _
      rw [List.getElem?_eq_getElem hi']; rfl
    rw [e1, e2] at z
    exact z
  · obtain ⟨e, he, q⟩ := List.mem_map.mp (show n ∈ tl.map (·.1) from hn)
    have hf := find_at ndt he
    rw [q] at hf
    refine Or.inr (Or.inr ⟨e, he, ?_⟩)
    have e1 : (ghOf ld dt dl tl).ta n = e.2.1 := by
      show ((tl.find? fun e => decide (e.1 = n)).map (·.2.1)).getD 0 = _
      rw [hf]; rfl
    have e2 : (ghOf ld dt dl tl).na n = e.2.2 := by
      show ((tl.find? fun e => decide (e.1 = n)).map (·.2.2)).getD 0 = _
      rw [hf]; rfl
    rw [e1, e2] at z
    exact z
/-- what a deed's method does: a refusal, or the answer and the yard behind it -/
def StepTo (c : Cs) (H : Hp) (y : Addr) (G : Gh) (p : Pl) (r : An × S Str) (Q : VK) (E : XK) : Prop :=
  (∀ e, badOf r.1 = some e → E (.ref (c.er e)) none H) ∧ (badOf r.1 = none → ∀ v G' H', Yd c H' y G' p r.2 → Fw y p H G H' G' → Dh H' v (anD r.1) → Q v H')
end Fb

end

section
set_option maxHeartbeats 2000000
/-! Expressions that only lay data. -/
namespace Fb
open PySem L2
def scV : PyData → V
  | .int i => .int i
  | .str x => .str x
  | .bool b => .bl b
  | _ => .non
def isSc : PyData → Bool
  | .int _ => true
  | .str _ => true
  | .bool _ => true
  | .none => true
  | _ => false
theorem dh_flat {H : Hp} {v : V} {d : PyData} (h : Dh H v d) (hs : isSc d = true) : v = scV d := by
  cases h <;> first | rfl | (exact absurd hs (by simp [isSc]))
theorem dhs_flat {H : Hp} : ∀ {xs : List V} {ds : List PyData}, Dhs H xs ds → ds.all isSc = true → xs = ds.map scV
  | _, _, .nil, _ => rfl
  | _, _, .cons h t, hs => by
    rw [List.all_cons, Bool.and_eq_true] at hs
    rw [List.map_cons, ← dh_flat h hs.1, ← dhs_flat t hs.2]
theorem flat_tup {H : Hp} {v : V} {ds : List PyData} (h : Dh H v (.tuple ds)) (hs : ds.all isSc = true) : ∃ a, v = .ref a ∧ H a = some (.tup (ds.map scV)) := by
  cases h with
  | tup ha hx =>
    rw [dhs_flat hx hs] at ha
    exact ⟨_, rfl, ha⟩
/-- t, from H0 on, comes to the data d -/
def Rd1 (t : TE) (σ : St) (H0 : Hp) (d : PyData) : Prop := ∀ H Q, Same H0 H → (∀ v H', Dh H' v d → Same H H' → Q v H') → t σ H Q
def RdA (t : TA) (σ : St) (H0 : Hp) (ds : List PyData) : Prop := ∀ H Q, Same H0 H → (∀ vs H', Dhs H' vs ds → Same H H' → Q vs H') → t σ H Q
section
variable {t : TE} {r : TA} {σ : St} {H0 : Hp} {d : PyData} {ds : List PyData}
theorem rd_int {i : Int} : Rd1 (tC (.int i)) σ H0 (.int i) := fun H Q _ q => q _ H (.int i) (Same.refl H)
theorem rd_str {x : Str} : Rd1 (tC (.str x)) σ H0 (.str x) := fun H Q _ q => q _ H (.str x) (Same.refl H)
theorem rd_bl {b : Bool} : Rd1 (tC (.bl b)) σ H0 (.bool b) := fun H Q _ q => q _ H (.bl b) (Same.refl H)
theorem rd_var {i : Nat} {v : V} (h : σ[i]? = some (some v)) (hv : Dh H0 v d) : Rd1 (tVar i) σ H0 d := fun H Q s q => ⟨v, h, q v H (hv.same s.d) (Same.refl H)⟩
theorem rda_nil : RdA tNil σ H0 [] := fun H Q _ q => q [] H .nil (Same.refl H)
theorem rda_cons (h : Rd1 t σ H0 d) (hr : RdA r σ H0 ds) : RdA (tCons t r) σ H0 (d :: ds) := fun H Q s q =>
  h H _ s fun v H1 hv s1 => hr H1 _ (s.trans s1) fun vs H2 hvs s2 => q _ H2 (.cons (hv.same s2.d) hvs) (s1.trans s2)
theorem rd_tup (h : RdA r σ H0 ds) (hl : ds.length ≤ 1000) : Rd1 (tTup r) σ H0 (.tuple ds) := fun H Q s q =>
  h H _ s fun vs H1 hv s1 => ⟨small_of (by rw [hv.length]; exact hl), fun p hp => q _ _ (.tup upd_same (hv.same ((Same.refl H1).new hp).d)) (s1.trans ((Same.refl H1).new hp))⟩
theorem rd_lst (h : RdA r σ H0 ds) (hl : ds.length ≤ 1000) : Rd1 (tLst r) σ H0 (.list ds) := fun H Q s q =>
  h H _ s fun vs H1 hv s1 => ⟨small_of (by rw [hv.length]; exact hl), fun p hp => q _ _ (.lst upd_same (hv.same ((Same.refl H1).new hp).d)) (s1.trans ((Same.refl H1).new hp))⟩
theorem rd_sub {ta tb : TE} {i j : Int} (ha : Rd1 ta σ H0 (.int i)) (hb : Rd1 tb σ H0 (.int j)) : Rd1 (tOp (rI0 fun a b => .int (a - b)) ta tb) σ H0 (.int (i - j)) := fun H Q s q =>
  ha H _ s fun v H1 hv s1 => hb H1 _ (s.trans s1) fun u H2 hu s2 => by
    obtain rfl := show v = .int i by cases hv; rfl
    obtain rfl := show u = .int j by cases hu; rfl
    exact ⟨i, j, rfl, rfl, q _ H2 (.int _) (s1.trans s2)⟩
theorem rd_add {ta tb : TE} {i j : Int} (ha : Rd1 ta σ H0 (.int i)) (hb : Rd1 tb σ H0 (.int j)) : Rd1 (tOp (rI0 fun a b => .int (a + b)) ta tb) σ H0 (.int (i + j)) := fun H Q s q =>
  ha H _ s fun v H1 hv s1 => hb H1 _ (s.trans s1) fun u H2 hu s2 => by
    obtain rfl := show v = .int i by cases hv; rfl
    obtain rfl := show u = .int j by cases hu; rfl
    exact ⟨i, j, rfl, rfl, q _ H2 (.int _) (s1.trans s2)⟩
theorem rd_app {K : PySem.W.Frag} {i : Nat} {D : Ends} {H : Hp} {A : Addr} {xs : List V} (hi : σ[i]? = some (some (.ref A))) (hA : H A = some (.lst xs)) (hx : Dhs H xs ds) (hn : noLs ds = true) (hl : ds.length ≤ 900) (ht : Rd1 t σ H d) (hd : noL d = true)
    (q : ∀ H' xs', H' A = some (.lst xs') → Dhs H' xs' (ds ++ [d]) → (∀ b o, H b = some o → b ≠ A → H' b = some o) → D.nx σ H') : tDrop (tBM K "list" rAppend (tVar i) (tCons t tNil)) D σ H := by
  refine ⟨_, hi, Or.inl ⟨rfl, _, SqL.of hA⟩, ht H _ (Same.refl H) fun v H1 hv s1 => ⟨A, xs, v, rfl, rfl, s1 _ _ hA, small1000 (by rw [hx.length]; omega), q _ _ upd_same ?_ fun b o e n => by rw [upd_ne n]; exact s1 _ _ e⟩⟩
  refine ((hx.same s1.d).snoc hv).sameT (fun b ys e => ?_) (by rw [noLs_append, hn]; simp [noLs, hd])
  rw [upd_ne (ne_of e (s1 _ _ hA) (by intro z; cases z))]
  exact e
theorem Dhs.app {H : Hp} : ∀ {xs ys : List V} {ds es : List PyData}, Dhs H xs ds → Dhs H ys es → Dhs H (xs ++ ys) (ds ++ es)
  | _, _, _, _, .nil, h => h
  | _, _, _, _, .cons h t, h2 => .cons h (Dhs.app t h2)
theorem rd_ext {K : PySem.W.Frag} {i : Nat} {D : Ends} {H : Hp} {A : Addr} {xs : List V} {es : List PyData} (hi : σ[i]? = some (some (.ref A))) (hA : H A = some (.lst xs)) (hx : Dhs H xs ds) (hn : noLs ds = true) (hl : ds.length + es.length ≤ 900) (ht : Rd1 t σ H (.list es)) (hd : noLs es = true)
    (q : ∀ H' xs', H' A = some (.lst xs') → Dhs H' xs' (ds ++ es) → (∀ b o, H b = some o → b ≠ A → H' b = some o) → D.nx σ H') : tDrop (tBM K "list" rExtend (tVar i) (tCons t tNil)) D σ H := by
  refine ⟨_, hi, Or.inl ⟨rfl, _, SqL.of hA⟩, ht H _ (Same.refl H) fun v H1 hv s1 => ?_⟩
  obtain ⟨B, zs, rfl, hB, hz⟩ : ∃ B zs, v = .ref B ∧ H1 B = some (.lst zs) ∧ Dhs H1 zs es := by cases hv with | lst h1 h2 => exact ⟨_, _, rfl, h1, h2⟩
  have e1 := hx.length
  have e2 := hz.length
  refine ⟨A, B, xs, zs, rfl, rfl, s1 _ _ hA, hB, small_of (by omega), q _ _ upd_same ?_ fun b o e n => by rw [upd_ne n]; exact s1 _ _ e⟩
  refine (Dhs.app (hx.same s1.d) hz).sameT (fun b ys e => ?_) (by rw [noLs_append, hn, hd]; rfl)
  rw [upd_ne (ne_of e (s1 _ _ hA) (by intro z; cases z))]
  exact e
/-- a name is set to data -/
theorem rd_set {i : Nat} {D : Ends} {H : Hp} (ht : Rd1 t σ H d) (q : ∀ v H', Dh H' v d → Same H H' → D.nx (σ.set i (some v)) H') : tAsg t (gName i) D σ H := ht H _ (Same.refl H) fun v H' hv s => q v H' hv s
theorem rd_ret {D : Ends} {H : Hp} (ht : Rd1 t σ H d) (q : ∀ v H', Dh H' v d → Same H H' → D.rt v H') : tRet t D σ H := ht H _ (Same.refl H) fun v H' hv s => q v H' hv s
theorem rd_mul {ta tb : TE} {i j : Int} (ha : Rd1 ta σ H0 (.int i)) (hb : Rd1 tb σ H0 (.int j)) (hc : CMul i j) : Rd1 (tOp (rI CMul fun a b => .int (a * b)) ta tb) σ H0 (.int (i * j)) := fun H Q s q =>
  ha H _ s fun v H1 hv s1 => hb H1 _ (s.trans s1) fun u H2 hu s2 => by
    obtain rfl := show v = .int i by cases hv; rfl
    obtain rfl := show u = .int j by cases hu; rfl
    exact ⟨i, j, rfl, rfl, hc, q _ H2 (.int _) (s1.trans s2)⟩
/-- an item of a tuple of data -/
theorem rd_ix {K : PySem.W.Frag} {i k : Nat} {a : Addr} {xs : List V} {v : V} (hi : σ[i]? = some (some (.ref a))) (ha : H0 a = some (.tup xs)) (hk : xs[k]? = some v) (hv : Dh H0 v d) : Rd1 (tOp (rIxT K) (tVar i) (tC (.int (k : Int)))) σ H0 d := fun H Q s q =>
  ⟨_, hi, rIxT_of (SqT.of (s _ _ ha)) (atI_nat hk) (q v H (hv.same s.d) (Same.refl H))⟩
/-- two lists of flat data that grow, made since H0 -/
structure Two (H0 H : Hp) (A B : Addr) (ds es : List PyData) : Prop where
  a : ∃ xs, H A = some (.lst xs) ∧ Dhs H xs ds
  b : ∃ ys, H B = some (.lst ys) ∧ Dhs H ys es
  na : noLs ds = true
  nb : noLs es = true
  ne : A ≠ B
  a0 : H0 A = none
  b0 : H0 B = none
  all : Same H0 H
theorem Two.swap {H0 H : Hp} {A B : Addr} {ds es : List PyData} (t : Two H0 H A B ds es) : Two H0 H B A es ds := ⟨t.b, t.a, t.nb, t.na, t.ne.symm, t.b0, t.a0, t.all⟩
theorem Two.same {H0 H H' : Hp} {A B : Addr} {ds es : List PyData} (t : Two H0 H A B ds es) (s : Same H H') : Two H0 H' A B ds es :=
  ⟨let ⟨xs, h, d⟩ := t.a; ⟨xs, s _ _ h, d.same s.d⟩, let ⟨xs, h, d⟩ := t.b; ⟨xs, s _ _ h, d.same s.d⟩, t.na, t.nb, t.ne, t.a0, t.b0, t.all.trans s⟩
theorem Two.put {H0 H H' : Hp} {A B : Addr} {ds ds' es : List PyData} {xs' : List V} (t : Two H0 H A B ds es) (hA : H' A = some (.lst xs')) (hd : Dhs H' xs' ds') (hn : noLs ds' = true) (kp : ∀ b o, H b = some o → b ≠ A → H' b = some o) : Two H0 H' A B ds' es := by
  obtain ⟨xs, h1, _⟩ := t.a
  obtain ⟨ys, h2, d2⟩ := t.b
  exact ⟨⟨xs', hA, hd⟩, ⟨ys, kp _ _ h2 t.ne.symm, d2.sameT (fun b zs e => kp _ _ e (ne_of e h1 (by intro z; cases z))) t.nb⟩, hn, t.nb, t.ne, t.a0, t.b0, fun b o e => kp _ _ (t.all b o e) (ne_of_none e t.a0)⟩
theorem Two.app {K : PySem.W.Frag} {i : Nat} {D : Ends} {H0 H : Hp} {A B : Addr} {ds es : List PyData} {t : TE} {σ : St} (T : Two H0 H A B ds es) (d : PyData) (hi : σ[i]? = some (some (.ref A))) (hl : ds.length ≤ 900) (ht : Rd1 t σ H d) (hd : noL d = true)
    (q : ∀ H', Two H0 H' A B (ds ++ [d]) es → D.nx σ H') : tDrop (tBM K "list" rAppend (tVar i) (tCons t tNil)) D σ H := by
  obtain ⟨xs, h1, h2⟩ := T.a
  exact rd_app hi h1 h2 T.na hl ht hd fun H' xs' hA hx kp => q H' (T.put hA hx (by rw [noLs_append, T.na]; simp [noLs, hd]) kp)
theorem Two.ext {K : PySem.W.Frag} {i : Nat} {D : Ends} {H0 H : Hp} {A B : Addr} {ds es : List PyData} {t : TE} {σ : St} (T : Two H0 H A B ds es) (fs : List PyData) (hi : σ[i]? = some (some (.ref A))) (hl : ds.length + fs.length ≤ 900) (ht : Rd1 t σ H (.list fs)) (hd : noLs fs = true)
    (q : ∀ H', Two H0 H' A B (ds ++ fs) es → D.nx σ H') : tDrop (tBM K "list" rExtend (tVar i) (tCons t tNil)) D σ H := by
  obtain ⟨xs, h1, h2⟩ := T.a
  exact rd_ext hi h1 h2 T.na hl ht hd fun H' xs' hA hx kp => q H' (T.put hA hx (by rw [noLs_append, T.na, hd]; rfl) kp)
theorem rd_unpack2 {K : PySem.W.Frag} {D : Ends} {H : Hp} {σ : St} {a : Addr} {x y z : V} {i j n : Nat} (h0 : σ[0]? = some (some (.ref a))) (ha : H a = some (.tup [x, y, z])) (hn : n = 2) (q : ∀ H', Same H H' → D.nx ((σ.set i (some y)).set j (some z)) H') :
    tAsg (tSl (rSlT K) (tVar 0) (tPart (tC (.int 1))) tNoPart) (gTup K n (gCons (gName i) (gCons (gName j) gNil))) D σ H := by
  subst hn
  refine ⟨_, h0, ?_⟩
  simp only [tPart, tC, tNoPart, V.int.injEq, exists_eq_left']
  refine ⟨a, _, rfl, SqT.of ha, (fun z => absurd (show (1 : Nat) = 0 from z.1) (by decide)), fun p hp => ⟨p, [y, z], rfl, SqT.of upd_same, rfl, y, [z], rfl, z, [], rfl, rfl, q _ ((Same.refl H).new hp)⟩⟩
theorem rd_setL {i : Nat} {D : Ends} {H : Hp} {r : TA} {σ : St} (ds : List PyData) (ht : RdA r σ H ds) (hl : ds.length ≤ 1000) (q : ∀ p xs H', H p = none → H' p = some (.lst xs) → Dhs H' xs ds → Same H H' → D.nx (σ.set i (some (.ref p))) H') : tAsg (tLst r) (gName i) D σ H :=
  ht H _ (Same.refl H) fun vs H1 hv s1 => ⟨small_of (by rw [hv.length]; exact hl), fun p hp => q p vs _ (s1.free hp) upd_same (hv.same ((Same.refl H1).new hp).d) (s1.trans ((Same.refl H1).new hp))⟩
theorem rd_lt {σ : St} {H0 : Hp} {ta tb : TE} {i j : Int} (ha : Rd1 ta σ H0 (.int i)) (hb : Rd1 tb σ H0 (.int j)) : Rd1 (tOp (rI0 fun a b => .bl (decide (a < b))) ta tb) σ H0 (.bool (decide (i < j))) := fun H Q s q =>
  ha H _ s fun v H1 hv s1 => hb H1 _ (s.trans s1) fun u H2 hu s2 => by
    obtain rfl := show v = .int i by cases hv; rfl
    obtain rfl := show u = .int j by cases hu; rfl
    exact ⟨i, j, rfl, rfl, q _ H2 (.bl _) (s1.trans s2)⟩
theorem rd_if {D : Ends} {H : Hp} {σ : St} {te : TE} {t1 t2 : TS} {b : Bool} (ht : Rd1 te σ H (.bool b)) (q : ∀ H', Same H H' → if b = true then t1 D σ H' else t2 D σ H') : tIfS (tTest te) t1 t2 D σ H :=
  ht H _ (Same.refl H) fun v H' hv s => by
    obtain rfl := show v = .bl b by cases hv; rfl
    exact ⟨b, rfl, q H' s⟩
theorem Dhs.unsnoc {H : Hp} : ∀ {ds : List PyData} {xs : List V} {e : PyData}, Dhs H xs (ds ++ [e]) → ∃ ys w, xs = ys ++ [w] ∧ Dhs H ys ds ∧ Dh H w e
  | [], _, _, .cons h .nil => ⟨[], _, rfl, .nil, h⟩
  | d :: ds, _, e, .cons h t => by
    obtain ⟨ys, w, rfl, h1, h2⟩ := Dhs.unsnoc (ds := ds) t
    exact ⟨_ :: ys, w, rfl, .cons h h1, h2⟩
theorem Two.last {i : Nat} {D : Ends} {H0 H : Hp} {A B : Addr} {ds es : List PyData} {e : PyData} {t : TE} {σ : St} (T : Two H0 H A B (ds ++ [e]) es) (d : PyData) (hi : σ[i]? = some (some (.ref A))) (ht : Rd1 t σ H d) (hd : noL d = true)
    (q : ∀ H', Two H0 H' A B (ds ++ [d]) es → D.nx σ H') : tAsg t (gSub (tVar i) (tUn (rU fun i => .int (-i)) (tC (.int 1))) rSetL) D σ H := ht H _ (Same.refl H) fun v H1 hv s1 => by
  have T1 := T.same s1
  obtain ⟨xs, h1, h2⟩ := T1.a
  obtain ⟨ys, w, rfl, h3, h4⟩ := Dhs.unsnoc h2
  have ej : ixN (ys ++ [w]).length (-1) = some ys.length := by
    unfold ixN
    rw [List.length_append]
    simp
    omega
  have es : (ys ++ [w]).set ys.length v = ys ++ [v] := by simp
  refine ⟨_, hi, 1, rfl, A, _, -1, _, rfl, rfl, h1, ej, ?_⟩
  rw [es]
  have hn : noLs (ds ++ [d]) = true := by
    have := T.na
    rw [noLs_append, Bool.and_eq_true] at this
    rw [noLs_append, this.1]; simp [noLs, hd]
  refine q _ (T1.put upd_same ((h3.snoc hv).sameT (fun b zs e => ?_) hn) hn fun b o e n => by rw [upd_ne n]; exact e)
  rw [upd_ne (ne_of e h1 (by intro z; cases z))]
  exact e
theorem rd_pick {K : PySem.W.Frag} {σ : St} {H0 : Hp} {ta : TA} {te : TE} {da db : PyData} {b : Bool} (ha : RdA ta σ H0 [da, db]) (he : Rd1 te σ H0 (.bool b)) :
    Rd1 (tOp (rIxL K) (tLst ta) (tCB (fun xs H Q => (∃ i, xs = [V.int i] ∧ Q (.int i) H) ∨ ∃ k, xs = [V.bl k] ∧ Q (.int (if k then 1 else 0)) H) (tCons te tNil))) σ H0 (if b then db else da) := fun H Q s q =>
  rd_lst ha (by show 2 ≤ 1000; decide) H _ s fun v H1 hv s1 => he H1 _ (s.trans s1) fun u H2 hu s2 => by
    obtain rfl := show u = .bl b by cases hu; rfl
    obtain ⟨A, xs, rfl, h1, h2⟩ : ∃ A xs, v = .ref A ∧ H1 A = some (.lst xs) ∧ Dhs H1 xs [da, db] := by cases hv with | lst h1 h2 => exact ⟨_, _, rfl, h1, h2⟩
    cases h2 with
    | cons g1 g2 =>
      cases g2 with
      | cons g2 g3 =>
        cases g3
        refine Or.inr ⟨b, rfl, ?_⟩
        cases b with
        | false => exact rIxL_of (SqL.of (s2 _ _ h1)) (show atI _ ((0 : Nat) : Int) = _ from atI_nat rfl) (q _ H2 (g1.same s2.d) (s1.trans s2))
        | true => exact rIxL_of (SqL.of (s2 _ _ h1)) (show atI _ ((1 : Nat) : Int) = _ from atI_nat rfl) (q _ H2 (g2.same s2.d) (s1.trans s2))
theorem rd_mod {σ : St} {H0 : Hp} {ta tb : TE} {i j : Int} (ha : Rd1 ta σ H0 (.int i)) (hb : Rd1 tb σ H0 (.int j)) (hj : 0 < j) : Rd1 (tOp (rI (fun _ j => 0 < j) fun i j => .int (i % j)) ta tb) σ H0 (.int (i % j)) := fun H Q s q =>
  ha H _ s fun v H1 hv s1 => hb H1 _ (s.trans s1) fun u H2 hu s2 => by
    obtain rfl := show v = .int i by cases hv; rfl
    obtain rfl := show u = .int j by cases hu; rfl
    exact ⟨i, j, rfl, rfl, hj, q _ H2 (.int _) (s1.trans s2)⟩
theorem rd_eq {σ : St} {H0 : Hp} {ta tb : TE} {i j : Int} (ha : Rd1 ta σ H0 (.int i)) (hb : Rd1 tb σ H0 (.int j)) : Rd1 (tOp rEq ta tb) σ H0 (.bool (decide (i = j))) := fun H Q s q =>
  ha H _ s fun v H1 hv s1 => hb H1 _ (s.trans s1) fun u H2 hu s2 => by
    obtain rfl := show v = .int i by cases hv; rfl
    obtain rfl := show u = .int j by cases hu; rfl
    refine ⟨rfl, ?_⟩
    have := q (.bl (decide (i = j))) H2 (.bl _) (s1.trans s2)
    simp only [V.int.injEq]
    exact this
theorem rd_disp {K : PySem.W.Frag} {σ : St} {H0 : Hp} {ta : TA} {te : TE} {z : Int} (ns : List Int) (ha : RdA ta σ H0 (ns.map .int)) (hl : ns.length ≤ 1000) (he : Rd1 te σ H0 (.int z)) (h0 : 0 ≤ z) (h1 : z < ns.length) : Rd1 (tOp (rIxL K) (tLst ta) te) σ H0 (.int (ns.getD z.toNat 0)) := fun H Q s q =>
  rd_lst ha (by rw [List.length_map]; exact hl) H _ s fun v H1 hv s1 => he H1 _ (s.trans s1) fun u H2 hu s2 => by
    obtain rfl := show u = .int z by cases hu; rfl
    obtain ⟨A, xs, rfl, h2, h3⟩ : ∃ A xs, v = .ref A ∧ H1 A = some (.lst xs) ∧ Dhs H1 xs (ns.map .int) := by cases hv with | lst h1 h2 => exact ⟨_, _, rfl, h1, h2⟩
    have e : xs = ns.map V.int := by
      have := dhs_flat h3 (by simp [isSc])
      rw [this, List.map_map]
      rfl
    subst e
    obtain ⟨o, ho, ho2⟩ := atI_int (ns := ns) h0 h1
    refine rIxL_of (SqL.of (s2 _ _ h2)) ho ?_
    have := q (.int (ns.getD z.toNat 0)) H2 (.int _) (s1.trans s2)
    rw [List.getD_eq_getElem?_getD, ho2] at this
    exact this
/-- d comes to be known as e -/
theorem Rd1.to {t : TE} {σ : St} {H0 : Hp} {d e : PyData} (h : Rd1 t σ H0 d) (he : d = e) : Rd1 t σ H0 e := he ▸ h
theorem rd_call {sp : Sp} {E : XK} {ta : TA} {σ : St} {H : Hp} {Q : VK} (ds : List PyData) (ha : RdA ta σ H ds) (q : ∀ vs H', Dhs H' vs ds → Same H H' → sp vs H' Q E) : tCall sp [] E ta σ H Q :=
  ha H _ (Same.refl H) fun vs H' hv s => by
    rw [List.append_nil]
    exact q vs H' hv s
theorem rd_list {K : PySem.W.Frag} {σ : St} {H0 : Hp} {te : TE} {ds : List PyData} (he : Rd1 te σ H0 (.list ds)) : Rd1 (tCB (fun xs H Q => ∃ p ys, xs = [V.ref p] ∧ (SqL K H p ys ∨ SqT K H p ys) ∧ ∀ l, H l = none → Q (.ref l) (upd H l (.lst ys))) (tCons te tNil)) σ H0 (.list ds) := fun H Q s q =>
  he H _ s fun v H1 hv s1 => by
    obtain ⟨A, xs, rfl, h2, h3⟩ : ∃ A xs, v = .ref A ∧ H1 A = some (.lst xs) ∧ Dhs H1 xs ds := by cases hv with | lst h1 h2 => exact ⟨_, _, rfl, h1, h2⟩
    exact ⟨A, xs, rfl, Or.inl (SqL.of h2), fun l hl => q _ _ (.lst upd_same (h3.same ((Same.refl H1).new hl).d)) (s1.trans ((Same.refl H1).new hl))⟩
theorem rd_ifN {D : Ends} {H : Hp} {σ : St} {te : TE} {t1 t2 : TS} (ht : Rd1 te σ H (.bool true)) (q : ∀ H', Same H H' → t2 D σ H') : tIfS (tNot (tB te)) t1 t2 D σ H :=
  ht H _ (Same.refl H) fun v H' hv s => by
    obtain rfl := show v = .bl true by cases hv; rfl
    exact ⟨true, rfl, q H' s⟩
theorem Dhs.one {H : Hp} {xs : List V} {d : PyData} {ds : List PyData} (h : Dhs H xs (d :: ds)) : ∃ v r, xs = v :: r ∧ Dh H v d ∧ Dhs H r ds := by
  cases h with | cons h1 h2 => exact ⟨_, _, rfl, h1, h2⟩
theorem Dhs.none {H : Hp} {xs : List V} (h : Dhs H xs []) : xs = [] := by cases h; rfl
theorem rd_ixL {K : PySem.W.Frag} {σ : St} {H0 : Hp} {i j k : Nat} {A : Addr} {xs : List V} {v : V} {d : PyData} (hi : σ[i]? = some (some (.ref A))) (hj : σ[j]? = some (some (.int (k : Int)))) (hA : H0 A = some (.lst xs)) (hk : xs[k]? = some v) (hv : Dh H0 v d) : Rd1 (tOp (rIxL K) (tVar i) (tVar j)) σ H0 d := fun H Q s q =>
  ⟨_, hi, _, hj, rIxL_of (SqL.of (s _ _ hA)) (atI_nat hk) (q v H (hv.same s.d) (Same.refl H))⟩
theorem rd_max {σ : St} {H0 : Hp} {ta tb : TE} {i j : Int} (ha : Rd1 ta σ H0 (.int i)) (hb : Rd1 tb σ H0 (.int j)) : Rd1 (tCB (fun xs H Q => ∃ i j, xs = [V.int i, V.int j] ∧ Q (V.int (if j > i then j else i)) H) (tCons ta (tCons tb tNil))) σ H0 (.int (if j > i then j else i)) := fun H Q s q =>
  ha H _ s fun v H1 hv s1 => hb H1 _ (s.trans s1) fun u H2 hu s2 => by
    obtain rfl := show v = .int i by cases hv; rfl
    obtain rfl := show u = .int j by cases hu; rfl
    exact ⟨i, j, rfl, q _ H2 (.int _) (s1.trans s2)⟩
theorem modB (x : Int) {B : Int} (hB : 0 ≤ B) : -B ≤ x % (2 * B + 1) - B ∧ x % (2 * B + 1) - B ≤ B := by
  have h1 := Int.emod_nonneg x (show 2 * B + 1 ≠ 0 by omega)
  have h2 := Int.emod_lt_of_pos x (show 0 < 2 * B + 1 by omega)
  omega
theorem rd_le {σ : St} {H0 : Hp} {ta tb : TE} {i j : Int} (ha : Rd1 ta σ H0 (.int i)) (hb : Rd1 tb σ H0 (.int j)) : Rd1 (tOp (rI0 fun a b => .bl (decide (a ≤ b))) ta tb) σ H0 (.bool (decide (i ≤ j))) := fun H Q s q =>
  ha H _ s fun v H1 hv s1 => hb H1 _ (s.trans s1) fun u H2 hu s2 => by
    obtain rfl := show v = .int i by cases hv; rfl
    obtain rfl := show u = .int j by cases hu; rfl
    exact ⟨i, j, rfl, rfl, q _ H2 (.bl _) (s1.trans s2)⟩
theorem rd_abs {σ : St} {H0 : Hp} {ta : TE} {i : Int} (ha : Rd1 ta σ H0 (.int i)) : Rd1 (tCB (fun xs H Q => ∃ i, xs = [V.int i] ∧ Q (V.int (if i < 0 then -i else i)) H) (tCons ta tNil)) σ H0 (.int (if i < 0 then -i else i)) := fun H Q s q =>
  ha H _ s fun v H1 hv s1 => by
    obtain rfl := show v = .int i by cases hv; rfl
    exact ⟨i, rfl, q _ H1 (.int _) s1⟩
theorem rd_cat {σ : St} {H0 : Hp} {ta tb : TE} {ds es : List PyData} (ha : Rd1 ta σ H0 (.list ds)) (hb : Rd1 tb σ H0 (.list es)) (hl : ds.length + es.length ≤ 1000) : Rd1 (tOp rCat ta tb) σ H0 (.list (ds ++ es)) := fun H Q s q =>
  ha H _ s fun v H1 hv s1 => hb H1 _ (s.trans s1) fun u H2 hu s2 => by
    obtain ⟨A, xs, rfl, h2, h3⟩ : ∃ A xs, v = .ref A ∧ H1 A = some (.lst xs) ∧ Dhs H1 xs ds := by cases hv with | lst h1 h2 => exact ⟨_, _, rfl, h1, h2⟩
    obtain ⟨B, ys, rfl, h4, h5⟩ : ∃ A xs, u = .ref A ∧ H2 A = some (.lst xs) ∧ Dhs H2 xs es := by cases hu with | lst h1 h2 => exact ⟨_, _, rfl, h1, h2⟩
    have e1 := h3.length
    have e2 := h5.length
    exact ⟨A, B, xs, ys, rfl, rfl, s2 _ _ h2, h4, small_of (by omega), fun p hp => q _ _ (.lst upd_same ((Dhs.app (h3.same s2.d) h5).same ((Same.refl H2).new hp).d)) (s1.trans (s2.trans ((Same.refl H2).new hp)))⟩
theorem Dhs.take {H : Hp} : ∀ {xs : List V} {ds : List PyData} (n : Nat), Dhs H xs ds → Dhs H (xs.take n) (ds.take n)
  | _, _, 0, _ => .nil
  | _, _, n + 1, .nil => .nil
  | _, _, n + 1, .cons h t => .cons h (Dhs.take n t)
theorem cut_take (xs : List V) (k : Nat) : cutV xs none (some (k : Int)) = xs.take k := by
  unfold cutV HT.sIx
  simp only [List.drop_zero, Nat.sub_zero]
  have : ¬ (k : Int) < 0 := by omega
  simp only [this, if_false]
  by_cases h : k ≤ xs.length
  · congr 1
    omega
  · rw [List.take_of_length_le (by omega), List.take_of_length_le (by omega)]
theorem rd_take {K : PySem.W.Frag} {σ : St} {H0 : Hp} {i k : Nat} {A : Addr} {xs : List V} {ds : List PyData} (hi : σ[i]? = some (some (.ref A))) (hA : H0 A = some (.lst xs)) (hx : Dhs H0 xs ds) : Rd1 (tSl (rSlL K) (tVar i) tNoPart (tPart (tC (.int (k : Int))))) σ H0 (.list (ds.take k)) := fun H Q s q => by
  refine ⟨_, hi, ?_⟩
  simp only [tPart, tC, tNoPart, V.int.injEq, exists_eq_left']
  refine ⟨A, xs, rfl, SqL.of (s _ _ hA), fun p hp => ?_⟩
  rw [cut_take]
  exact q _ _ (.lst upd_same ((Dhs.take k (hx.same s.d)).same ((Same.refl H).new hp).d)) ((Same.refl H).new hp)
theorem Dhs.at' {H : Hp} : ∀ {xs : List V} {ds : List PyData} {k : Nat} {d : PyData}, Dhs H xs ds → ds[k]? = some d → ∃ v, xs[k]? = some v ∧ Dh H v d
  | _, _, 0, _, .cons h _, e => ⟨_, rfl, by cases e; exact h⟩
  | _, _, k + 1, _, .cons _ t, e => Dhs.at' (k := k) t e
  | _, _, 0, _, .nil, e => by cases e
  | _, _, k + 1, _, .nil, e => by cases e
theorem rd_dispN {K : PySem.W.Frag} {σ : St} {H0 : Hp} {ta : TA} {te : TE} {d : PyData} {k : Nat} (ds : List PyData) (ha : RdA ta σ H0 ds) (hl : ds.length ≤ 1000) (he : Rd1 te σ H0 (.int (k : Int))) (hk : ds[k]? = some d) : Rd1 (tOp (rIxL K) (tLst ta) te) σ H0 d := fun H Q s q =>
  rd_lst ha hl H _ s fun v H1 hv s1 => he H1 _ (s.trans s1) fun u H2 hu s2 => by
    obtain rfl := show u = .int (k : Int) by cases hu; rfl
    obtain ⟨A, xs, rfl, h2, h3⟩ : ∃ A xs, v = .ref A ∧ H1 A = some (.lst xs) ∧ Dhs H1 xs ds := by cases hv with | lst h1 h2 => exact ⟨_, _, rfl, h1, h2⟩
    obtain ⟨w, e1, e2⟩ := Dhs.at' h3 hk
    exact rIxL_of (SqL.of (s2 _ _ h2)) (atI_nat e1) (q _ H2 (e2.same s2.d) (s1.trans s2))
theorem rd_ixM1 {K : PySem.W.Frag} {σ : St} {H0 : Hp} {i : Nat} {A : Addr} {xs : List V} {ds : List PyData} {d : PyData} (hi : σ[i]? = some (some (.ref A))) (hA : H0 A = some (.lst xs)) (hx : Dhs H0 xs (ds ++ [d])) : Rd1 (tOp (rIxL K) (tVar i) (tUn (rU fun i => .int (-i)) (tC (.int 1)))) σ H0 d := fun H Q s q => by
  obtain ⟨ys, w, rfl, h1, h2⟩ := Dhs.unsnoc hx
  have ej : ixN (ys ++ [w]).length (-1) = some ys.length := by
    unfold ixN
    rw [List.length_append]
    simp
    omega
  refine ⟨_, hi, 1, rfl, rIxL_of (SqL.of (s _ _ hA)) (v := w) ?_ (q w H (h2.same s.d) (Same.refl H))⟩
  unfold atI
  rw [ej]
  simp
end
end Fb

end

section
set_option maxHeartbeats 2000000
/-! sorted of a list of texts, of a dict's keys -/
namespace L2
open PySem PySem.Spec PyProof.Rows
section
variable {X : Cx} {pins : List (Addr × Obj)} {σ : St} {H : Hp} {s : Shared} {h' : Heap} {D : Addr} {o : HO}
/-- an object laid where nothing was -/
theorem Inv.laid2 {t' : Nat} (I : Inv X pins σ H s) (k : ∀ b u, s.heap.get? b = some u → h'.get? b = some u) (hn : s.heap.get? D = none) (new : ObjOk X.prog X.w (upd H D o) h' D o) : Inv X pins σ (upd H D o) { s with heap := h', toks := t' } ∧ H D = none := by
  have nt : H D = none := by
    cases e : H D with
    | none => rfl
    | some v =>
      obtain ⟨u, q⟩ := (I.hok D v e).there
      rw [hn] at q; cases q
  have ne : ∀ b u, s.heap.get? b = some u → b ≠ D := fun b u e z => by rw [z, hn] at e; cases e
  refine ⟨I.un (t' := t') ⟨fun b u q _ _ _ => k b u q, fun b u q _ _ _ => ⟨u.slots, k b u q⟩, fun b u q n _ => by rw [upd_ne (ne b u q)]; exact n, fun b u q _ => ⟨u, k b u q⟩, fun b xs q => by rw [upd_ne (ne_of_none q nt)]; exact q, fun b u v q => by rw [upd_ne (ne_of_none q nt)]; exact q, fun b ps q => ⟨#[], by rw [upd_ne (ne_of_none q nt), q]; simp⟩⟩ fun b u e => ?_, nt⟩
  by_cases z : b = D
  · subst z; rw [upd_same] at e; cases e; exact new
  · rw [upd_ne z] at e
    exact (I.hok b u e).stay (fun c v _ q => k c v q) (fun c q => by rw [upd_ne (ne_of_none q nt)]; exact q) fun c xs q => by rw [upd_ne (ne_of_none q nt)]; exact q
theorem strs_of : ∀ {ss : List Str} {us : List Value}, Vals (ss.map V.str) us → StrsAre us ss
  | [], _, .nil => .nil
  | x :: r, _, .cons h t => by
    obtain ⟨tk, rfl⟩ := h
    exact .cons x tk (strs_of t)
theorem vals_of : ∀ {ss : List Str} {us : List Value}, StrsAre us ss → Vals (ss.map V.str) us
  | _, _, .nil => .nil
  | _, _, .cons x t h => .cons ⟨t, rfl⟩ (vals_of h)
theorem strs_len : ∀ {ss : List Str} {us : List Value}, StrsAre us ss → us.length = ss.length
  | _, _, .nil => rfl
  | _, _, .cons x t h => by rw [List.length_cons, List.length_cons, strs_len h]
theorem call_sortL : CallR X (.builtin "sorted") (fun xs H Q => ∃ a ss, xs = [V.ref a] ∧ SqL X.K H a (ss.map V.str) ∧ ss.length < 64 ∧ ∀ l ss', H l = none → ss'.Perm ss → sortedS ss' = true → Q (.ref l) (upd H l (.lst (ss'.map V.str)))) := by
  intro pins s σ H xs us Q I r h
  obtain ⟨a, ss, rfl, hq, h64, q⟩ := h
  obtain ⟨u, rfl, ru⟩ := vals1 r
  obtain rfl : u = Value.ref a := ru
  obtain ⟨its, rv, p, hz⟩ := I.list hq
  have hS := strs_of rv
  have hl := strs_len hS
  refine sorted_strs p.isList hS (by omega) fun out ss' a1 a2 a3 => ?_
  obtain ⟨e, he⟩ := sortedAll_at s.heap its out
  have hl2 := strs_len a1
  have hl3 := a2.length_eq
  have new : ObjOk X.prog X.w (upd H (s.heap.objs.size + 1) (.lst (ss'.map V.str))) (sortedAll s.heap its out) (s.heap.objs.size + 1) (.lst (ss'.map V.str)) := ⟨small_of (by rw [List.length_map]; omega), out.toList, e, vals_of a1, by rw [he, Array.toArray_toList]⟩
  obtain ⟨I2, nt⟩ := I.laid2 (t' := s.toks) (fun b u q => sortedAll_old q) (Heap.get?_none_of_le (Nat.le_succ _)) new
  exact ⟨.ref (s.heap.objs.size + 1), _, I2, rfl, q _ ss' nt a2 a3⟩
theorem keys_strs {P : Program} {w : World} : ∀ {ss : List Str} {vs : List (Key × Value)} {us : List Value}, vs.map (·.1) = ss.map (fun x => (Sum.inr x : Key)) → us.length = vs.length → (∀ (j : Nat) (v : Value), us[j]? = some v → ∃ k x, vs[j]? = some (k, x) ∧ (mixKind P w).is k v = true) → StrsAre us ss
  | [], [], [], _, _, _ => .nil
  | x :: r, (k, y) :: vs, u :: us, hk, hl, hp => by
    have hk1 : k = Sum.inr x := (List.cons.inj hk).1
    obtain ⟨k', x', e1, e2⟩ := hp 0 u rfl
    have e1 : (k, y) = (k', x') := Option.some.inj e1
    cases e1
    rw [hk1] at e2
    have ih := keys_strs (P := P) (w := w) (ss := r) (vs := vs) (us := us) (List.cons.inj hk).2 (by simpa using hl) fun j v e => hp (j + 1) v e
    have e3 : keyIs (Sum.inr x) u = true := e2
    cases u
    case str z t =>
      have : z = x := by simpa [keyIs, Value.isStrOf] using e3
      rw [this]
      exact .cons x t ih
    all_goals exact absurd e3 (by simp [keyIs, Value.isStrOf])
  | [], _ :: _, _, hk, _, _ => by cases hk
  | _ :: _, [], _, hk, _, _ => by cases hk
  | [], [], _ :: _, _, hl, _ => by cases hl
  | _ :: _, _ :: _, [], _, hl, _ => by cases hl
theorem call_sortD (hc : X.calm = true) : CallR X (.builtin "sorted") (fun xs H Q => ∃ d kvs ss, xs = [V.ref d] ∧ H d = some (.dK kvs) ∧ kvs.map (·.1) = ss.map (fun x => (Sum.inr x : Key)) ∧ ss.length < 64 ∧ ∀ l ss', H l = none → ss'.Perm ss → sortedS ss' = true → Q (.ref l) (upd H l (.lst (ss'.map V.str)))) := by
  intro pins s σ H xs us Q I r h
  obtain ⟨d, kvs, ss, rfl, hd, hk, h64, q⟩ := h
  obtain ⟨u, rfl, ru⟩ := vals1 r
  obtain rfl : u = Value.ref d := ru
  obtain ⟨z, hsm, vs, rel, dd⟩ := dk_of I.hok hd
  obtain ⟨ep, hat⟩ := dd.dictAt
  have hkv : vs.map (·.1) = kvs.map (·.1) := by
    clear hat dd z hk hd
    induction rel with
    | nil => rfl
    | cons h _ ih => rw [List.map_cons, List.map_cons, ih, h.1]
  have hlv : vs.length = ss.length := by
    have := congrArg List.length (hkv.trans hk)
    simpa using this
  refine Calls.call_function_entry kind_sorted plain_sorted entry_sorted (args_sorted1 _) ?_
  unfold Builtin.«sorted»
  refine wpAny_bind (m := checkCount "sorted" 1 1 _) (wpAny_pure (wpAny_bind (PySem.W.kdu_collect (A := X.A.in1) (PySem.W.kdl_dict (knd := mixKind X.prog X.w) (kvs := vs) (ep := ep) hsm) (I.ok.hd hc) hat (by rw [← rel.length]; exact z) fun h1 tk acc k1 hacc => ?_)))
  have hS : StrsAre acc.toList ss := keys_strs (P := X.prog) (w := X.w) (hkv.trans hk) (by rw [Array.length_toList]; exact hacc.1) fun j v e => hacc.2 j v (by rw [← Array.getElem?_toList]; exact e)
  have hl := strs_len hS
  refine wpAny_bind (wpAny_newList ?_ (small_of (by omega)))
  have hoL : (h1.push { cls := .type "list", data := .seq acc.toList.toArray }).get? h1.objs.size = some (seqObj "list" acc.toList.toArray 0) := Heap.get?_push_size _ rfl
  refine wpAny_bind (wpAny_holding (wpAny_call_entry slot_list_sort ⟨_, hoL, rfl⟩ entry_list_sort (list_sort_treeK strKind_oneLt hoL hS.keysOf (fun v₁ v₂ more e => keyKind_strs (by rw [← e]; exact hS)) (by omega) fun st' p1 p2 => ⟨_, rfl, wpAny_pure ⟨_, rfl, ?_⟩⟩) (args_list_sort _)))
  obtain ⟨ss', b1, b2, b3⟩ := sorted_out_str hS p1 p2
  obtain ⟨e, he⟩ := sortedHeap_at (out := (arrOf st').map (·.2)) hoL
  have hl2 := strs_len b1
  have hl3 := b2.length_eq
  have k2 : ∀ b u, s.heap.get? b = some u → (sortedHeap (h1.push { cls := .type "list", data := .seq acc.toList.toArray }) h1.objs.size acc.toList ((arrOf st').map (·.2))).get? b = some u := fun b u e => by
    have lt := Heap.lt_size (k1 b u e)
    rw [sortedHeap_old (Nat.ne_of_lt lt) (by rw [Heap.size_push]; exact Nat.lt_succ_of_lt lt)]
    exact Heap.get?_push_of_some _ (k1 b u e)
  have nD : s.heap.get? h1.objs.size = none := by
    cases e : s.heap.get? h1.objs.size with
    | none => rfl
    | some u => exact absurd (Heap.lt_size (k1 _ u e)) (Nat.lt_irrefl _)
  have new : ObjOk X.prog X.w (upd H h1.objs.size (.lst (ss'.map V.str))) (sortedHeap (h1.push { cls := .type "list", data := .seq acc.toList.toArray }) h1.objs.size acc.toList ((arrOf st').map (·.2))) h1.objs.size (.lst (ss'.map V.str)) := ⟨small_of (by rw [List.length_map]; omega), ((arrOf st').map (·.2)).toList, e, vals_of b1, by rw [he, Array.toArray_toList]⟩
  obtain ⟨I2, nt⟩ := I.laid2 (t' := tk) k2 nD new
  exact ⟨.ref h1.objs.size, _, I2, rfl, q _ ss' nt b2 b3⟩
theorem rising_pw : ∀ (l : List Str) (p : Str), risingS p l = true → (p :: l).Pairwise (fun a b => a.cps.toList ≤ b.cps.toList)
  | [], p, _ => List.pairwise_singleton _ _
  | x :: r, p, h => by
    have h : (!ltCps x.cps.toList p.cps.toList && risingS x r) = true := h
    rw [Bool.and_eq_true] at h
    have ih := rising_pw r x h.2
    have h1 : p.cps.toList ≤ x.cps.toList := by
      have := h.1
      rw [ltCps_eq] at this
      exact of_decide_eq_false (by simpa using this)
    refine List.pairwise_cons.mpr ⟨fun y hy => ?_, ih⟩
    rcases List.mem_cons.mp hy with e | e
    · rw [e]; exact h1
    · exact List.le_trans h1 ((List.pairwise_cons.mp ih).1 y e)
theorem sorted_pw : ∀ {l : List Str}, sortedS l = true → l.Pairwise (fun a b => a.cps.toList ≤ b.cps.toList)
  | [], _ => List.Pairwise.nil
  | x :: r, h => rising_pw r x h
/-- there is one way to lay texts in order -/
theorem sorted_uniq {l m : List Str} (hp : l.Perm m) (hl : sortedS l = true) (hm : sortedS m = true) : l = m :=
  List.Perm.eq_of_pairwise (fun a b _ _ h1 h2 => by
    have := List.le_antisymm h1 h2
    cases a; cases b
    congr 1
    exact Array.toList_inj.mp this) (sorted_pw hl) (sorted_pw hm) hp
end
end L2

end

section
set_option maxHeartbeats 2000000
/-! Lists of data made by a comprehension -/
namespace Fb
open PySem L2
theorem Dhs.of {H : Hp} : ∀ {ys : List V} {ds : List PyData}, ys.length = ds.length → (∀ (j : Nat) v d, ys[j]? = some v → ds[j]? = some d → Dh H v d) → Dhs H ys ds
  | [], [], _, _ => .nil
  | y :: ys, d :: ds, hl, h => .cons (h 0 y d rfl rfl) (Dhs.of (ys := ys) (ds := ds) (by simpa using hl) fun j v e h1 h2 => h (j + 1) v e h1 h2)
  | [], _ :: _, hl, _ => by cases hl
  | _ :: _, [], hl, _ => by cases hl
/-- data that the object D is no part of -/
def DhX (D : Addr) (H : Hp) (v : V) (d : PyData) : Prop := ∀ H', (∀ b o, H b = some o → b ≠ D → H' b = some o) → Dh H' v d
theorem DhX.dh {D : Addr} {H : Hp} {v : V} {d : PyData} (h : DhX D H v d) : Dh H v d := h H fun _ _ e _ => e
theorem DhX.mono {D : Addr} {H H' : Hp} {v : V} {d : PyData} (h : DhX D H v d) (k : ∀ b o, H b = some o → b ≠ D → H' b = some o) : DhX D H' v d := fun H2 k2 => h H2 fun b o e n => k2 b o (k b o e n) n
theorem DhX.of {D : Addr} {H : Hp} {v : V} {d : PyData} {ys : List V} (hD : H D = some (.lst ys)) (h : Dh H v d) (hn : noL d = true) : DhX D H v d := fun H' k => h.sameT (fun b xs e => k b _ e (ne_of e hD (by intro z; cases z))) hn
theorem DhX.lst {D r : Addr} {H : Hp} {ds : List PyData} {ys xs : List V} (hD : H D = some (.lst ys)) (hr : H r = some (.lst xs)) (hx : Dhs H xs ds) (hn : noLs ds = true) (ne : r ≠ D) : DhX D H (.ref r) (.list ds) := fun H' k => .lst (k r _ hr ne) (hx.sameT (fun b xs e => k b _ e (ne_of e hD (by intro z; cases z))) hn)
theorem lc_data {J : It} {xs : List V} {D : Addr} {n : Nat} {g : TG} {tc : TT} {te : TE} {σ : St} {Qd : Addr → Hp → Prop} {H1 : Hp} (hD : H1 D = none) (hy : ∀ H, Same H1 H → Yields J xs H) (hlen : xs.length ≤ 900) (f : Nat → PyData)
    (hs : ∀ i x H (R : VK) (E : Hp → Prop), xs[i]? = some x → Same H1 H → (∃ ys, H D = some (.lst ys)) → (∀ v H', DhX D H' v (f i) → Same H H' → R v H') → g x (σ ++ List.replicate n none) H fun σ2 H2 => (∀ (j : Nat) v, (σ ++ List.replicate n none)[j]? = some (some v) → σ2[j]? = some (some v)) ∧ tc σ2 H2 fun b H3 => if b = true then te σ2 H3 R else E H3)
    (hd : ∀ H, Dh H (.ref D) (.list ((List.range xs.length).map f)) → Same H1 H → Qd D H) : LcW J D n g tc te σ Qd H1 := by
  refine lc_gen (xs := xs) (fun i H => ∃ ys, H D = some (.lst ys) ∧ Same H1 H ∧ ys.length = i ∧ i ≤ xs.length ∧ ∀ (j : Nat) v, ys[j]? = some v → DhX D H v (f j)) ?_ ?_ ?_ ?_
  · exact ⟨[], upd_same, (Same.refl H1).new hD, rfl, Nat.zero_le _, fun j v e => by simp at e⟩
  · rintro i H _ ⟨ys, _, s, _⟩
    exact hy H s
  · rintro i x H hx ⟨ys, hys, s, hl, hle, hv⟩
    refine hs i x H _ _ hx s ⟨ys, hys⟩ fun v H' hv' s' => ?_
    have lt := (List.getElem?_eq_some_iff.mp hx).1
    refine ⟨ys, s' _ _ hys, small1000 (by omega), ys ++ [v], upd_same, fun b o e => ?_, by rw [List.length_append, hl]; rfl, by omega, fun j u e => ?_⟩
    · rw [upd_ne (ne_of_none e hD)]; exact s' _ _ (s _ _ e)
    · have k : ∀ b o, H' b = some o → b ≠ D → (upd H' D (.lst (ys ++ [v]))) b = some o := fun b o e n => by rw [upd_ne n]; exact e
      by_cases hj : j < ys.length
      · rw [List.getElem?_append_left hj] at e
        exact ((hv j u e).mono fun b o e n => s' _ _ e).mono k
      · have ej : j = ys.length := by
          have := (List.getElem?_eq_some_iff.mp e).1
          rw [List.length_append] at this
          simp at this
          omega
        rw [ej] at e ⊢
        simp at e
        subst e
        rw [hl]
        exact hv'.mono k
  · rintro H ⟨ys, hys, s, hl, _, hv⟩
    refine hd H (.lst hys (Dhs.of (by simp [hl]) fun j v d h1 h2 => ?_)) s
    rw [List.getElem?_map] at h2
    have lt := (List.getElem?_eq_some_iff.mp h1).1
    rw [List.getElem?_range (by omega)] at h2
    obtain rfl : f j = d := by simpa using h2
    exact (hv j v h1).dh
theorem range_getD {α β : Type} (l : List α) (d : α) (g : α → β) : (List.range l.length).map (fun i => g (l.getD i d)) = l.map g := by
  apply List.ext_getElem
  · simp
  · intro i h1 h2
    have : i < l.length := by simpa using h2
    simp [List.getD_eq_getElem?_getD, this]
/-! ### names in order -/
structure Listed (ss : List Str) (g : Str → Bool) : Prop where
  nd : ss.Nodup
  mem : ∀ n, n ∈ ss ↔ g n = true
  so : PyProof.Rows.sortedS ss = true
theorem Listed.uniq {ss tt : List Str} {g : Str → Bool} (a : Listed ss g) (b : Listed tt g) : ss = tt :=
  sorted_uniq ((List.perm_ext_iff_of_nodup a.nd b.nd).mpr fun n => (a.mem n).trans (b.mem n).symm) a.so b.so
theorem Listed.one {ss : List Str} {g : Str → Bool} {n : Str} (a : Listed ss g) (h : ∀ m, g m = decide (m = n)) : ss = [n] :=
  a.uniq ⟨by simp, fun m => by rw [h m]; simp, rfl⟩
theorem Listed.no {ss : List Str} {g : Str → Bool} (a : Listed ss g) (h : ∀ m, g m = false) : ss = [] :=
  a.uniq ⟨by simp, fun m => by rw [h m]; simp, rfl⟩
theorem Listed.of {ks ss : List Str} {g : Str → Bool} (nd : ks.Nodup) (hm : ∀ n, n ∈ ks ↔ g n = true) (hp : ss.Perm ks) (so : PyProof.Rows.sortedS ss = true) : Listed ss g := ⟨hp.nodup_iff.mpr nd, fun n => hp.mem_iff.trans (hm n), so⟩
theorem listed_ex {ks : List Str} {g : Str → Bool} (nd : ks.Nodup) (hm : ∀ n, n ∈ ks ↔ g n = true) : ∃ ss, Listed ss g := by
  refine ⟨ks.mergeSort (fun a b => decide (a.cps.toList ≤ b.cps.toList)), Listed.of nd hm (List.mergeSort_perm _ _) (PyProof.Rows.sortedS_of_pairwise _ ?_)⟩
  have := List.pairwise_mergeSort (le := fun a b : Str => decide (a.cps.toList ≤ b.cps.toList)) (fun a b c h1 h2 => decide_eq_true (List.le_trans (of_decide_eq_true h1) (of_decide_eq_true h2))) (fun a b => by
    rcases List.le_total a.cps.toList b.cps.toList with h | h
    · simp [h]
    · simp [h]) ks
  refine this.imp fun {a b} h => ?_
  rw [PyProof.Rows.ltCps_eq]
  exact decide_eq_false (of_decide_eq_true h)
def valD (s : Y.S Str) (n : Str) : PyData := match s.th n with
  | some t => .tuple [.str n, .int t.value, .int t.version]
  | none => .none
def copD (f : Str → Option Y.Cp) (n : Str) : PyData := match f n with
  | some x => .tuple [.str n, .int x.value, .int x.version, .int x.till]
  | none => .none
theorem valD_noL (s : Y.S Str) (n : Str) : noL (valD s n) = true := by unfold valD; cases s.th n <;> rfl
theorem copD_noL (f : Str → Option Y.Cp) (n : Str) : noL (copD f n) = true := by unfold copD; cases f n <;> rfl
theorem noLs_map {α : Type} (f : α → PyData) (h : ∀ a, noL (f a) = true) : ∀ l : List α, noLs (l.map f) = true
  | [] => rfl
  | a :: l => by
    show (noL (f a) && noLs (l.map f)) = true
    rw [h a, noLs_map f h l]; rfl
open Y in
theorem step_dom {p : Pl} {s : S Str} {δ : Deed Str} (m : Str) : ((Y.step p s δ).2.th m).isSome = (s.th m).isSome := by
  have nm : ∀ (d : Int) (n : Str) (k : Th → An × S Str), (∀ t, s.th n = some t → ((k t).2.th m).isSome = (s.th m).isSome) → ((named p s d n k).2.th m).isSome = (s.th m).isSome := fun d n k hk => by
    unfold named
    cases isDesk p d with
    | false => rfl
    | true =>
      simp only [↓reduceIte]
      cases ht : s.th n with
      | none => rfl
      | some t =>
        dsimp only
        cases s.up d with
        | false => rfl
        | true => exact hk t ht
  have set : ∀ (n : Str) (t t' : Th), s.th n = some t → (set1 s.th n (some t') m).isSome = (s.th m).isSome := fun n t t' ht => by
    by_cases z : m = n
    · rw [z, set1_same, ht]; rfl
    · rw [set1_ne z]
  cases δ with
  | pass q => rfl
  | shift d o => simp only [Y.step]; split; split; all_goals rfl
  | read d n =>
    refine nm d n _ fun t ht => ?_
    unfold readT
    split
    · rfl
    · split
      · rfl
      · split
        · split
          · rfl
          · exact set n t _ ht
        · rfl
  | change d n v =>
    refine nm d n _ fun t ht => ?_
    unfold changeT
    split
    · split
      · exact set n t _ ht
      · exact set n t _ ht
    · rfl
  | tries n =>
    simp only [Y.step]
    split
    · rfl
    · rename_i t ht
      split
      · exact set n t _ ht
      · rfl
  | back d n =>
    refine nm d n _ fun t ht => ?_
    unfold backT
    cases hu : s.up t.keeper with
    | true => exact set n t _ ht
    | false => rfl
  | stop d =>
    simp only [Y.step]
    split
    · split
      · show ((s.th m).map _).isSome = _
        rw [Option.isSome_map]
      · rfl
    · rfl
  | wake d =>
    simp only [Y.step]
    split
    · split
      · rfl
      · show ((s.th m).map _).isSome = _
        rw [Option.isSome_map]
    · rfl
open Y in
theorem run_dom {p : Pl} (m : Str) : ∀ (δs : List (Deed Str)) (s : S Str), ((run p s δs).2.th m).isSome = (s.th m).isSome
  | [], _ => rfl
  | δ :: δs, s => (run_dom m δs _).trans (step_dom m)
end Fb

end

section
set_option maxHeartbeats 2000000
/-! What a law's own text does with data -/
namespace Fb
open PySem L2
section
variable {σ : St} {H0 : Hp} {K : PySem.W.Frag}
theorem dhs3 {H : Hp} {vs : List V} {d e f : PyData} (h : Dhs H vs [d, e, f]) : ∃ x y z, vs = [x, y, z] ∧ Dh H x d ∧ Dh H y e ∧ Dh H z f := by
  obtain ⟨w1, r1, rfl, g1, h⟩ := Dhs.one h
  obtain ⟨w2, r2, rfl, g2, h⟩ := Dhs.one h
  obtain ⟨w3, r3, rfl, g3, h⟩ := Dhs.one h
  obtain rfl := Dhs.none h
  exact ⟨_, _, _, rfl, g1, g2, g3⟩
theorem dhs2 {H : Hp} {vs : List V} {d e : PyData} (h : Dhs H vs [d, e]) : ∃ x y, vs = [x, y] ∧ Dh H x d ∧ Dh H y e := by
  obtain ⟨w1, r1, rfl, g1, h⟩ := Dhs.one h
  obtain ⟨w2, r2, rfl, g2, h⟩ := Dhs.one h
  obtain rfl := Dhs.none h
  exact ⟨_, _, rfl, g1, g2⟩
theorem dh_list {H : Hp} {v : V} {ds : List PyData} (h : Dh H v (.list ds)) : ∃ A xs, v = .ref A ∧ H A = some (.lst xs) ∧ Dhs H xs ds := by cases h with | lst h1 h2 => exact ⟨_, _, rfl, h1, h2⟩
theorem dh_int {H : Hp} {v : V} {i : Int} (h : Dh H v (.int i)) : v = .int i := by cases h; rfl
theorem dh_bl {H : Hp} {v : V} {b : Bool} (h : Dh H v (.bool b)) : v = .bl b := by cases h; rfl
theorem rd_neg {t : TE} {i : Int} (h : Rd1 t σ H0 (.int i)) : Rd1 (tUn (rU fun i => .int (-i)) t) σ H0 (.int (-i)) := fun H Q s q =>
  h H _ s fun v H1 hv s1 => by
    obtain rfl := show v = .int i by cases hv; rfl
    exact ⟨i, rfl, q _ H1 (.int _) s1⟩
theorem Rd1.from {t : TE} {d : PyData} {H1 : Hp} (h : Rd1 t σ H0 d) (s : Same H0 H1) : Rd1 t σ H1 d := fun H Q s1 q => h H Q (s.trans s1) q
theorem RdA.from {t : TA} {ds : List PyData} {H1 : Hp} (h : RdA t σ H0 ds) (s : Same H0 H1) : RdA t σ H1 ds := fun H Q s1 q => h H Q (s.trans s1) q
theorem rd_ixv {ts te : TE} {z : Int} (ns : List Int) (hs : Rd1 ts σ H0 (.list (ns.map .int))) (he : Rd1 te σ H0 (.int z)) (h0 : 0 ≤ z) (h1 : z < ns.length) : Rd1 (tOp (rIxL K) ts te) σ H0 (.int (ns.getD z.toNat 0)) := fun H Q s q =>
  hs H _ s fun v H1 hv s1 => he H1 _ (s.trans s1) fun u H2 hu s2 => by
    obtain rfl := show u = .int z by cases hu; rfl
    obtain ⟨A, xs, rfl, h2, h3⟩ : ∃ A xs, v = .ref A ∧ H1 A = some (.lst xs) ∧ Dhs H1 xs (ns.map .int) := by cases hv with | lst h1 h2 => exact ⟨_, _, rfl, h1, h2⟩
    have e : xs = ns.map V.int := by
      have := dhs_flat h3 (by simp [isSc])
      rw [this, List.map_map]
      rfl
    subst e
    obtain ⟨o, ho, ho2⟩ := atI_int (ns := ns) h0 h1
    refine rIxL_of (SqL.of (s2 _ _ h2)) ho ?_
    have := q (.int (ns.getD z.toNat 0)) H2 (.int _) (s1.trans s2)
    rw [List.getD_eq_getElem?_getD, ho2] at this
    exact this
/-- an item of a list of data -/
theorem rd_item {ts te : TE} {k : Nat} {ds : List PyData} {d : PyData} (hs : Rd1 ts σ H0 (.list ds)) (he : Rd1 te σ H0 (.int (k : Int))) (hk : ds[k]? = some d) : Rd1 (tOp (rIxL K) ts te) σ H0 d := fun H Q s q =>
  hs H _ s fun v H1 hv s1 => he H1 _ (s.trans s1) fun u H2 hu s2 => by
    obtain rfl := show u = .int (k : Int) by cases hu; rfl
    obtain ⟨A, xs, rfl, h2, h3⟩ : ∃ A xs, v = .ref A ∧ H1 A = some (.lst xs) ∧ Dhs H1 xs ds := by cases hv with | lst h1 h2 => exact ⟨_, _, rfl, h1, h2⟩
    obtain ⟨w, e1, e2⟩ := Dhs.at' h3 hk
    exact rIxL_of (SqL.of (s2 _ _ h2)) (atI_nat e1) (q _ H2 (e2.same s2.d) (s1.trans s2))
theorem rd_itemT {ts te : TE} {k : Nat} {ds : List PyData} {d : PyData} (hs : Rd1 ts σ H0 (.tuple ds)) (he : Rd1 te σ H0 (.int (k : Int))) (hk : ds[k]? = some d) : Rd1 (tOp (rIxT K) ts te) σ H0 d := fun H Q s q =>
  hs H _ s fun v H1 hv s1 => he H1 _ (s.trans s1) fun u H2 hu s2 => by
    obtain rfl := show u = .int (k : Int) by cases hu; rfl
    obtain ⟨A, xs, rfl, h2, h3⟩ : ∃ A xs, v = .ref A ∧ H1 A = some (.tup xs) ∧ Dhs H1 xs ds := by cases hv with | tup h1 h2 => exact ⟨_, _, rfl, h1, h2⟩
    obtain ⟨w, e1, e2⟩ := Dhs.at' h3 hk
    exact rIxT_of (SqT.of (s2 _ _ h2)) (atI_nat e1) (q _ H2 (e2.same s2.d) (s1.trans s2))
theorem rd_len {te : TE} {ds : List PyData} (he : Rd1 te σ H0 (.list ds)) : Rd1 (tCB (fun xs H Q => ∃ p ys, xs = [V.ref p] ∧ (SqL K H p ys ∨ SqT K H p ys) ∧ Q (.int ys.length) H) (tCons te tNil)) σ H0 (.int ds.length) := fun H Q s q =>
  he H _ s fun v H1 hv s1 => by
    obtain ⟨A, xs, rfl, h2, h3⟩ : ∃ A xs, v = .ref A ∧ H1 A = some (.lst xs) ∧ Dhs H1 xs ds := by cases hv with | lst h1 h2 => exact ⟨_, _, rfl, h1, h2⟩
    refine ⟨A, xs, rfl, Or.inl (SqL.of h2), ?_⟩
    rw [h3.length]
    exact q _ H1 (.int _) s1
/-- a call of what only lays data -/
theorem rd_sp {sp : Sp} {E : XK} {ta : TA} {d : PyData} (ds : List PyData) (ha : RdA ta σ H0 ds) (h : ∀ vs H Q, Dhs H vs ds → (∀ v H', Dh H' v d → Same H H' → Q v H') → sp vs H Q E) : Rd1 (tCall sp [] E ta) σ H0 d := fun H Q s q =>
  ha H _ s fun vs H1 hv s1 => by
    rw [List.append_nil]
    exact h vs H1 Q hv fun v H2 hv2 s2 => q v H2 hv2 (s1.trans s2)
theorem rd_neD {A : Around} {ta tb : TE} {d e : PyData} (ha : Rd1 ta σ H0 d) (hb : Rd1 tb σ H0 e) (l1 : d.canLay0 = true) (l2 : e.canLay0 = true) (hu : A.units + min d.depth e.depth < cLine) : Rd1 (tOp (rNeD K A) ta tb) σ H0 (.bool (!PyData.eqv d e)) := fun H Q s q =>
  ha H _ s fun v H1 hv s1 => hb H1 _ (s.trans s1) fun u H2 hu2 s2 => ⟨d, e, (hv.same s2.d).dt, hu2.dt, l1, l2, hu, q _ H2 (.bl _) (s1.trans s2)⟩
theorem rd_eqD {A : Around} {ta tb : TE} {d e : PyData} (ha : Rd1 ta σ H0 d) (hb : Rd1 tb σ H0 e) (l1 : d.canLay0 = true) (l2 : e.canLay0 = true) (hu : A.units + min d.depth e.depth < cLine) : Rd1 (tOp (rEqD K A) ta tb) σ H0 (.bool (PyData.eqv d e)) := fun H Q s q =>
  ha H _ s fun v H1 hv s1 => hb H1 _ (s.trans s1) fun u H2 hu2 s2 => ⟨d, e, (hv.same s2.d).dt, hu2.dt, l1, l2, hu, q _ H2 (.bl _) (s1.trans s2)⟩
theorem own_keep {σ : St} {n k : Nat} {x : Option V} (hk : σ.length ≤ k) (j : Nat) (v : V) (h : (σ ++ List.replicate n none)[j]? = some (some v)) : ((σ ++ List.replicate n none).set k x)[j]? = some (some v) := by
  by_cases e : j = k
  · subst e
    rw [List.getElem?_append_right hk, List.getElem?_replicate] at h
    split at h
    · cases h
    · cases h
  · rw [List.getElem?_set_ne (fun z => e z.symm)]; exact h
/-- a list made of a list -/
theorem rd_lc {ts te : TE} {n k : Nat} {ds : List PyData} (f : Nat → PyData) (hs : Rd1 ts σ H0 (.list ds)) (hk : σ.length ≤ k) (hl : ds.length ≤ 900) (hn : ∀ i, noL (f i) = true)
    (he : ∀ i d v H, ds[i]? = some d → Same H0 H → Dh H v d → Rd1 te ((σ ++ List.replicate n none).set k (some v)) H (f i)) : Rd1 (tLc n (iList K ts) (gName k) tYes te) σ H0 (.list ((List.range ds.length).map f)) := fun H Q s q => by
  refine hs H _ s fun v H1 hv s1 => ?_
  obtain ⟨A, xs, rfl, h2, h3⟩ : ∃ A xs, v = .ref A ∧ H1 A = some (.lst xs) ∧ Dhs H1 xs ds := by cases hv with | lst h1 h2 => exact ⟨_, _, rfl, h1, h2⟩
  refine ⟨A, rfl, ⟨xs, SqL.of h2⟩, fun D hD => ?_⟩
  refine lc_data (xs := xs) hD (fun H' sm => Yields.list (SqL.of (sm _ _ h2))) (by rw [h3.length]; exact hl) f (fun i x H2 R E hx sm hys r => ?_) fun H2 hd sm => ?_
  · obtain ⟨d, g1, g2⟩ := h3.get hx
    refine ⟨own_keep hk, ?_⟩
    obtain ⟨ys, hys⟩ := hys
    refine iteT (B := E H2) ?_
    exact he i d x H2 g1 (s.trans (s1.trans sm)) (g2.same sm.d) H2 R (Same.refl _) fun v H' hv s' => r v H' (DhX.of (s' _ _ hys) hv (hn i)) s'
  · rw [h3.length] at hd
    exact q _ H2 hd (s1.trans sm)
theorem rd_setLc {ts te : TE} {n k i : Nat} {ds : List PyData} {D : Ends} {H : Hp} (f : Nat → PyData) (hs : Rd1 ts σ H (.list ds)) (hk : σ.length ≤ k) (hl : ds.length ≤ 900) (hn : ∀ i, noL (f i) = true)
    (he : ∀ i d v H', ds[i]? = some d → Same H H' → Dh H' v d → Rd1 te ((σ ++ List.replicate n none).set k (some v)) H' (f i)) (q : ∀ v H', Dh H' v (.list ((List.range ds.length).map f)) → Same H H' → D.nx (σ.set i (some v)) H') : sLc n i (iList K ts) (gName k) tYes te D σ H :=
  rd_lc (K := K) f hs hk hl hn he H (fun v H' => D.nx (σ.set i (some v)) H') (Same.refl H) fun v H' hv s => q v H' hv s
/-- a list with the same data for each of a number -/
theorem rd_lcN {ta : TA} {te : TE} {n k m : Nat} (f : Nat → PyData) (hs : RdA ta σ H0 [.int (m : Int)]) (hk : σ.length ≤ k) (hl : m ≤ 900) (hn : ∀ i, noL (f i) = true)
    (he : ∀ i H, i < m → Same H0 H → Rd1 te ((σ ++ List.replicate n none).set k (some (.int (i : Int)))) H (f i)) : Rd1 (tLc n (iRng1 ta) (gName k) tYes te) σ H0 (.list ((List.range m).map f)) := fun H Q s q => by
  refine hs H _ s fun vs H1 hv s1 => ?_
  obtain ⟨w, r, rfl, g, hv⟩ := Dhs.one hv
  obtain rfl := Dhs.none hv
  obtain rfl := show w = .int (m : Int) by cases g; rfl
  refine ⟨m, rfl, by omega, by omega, fun D hD => ?_⟩
  rw [Int.toNat_natCast]
  refine lc_data (xs := rngV 0 m) hD (fun H' sm => Yields.range) (by rw [rngV_len]; exact hl) f (fun i x H2 R E hx sm hys r => ?_) fun H2 hd sm => ?_
  · obtain ⟨hi, rfl⟩ := rngV_at hx
    rw [show (0 : Int) + (i : Int) = (i : Int) by omega]
    refine ⟨own_keep hk, ?_⟩
    obtain ⟨ys, hys⟩ := hys
    refine iteT (B := E H2) ?_
    exact he i H2 hi (s.trans (s1.trans sm)) H2 R (Same.refl _) fun v H' hv s' => r v H' (DhX.of (s' _ _ hys) hv (hn i)) s'
  · rw [rngV_len] at hd
    exact q _ H2 hd (s1.trans sm)
/-! tests -/
def RdT (t : TT) (σ : St) (H0 : Hp) (b : Bool) : Prop := ∀ H Q, Same H0 H → (∀ H', Same H H' → Q b H') → t σ H Q
theorem rdt_test {t : TE} {b : Bool} (h : Rd1 t σ H0 (.bool b)) : RdT (tTest t) σ H0 b := fun H Q s q => h H _ s fun v H1 hv s1 => by
  obtain rfl := show v = .bl b by cases hv; rfl
  exact ⟨b, rfl, q H1 s1⟩
theorem rdt_b {t : TE} {b : Bool} (h : Rd1 t σ H0 (.bool b)) : RdT (tB t) σ H0 b := fun H Q s q => h H _ s fun v H1 hv s1 => by
  obtain rfl := show v = .bl b by cases hv; rfl
  exact ⟨b, rfl, q H1 s1⟩
theorem rdt_not {t : TT} {b : Bool} (h : RdT t σ H0 b) : RdT (tNot t) σ H0 (!b) := fun H Q s q => h H _ s q
theorem rdt_or {t u : TT} {a b : Bool} (h : RdT t σ H0 a) (h2 : a = false → RdT u σ H0 b) : RdT (tOr t u) σ H0 (a || b) := fun H Q s q => h H _ s fun H1 s1 => by
  cases a with
  | true => rw [if_pos rfl]; exact q H1 s1
  | false => rw [if_neg (by decide)]; exact h2 rfl H1 _ (s.trans s1) fun H2 s2 => q H2 (s1.trans s2)
theorem rdt_and {t u : TT} {a b : Bool} (h : RdT t σ H0 a) (h2 : a = true → RdT u σ H0 b) : RdT (tAnd t u) σ H0 (a && b) := fun H Q s q => h H _ s fun H1 s1 => by
  cases a with
  | false => rw [if_neg (by decide)]; exact q H1 s1
  | true => rw [if_pos rfl]; exact h2 rfl H1 _ (s.trans s1) fun H2 s2 => q H2 (s1.trans s2)
theorem RdT.to {t : TT} {a b : Bool} (h : RdT t σ H0 a) (e : a = b) : RdT t σ H0 b := e ▸ h
theorem rds_no {c : TT} {t1 t2 : TS} {D : Ends} {H : Hp} (h : RdT c σ H false) (q : ∀ H', Same H H' → t2 D σ H') : tIfS c t1 t2 D σ H := h H _ (Same.refl H) fun H' s => by
  rw [if_neg (by decide)]; exact q H' s
theorem rds_yes {c : TT} {t1 t2 : TS} {D : Ends} {H : Hp} (h : RdT c σ H true) (q : ∀ H', Same H H' → t1 D σ H') : tIfS c t1 t2 D σ H := h H _ (Same.refl H) fun H' s => by
  rw [if_pos rfl]; exact q H' s
theorem rds_if {c : TT} {t1 t2 : TS} {D : Ends} {H : Hp} {b : Bool} (h : RdT c σ H b) (q1 : ∀ H', b = true → Same H H' → t1 D σ H') (q2 : ∀ H', b = false → Same H H' → t2 D σ H') : tIfS c t1 t2 D σ H := h H _ (Same.refl H) fun H' s => by
  cases b with
  | true => rw [if_pos rfl]; exact q1 H' rfl s
  | false => rw [if_neg (by decide)]; exact q2 H' rfl s
/-! a list that grows -/
structure One (H0 H : Hp) (A : Addr) (ds : List PyData) : Prop where
  a : ∃ xs, H A = some (.lst xs) ∧ Dhs H xs ds
  na : noLs ds = true
  a0 : H0 A = none
  all : Same H0 H
theorem One.dh {H0 H : Hp} {A : Addr} {ds : List PyData} (t : One H0 H A ds) : Dh H (.ref A) (.list ds) := let ⟨_, h, d⟩ := t.a; .lst h d
theorem One.same {H0 H H' : Hp} {A : Addr} {ds : List PyData} (t : One H0 H A ds) (s : Same H H') : One H0 H' A ds := ⟨let ⟨xs, h, d⟩ := t.a; ⟨xs, s _ _ h, d.same s.d⟩, t.na, t.a0, t.all.trans s⟩
theorem One.app {i : Nat} {D : Ends} {H : Hp} {A : Addr} {ds : List PyData} {t : TE} (T : One H0 H A ds) (d : PyData) (hi : σ[i]? = some (some (.ref A))) (hl : ds.length ≤ 900) (ht : Rd1 t σ H d) (hd : noL d = true)
    (q : ∀ H', One H0 H' A (ds ++ [d]) → (∀ b o, H b = some o → b ≠ A → H' b = some o) → D.nx σ H') : tDrop (tBM K "list" rAppend (tVar i) (tCons t tNil)) D σ H := by
  obtain ⟨xs, h1, h2⟩ := T.a
  exact rd_app hi h1 h2 T.na hl ht hd fun H' xs' hA hx kp => q H' ⟨⟨xs', hA, hx⟩, by rw [noLs_append, T.na]; simp [noLs, hd], T.a0, fun b o e => kp b o (T.all b o e) (ne_of_none e T.a0)⟩ kp
theorem One.ext {i : Nat} {D : Ends} {H : Hp} {A : Addr} {ds : List PyData} {t : TE} (T : One H0 H A ds) (fs : List PyData) (hi : σ[i]? = some (some (.ref A))) (hl : ds.length + fs.length ≤ 900) (ht : Rd1 t σ H (.list fs)) (hd : noLs fs = true)
    (q : ∀ H', One H0 H' A (ds ++ fs) → (∀ b o, H b = some o → b ≠ A → H' b = some o) → D.nx σ H') : tDrop (tBM K "list" rExtend (tVar i) (tCons t tNil)) D σ H := by
  obtain ⟨xs, h1, h2⟩ := T.a
  exact rd_ext hi h1 h2 T.na hl ht hd fun H' xs' hA hx kp => q H' ⟨⟨xs', hA, hx⟩, by rw [noLs_append, T.na, hd]; rfl, T.a0, fun b o e => kp b o (T.all b o e) (ne_of_none e T.a0)⟩ kp
/-- a walk that only looks -/
theorem for_chk {tb : TS} {D : Ends} {H : Hp} {j n : Nat} {x0 : Option V} (hx0 : σ[j]? = some x0) (hs : ∀ (i : Nat) H' (D' : Ends), i < n → Same H H' → D'.rt = D.rt → (∀ H2, Same H' H2 → D'.nx (σ.set j (some (.int (i : Int)))) H2) → tb D' (σ.set j (some (.int (i : Int)))) H')
    (q : ∀ x H', Same H H' → D.nx (σ.set j x) H') : ForW (Itr 0 n) (gName j) tb D σ H := by
  refine for_gen (xs := rngV 0 n) (fun i σ' H' => ∃ x, σ' = σ.set j x ∧ Same H H') ⟨x0, ?_, Same.refl H⟩ (fun _ _ _ _ _ => Yields.range) ?_ ?_
  · obtain ⟨hj, e⟩ := List.getElem?_eq_some_iff.mp hx0
    rw [← e, List.set_getElem_self]
  · rintro i v σ' H' hv ⟨x, rfl, sm⟩
    obtain ⟨hi, rfl⟩ := rngV_at hv
    rw [show (0 : Int) + (i : Int) = (i : Int) by omega]
    show tb _ ((σ.set j x).set j _) H'
    rw [List.set_set]
    exact hs i H' _ hi sm rfl fun H2 s2 => ⟨_, rfl, sm.trans s2⟩
  · rintro σ' H' ⟨x, rfl, sm⟩
    exact q x H' sm
end
end Fb

end

section
set_option maxHeartbeats 2000000
/-! texts: walked, cut, split, asked, written -/
namespace L2
open PySem PySem.Spec PyProof.Rows PySem.Builtin PySem.Builtin.Str
section
variable {X : Cx} {tg : PySem.Expr}
def chV (z : Str) : List V := z.cps.toList.map fun c => V.str ⟨#[c]⟩
theorem chV_len (z : Str) : (chV z).length = z.cps.size := by simp [chV]
/-- a text's signs -/
def Its (z : Str) : It := ⟨fun i _ => i < z.cps.size, fun i H x H' => H' = H ∧ (chV z)[i]? = some x, fun i _ => z.cps.size ≤ i⟩
theorem Yields.str {z : Str} {H : Hp} : Yields (Its z) (chV z) H :=
  ⟨fun i x e => ⟨by have := (List.getElem?_eq_some_iff.mp e).1; rw [chV_len] at this; exact this, fun y H' ⟨e1, e2⟩ => ⟨e1, Option.some.inj (e2.symm.trans e)⟩⟩, by rw [chV_len]; exact Nat.le_refl _⟩
theorem turn_str {P : Program} {w : World} {K : PySem.W.Frag} (it : Addr) {z : Str} {t : Tok} : Turn P w K tg (Its z) [it] it (fun i h => h.IsStrIter it "str_ascii_iterator" z t i) where
  mem := by simp
  obj := fun i h st b hb => by
    have e : b = it := by simpa using hb
    subst e
    obtain ⟨o, e, c, d⟩ := st
    exact ⟨o, e, fun v z => by rw [d] at z; cases z⟩
  keep := fun i h h' st k => by
    obtain ⟨o, e, c, d⟩ := st
    exact ⟨o, k it (by simp) o e, c, d⟩
  item := by
    intro X hP hw hK hc i pins s σ H E I hf st hg
    subst hP hw hK
    have hg : i < z.cps.size := hg
    obtain ⟨f0, f1, f2, f3, f4, f5⟩ := hf it (by simp)
    refine wpAny_pyNext_ascii_item st (c := z.cps[i]) (by simp [hg]) fun h' st' sb => ?_
    have I1 : Inv X pins σ H { s with heap := h', toks := s.toks + 1 } := I.turned (t' := s.toks + 1) (fun b o hb e => (sb.2 b hb).trans e) f0 f1 f3 f4 f5
    obtain ⟨o, e, c, d⟩ := id st'
    exact ⟨_, rfl, go_of (s := { s with heap := h', toks := s.toks + 1 }) e c d (by decide) ⟨.str ⟨#[z.cps[i]]⟩, H, I1, ⟨_, rfl⟩, ⟨rfl, by unfold chV; rw [List.getElem?_map]; simp [hg]⟩, st', fun b hb => (hf b hb).1⟩⟩
  done := by
    intro X hP hw hK hc i pins s σ H E I hf st hg
    subst hP hw hK
    have hg : z.cps.size ≤ i := hg
    obtain ⟨f0, f1, f2, f3, f4, f5⟩ := hf it (by simp)
    exact wpAny_pyNext_ascii_end (I.ok.hd hc) st (by simp [hg]) fun h' eb => ⟨rfl, I.turned (t' := s.toks) (fun b o hb e => eb b o hb e) f0 f1 f3 f4 f5⟩
  self := fun _ _ _ _ _ st h => wpAny_pyIter_striter_ascii st h
def iStr (tl : TE) : TI := fun σ H R => tl σ H fun x H1 => ∃ z, x = .str z ∧ z.cps.all (· < 128) = true ∧ R (Its z) H1
theorem pi_str {l : PySem.Expr} {tl : TE} (hl : PE X l tl) : PI X tg l (iStr tl) := by
  intro pins s σ H R I h
  refine thn (hl pins s σ H _ I h) fun v s1 ⟨x, H1, I1, r1, z, ex, ha, q⟩ => ?_
  subst ex
  obtain ⟨t, rfl⟩ := r1
  refine wpAny_pyIter_ascii ha ?_
  refine ⟨s1.heap.objs.size, [s1.heap.objs.size], _, _, H1, rfl, I1.kept (t' := s1.toks) fun b o e => Heap.get?_push_of_some _ e, turn_str _, ⟨_, Heap.get?_push_size _ rfl, rfl, rfl⟩, fun b hb => ?_, q⟩
  have e : b = s1.heap.objs.size := by simpa using hb
  subst e
  exact I1.fpOk (Nat.le_refl _) (I1.hok.fresh (Nat.le_refl _))
/-- z[lo:hi] -/
def rSlS : V → Option Int → Option Int → Hp → VK → Prop := fun x lo hi H Q => ∃ z, x = .str z ∧ z.length ≤ sizeLine ∧ Q (.str (Txt.slice z lo hi)) H
theorem sl_str : SlR X rSlS := by
  intro pins s σ H x v vl vu lo hi sl Q I rx hs pl pu h
  obtain ⟨z, rfl, hz, q⟩ := h
  obtain ⟨t, rfl⟩ := rx
  refine ⟨"str", _, F.slot_str_getitem.lookup, typeIs_str _ _ _, ?_⟩
  cases pl with
  | none =>
    cases pu with
    | none => exact wpAny_getItem_str_slice (l := none) (u := none) (st := none) hs rfl (post_val_or_str ⟨Nat.le_trans (Txt.slice_le z _ _) hz, fun t' k => ⟨.str _, H, I.tok _, ⟨_, rfl⟩, q⟩⟩)
    | int j u => exact wpAny_getItem_str_slice (l := none) (u := some (j, u)) (st := none) hs rfl (post_val_or_str ⟨Nat.le_trans (Txt.slice_le z _ _) hz, fun t' k => ⟨.str _, H, I.tok _, ⟨_, rfl⟩, q⟩⟩)
  | int i u =>
    cases pu with
    | none => exact wpAny_getItem_str_slice (l := some (i, u)) (u := none) (st := none) hs rfl (post_val_or_str ⟨Nat.le_trans (Txt.slice_le z _ _) hz, fun t' k => ⟨.str _, H, I.tok _, ⟨_, rfl⟩, q⟩⟩)
    | int j u' => exact wpAny_getItem_str_slice (l := some (i, u)) (u := some (j, u')) (st := none) hs rfl (post_val_or_str ⟨Nat.le_trans (Txt.slice_le z _ _) hz, fun t' k => ⟨.str _, H, I.tok _, ⟨_, rfl⟩, q⟩⟩)
def rStarts : V → List V → Hp → VK → Prop := fun x xs H Q => ∃ a b, x = .str a ∧ xs = [.str b] ∧ Q (.bl (Txt.startswith a b)) H
theorem mt_startswith : MtR X "str.startswith" rStarts := by
  intro pins s σ H x vs v us Q I rx rv h
  obtain ⟨a, b, rfl, rfl, q⟩ := h
  obtain ⟨t, rfl⟩ := rx
  obtain ⟨u, rfl, tu, rfl⟩ := vals1 rv
  exact SC.startswith ⟨.bl _, H, I, rfl, q⟩
def rFind : V → List V → Hp → VK → Prop := fun x xs H Q => ∃ a b, x = .str a ∧ xs = [.str b] ∧ Q (.int (Txt.find a b)) H
theorem mt_find : MtR X "str.find" rFind := by
  intro pins s σ H x vs v us Q I rx rv h
  obtain ⟨a, b, rfl, rfl, q⟩ := h
  obtain ⟨t, rfl⟩ := rx
  obtain ⟨u, rfl, tu, rfl⟩ := vals1 rv
  exact SC.find ⟨.int _, H, I.tok _, ⟨_, rfl⟩, q⟩
def rSplit : V → List V → Hp → VK → Prop := fun x xs H Q => ∃ a b, x = .str a ∧ xs = [.str b] ∧ (b.length == 0) = false ∧ a.length ≤ sizeLine ∧ (partsBetween a (occurrences a b 0 a.length (a.length + 1)) b.length).length ≤ sizeLine ∧ ∀ D, H D = none → Q (.ref D) (upd H D (.lst ((Txt.split a b).map V.str)))
theorem vals_strs : ∀ (l : List (Str × Tok)), Vals ((l.map (·.1)).map V.str) (strValues l)
  | [] => .nil
  | p :: l => .cons ⟨p.2, rfl⟩ (vals_strs l)
theorem laid_strs {pins : List (Addr × Obj)} {s : Shared} {σ : St} {H : Hp} {Q : VK} {k : Nat} (I : Inv X pins σ H s) (l : List (Str × Tok)) (hl : l.length ≤ sizeLine) (q : ∀ D, H D = none → Q (.ref D) (upd H D (.lst ((l.map (·.1)).map V.str)))) :
    EP X pins σ Q (.ref s.heap.objs.size) { s with toks := k, heap := s.heap.push { cls := .type "list", data := .seq (strValues l).toArray } } := by
  refine ⟨.ref s.heap.objs.size, _, I.laid (t' := k) (o := .lst ((l.map (·.1)).map V.str)) (fun b ob q => Heap.get?_push_of_some _ q) (Nat.le_refl _) ?_, rfl, q _ (I.hok.fresh (Nat.le_refl _))⟩
  exact ⟨by rw [List.length_map, List.length_map]; exact hl, strValues l, 0, vals_strs l, Heap.get?_push_size _ rfl⟩
theorem mt_split : MtR X "str.split" rSplit := by
  intro pins s σ H x vs v us Q I rx rv h
  obtain ⟨a, b, rfl, rfl, hb, hsz, hsz2, q⟩ := h
  obtain ⟨t, rfl⟩ := rx
  obtain ⟨u, rfl, tu, rfl⟩ := vals1 rv
  cases h1 : (decide (a.length < b.length) || decide (strKind a < strKind b)) with
  | false =>
    cases hf : (occurrences a b 0 a.length (a.length + 1)).isEmpty with
    | false =>
      refine call_meets F.slot_str_split (typeIs_str _ _ _) F.entry_str_split (F.args_str_split_2 _ _) (meets_str_split_sep a b t tu h1 hb hf hsz hsz2) ?_
      show wants _ _ _ { s with toks := _, heap := s.heap.push { cls := .type "list", data := .seq (strsFrom s.toks (partsBetween a (occurrences a b 0 a.length (a.length + 1)) b.length)).toArray } }
      rw [strsFrom_eq]
      have e : (numbered s.toks (partsBetween a (occurrences a b 0 a.length (a.length + 1)) b.length)).map (·.1) = Txt.split a b := (numbered_texts _ _).trans ((if_neg (ne_true_of_eq_false h1)).trans (if_neg (ne_true_of_eq_false hf))).symm
      refine laid_strs I _ ?_ (by rw [e]; exact q)
      have := congrArg List.length (numbered_texts s.toks (partsBetween a (occurrences a b 0 a.length (a.length + 1)) b.length))
      rw [List.length_map] at this
      rw [this]
      exact hsz2
    | true =>
      have e : ([(a, t)] : List (Str × Tok)).map (·.1) = Txt.split a b := ((if_neg (ne_true_of_eq_false h1)).trans (if_pos hf)).symm
      exact call_meets F.slot_str_split (typeIs_str _ _ _) F.entry_str_split (F.args_str_split_2 _ _) (meets_str_split_not_found a b t tu h1 hb hf) (laid_strs (k := s.toks) I [(a, t)] (show 1 ≤ sizeLine by decide) (by rw [e]; exact q))
  | true =>
    have e : ([(a, t)] : List (Str × Tok)).map (·.1) = Txt.split a b := (if_pos h1).symm
    exact call_meets F.slot_str_split (typeIs_str _ _ _) F.entry_str_split (F.args_str_split_2 _ _) (meets_str_split_cannot_occur a b t tu h1) (laid_strs (k := s.toks) I [(a, t)] (show 1 ≤ sizeLine by decide) (by rw [e]; exact q))
/-- all of a list of bools -/
theorem call_all (hc : X.calm = true) : CallR X (.builtin "all") (fun xs H Q => ∃ (a : Addr) (bs : List Bool), xs = [V.ref a] ∧ SqL X.K H a (bs.map V.bl) ∧ Q (.bl (bs.all id)) H) := by
  intro pins s σ H xs us Q I r h
  obtain ⟨a, bs, rfl, hq, q⟩ := h
  obtain ⟨u, rfl, ru⟩ := vals1 r
  cases ru
  obtain ⟨its, rv, pl, hz⟩ := I.list hq
  have hlen := rv.length
  rw [List.length_map] at hlen
  have ha : a < s.heap.objs.size := by
    obtain ⟨o, n, e, _⟩ := pl
    exact Heap.lt_size e
  have hat : ∀ (i : Nat) (v : Value), its.toArray[i]? = some v → v = .bool (bs.getD i false) := fun i v e => by
    have e : its[i]? = some v := by simpa using e
    have hi : i < its.length := (List.getElem?_eq_some_iff.mp e).1
    have hb : (bs.map V.bl)[i]? = some (.bl (bs.getD i false)) := by
      rw [List.getElem?_map, List.getD_eq_getElem?_getD, List.getElem?_eq_getElem (by omega)]; rfl
    obtain ⟨w, e2, rw2⟩ := rv.get hb
    rw [e] at e2
    cases e2
    exact rw2
  refine call_all_walk (wpAny_pyIter_list pl.isList ⟨s.heap.objs.size, _, _, _, _, _, fun i => bs.getD i false, rfl, Walks.list (prog := X.prog) (w := X.w) (A := X.A.in1) (I.ok.hd hc) s.heap.objs.size a (Nat.ne_of_lt ha) its.toArray, ⟨⟨_, Heap.get?_push_size _ rfl, rfl, rfl⟩, ?_⟩, ?_, ?_⟩)
  · obtain ⟨o, ho, hcl, n, hd⟩ := pl.isList
    exact ⟨o, Heap.get?_push_of_some _ ho, hcl, n, hd⟩
  · intro i v s' Q' E' hP hQ
    rw [hat i v hP]
    exact wpAny_truthy_bool hQ
  · intro h' tk kp
    refine ⟨.bl _, H, I.kept fun b o e => kp b o (fun z => ?_) (Heap.get?_push_of_some _ e), rfl, ?_⟩
    · have z' : b = s.heap.objs.size := by simpa using z
      exact absurd (Heap.lt_size e) (by rw [z']; exact Nat.lt_irrefl _)
    · have e : (List.range its.toArray.size).all (fun i => bs.getD i false) = bs.all id := by
        rw [List.size_toArray, ← hlen]
        have := PyProof.Rows.range_getD bs false
        conv => rhs; rw [← this]
        rw [List.all_map]
        rfl
      rw [e]
      exact q
end
end L2

end

section
set_option maxHeartbeats 2000000
/-! texts that are put together; lists of bools counted; an error that is caught by its name -/
namespace L2
open PySem PySem.Spec PyProof.Rows PySem.W PySem.Builtin PySem.Builtin.ObjectAttr PySem.Builtin.Getset_descriptor
section
variable {X : Cx} {pins : List (Addr × Obj)} {σ : St} {H : Hp} {s : Shared}
/-- {v} in an f-text -/
def tFmt (t : TE) : TE := fun σ H Q => t σ H fun x H1 => (∃ z, x = .str z ∧ z.length ≤ sizeLine ∧ Q (.str z) H1) ∨ ∃ i, x = .int i ∧ i.natAbs.log2 < 1920 ∧ Q (.str (toString i)) H1
theorem pe_fmt {v : PySem.Expr} {pos : Pos} {t : TE} (hv : PE X v t) : PE X (.FormattedValue v (-1) none pos) (tFmt t) := by
  intro pins s σ H Q I h
  refine FormattedValue_plain (thn (hv pins s σ H _ I h) fun u s1 ⟨x, H1, I1, r1, q1⟩ => ?_)
  rcases q1 with ⟨z, rfl, hz, q⟩ | ⟨i, rfl, hi, q⟩
  · obtain ⟨t, rfl⟩ := r1
    exact formatField_str (fun t' tk => ⟨.str z, H1, I1.tok _, ⟨_, rfl⟩, q⟩) hz
  · obtain ⟨t, rfl⟩ := r1
    exact formatField_int_small hi ⟨.str _, H1, I1.tok _, ⟨_, rfl⟩, q⟩
def tJoin : List TE → Str → TE
  | [], acc => fun _ H Q => Q (.str acc) H
  | t :: r, acc => fun σ H Q => t σ H fun x H1 => ∃ y, x = .str y ∧ (acc ++ y).length ≤ sizeLine ∧ tJoin r (acc ++ y) σ H1 Q
inductive PEs (X : Cx) : List PySem.Expr → List TE → Prop
  | nil : PEs X [] []
  | cons {e : PySem.Expr} {es : List PySem.Expr} {t : TE} {ts : List TE} : PE X e t → PEs X es ts → PEs X (e :: es) (t :: ts)
theorem join_all {es : List PySem.Expr} {ts : List TE} (h : PEs X es ts) : ∀ (acc : Str) (pins : List (Addr × Obj)) (s : Shared) (σ : St) (H : Hp) (Q : VK), acc.length ≤ sizeLine → Inv X pins σ H s → tJoin ts acc σ H Q →
    wpAny (model X.prog X.w) X.A (joinParts acc (evalEach es X.env)) (EP X pins σ Q) X.xe s := by
  induction h with
  | nil => exact fun acc pins s σ H Q hl I q => joinParts_nil ⟨.str acc, H, I.tok _, ⟨_, rfl⟩, q⟩ hl
  | cons he _ ih =>
    intro acc pins s σ H Q hl I q
    refine joinParts_cons (thn (he pins s σ H _ I q) fun u s1 ⟨x, H1, I1, r1, y, ex, hz, q1⟩ => ?_)
    subst ex
    obtain ⟨t, rfl⟩ := r1
    exact ⟨hz, ih _ pins s1 σ H1 Q hz I1 q1⟩
theorem pe_join {e1 e2 : PySem.Expr} {es : List PySem.Expr} {ts : List TE} {pos : Pos} (h : PEs X (e1 :: e2 :: es) ts) : PE X (.JoinedStr (e1 :: e2 :: es) pos) (tJoin ts Str.empty) := fun pins s σ H Q I q =>
  JoinedStr_many (join_all h Str.empty pins s σ H Q (by decide) I q)
/-- how often a bool stands in a list of bools -/
theorem reads_bls {h : Heap} : ∀ {bs : List Bool} {us : List Value}, Vals (bs.map V.bl) us → ReadsAll h us (bs.map PyData.bool) []
  | [], _, .nil => .nil
  | b :: bs, _, .cons r t => by
    cases r
    exact .cons (as := []) (bs := []) (.bool b) (reads_bls t)
def rCount (K : Frag) : V → List V → Hp → VK → Prop := fun x xs H Q => ∃ (a : Addr) (bs : List Bool) (k : Bool), x = .ref a ∧ xs = [.bl k] ∧ SqL K H a (bs.map V.bl) ∧ Q (.int (Spec.countIn (.bool k) (bs.map .bool))) H
theorem mt_count : MtR X "list.count" (rCount X.K) := by
  intro pins s σ H x vs v us Q I rx rv h
  obtain ⟨a, bs, k, rfl, rfl, hq, q⟩ := h
  cases rx
  obtain ⟨u, rfl, ru⟩ := vals1 rv
  cases ru
  obtain ⟨its, rb, pl, hz⟩ := I.list hq
  exact count_list_bools (xs := bs.map .bool) pl.isList (reads_bls (h := s.heap) rb) (by rw [List.all_map]; simp [Shape.has]) ⟨.int _, H, I.tok _, ⟨_, rfl⟩, q⟩
/-! ### an error by its name -/
/-- x is an error of the class at D -/
def ExAt (x D : Addr) (h : Heap) : Prop := ∃ ox, h.get? x = some ox ∧ ox.cls = .ref D
theorem ExAt.ty {x D : Addr} {M : Model} {h : Heap} (e : ExAt x D h) : Looks M h (typeOf (.ref x)) (.ref D) := by
  obtain ⟨ox, e1, e2⟩ := e
  exact e2 ▸ (Looks.ld e1).andThen .now
/-- the facts of the class -/
structure ExCls (K : Frag) (D : Addr) : Prop where
  ga : findIn K (.ref D) "__getattribute__" = some (some (.builtin "BaseException.__getattribute__"))
  gh : findIn K (.ref D) "__getattr__" = some none
  mb : mroIn K D (.type "BaseException") = some true
  c : (clsIn K D).isSome = true
  a : findIn K (.ref D) "__class__" = some (some (.builtin "object.__class__"))
  n : specialIn K (.builtin "object.__class__") "__get__" = some (some (.builtin "getset_descriptor.__get__"))
  t : takesIn K (.builtin "object.__class__") = some true
  m : mroIn K D (.type "object") = some true
theorem ExCls.look {K : Frag} {D x : Addr} {M : Model} {h : Heap} (E : ExCls K D) (X : K.In h) : Looks M h (find (.ref x) (.ref D) "__class__") (.bind (.builtin "getset_descriptor.__get__") (.builtin "object.__class__")) :=
  (looks_findIn X E.a).andThen ((looks_specialIn X E.n).andThen ((show Looks M h (dataDescriptor? (some (.builtin "object.__class__")) (some (.builtin "getset_descriptor.__get__"))) (some (.builtin "getset_descriptor.__get__", .builtin "object.__class__")) from (looks_takesIn X E.t).andThen .now).andThen (Looks.tag .now)))
theorem ExCls.gives {K : Frag} {D x : Addr} {prog : Program} {w : World} {A : Around} {R : Result → Shared → Prop} {s : Shared} {tp : Value} (E : ExCls K D) (X : K.In s.heap) (e : ExAt x D s.heap) (q : R (.ok (.ret (.ref D))) s) :
    codeAny (model prog w) A (.call (.builtin "getset_descriptor.__get__") ⟨[.builtin "object.__class__", .ref x, tp], []⟩) R s := by
  obtain ⟨h0, g0, d0, t0, o0⟩ := s
  have L0 := e.ty (M := model prog w)
  have L1 := looks_mroIn (M := model prog w) X E.m
  refine codeAny_call_builtin KF.slot_gs.plain KF.entry_gs (KF.slot_gs.check _ _ _ _ _ _ _ _ KF.type_class (KF.args_gs _ _ _) ?_)
  unfold Builtin.«getset_descriptor.__get__» descrGet
  rw [dga_obj]
  refine wpAny_bind (wpAny_pure ?_)
  unfold descrGetter descrCheckInstance descrNameAndClass isInstance
  simp only [KF.owner_class]
  repeat lk
  refine ⟨Code.quiet_builtin _ (by decide +kernel), codeAny_builtin KF.entry_class ?_⟩
  unfold Builtin.«object.__class__» shownTypeOf
  repeat lk
  exact q
theorem bga_bind (self : Value) : bindSpecial (.builtin "BaseException.__getattribute__") self = pure (.builtin "BaseException.__getattribute__", [self]) := F.excAttr_ValueError.ga.bind self
theorem ExCls.call {K : Frag} {D x : Addr} {prog : Program} {w : World} {A : Around} {R : Result → Shared → Prop} {s : Shared} {tk : Tok} (E : ExCls K D) (X : K.In s.heap) (e : ExAt x D s.heap) (q : R (.ok (.ret (.ref D))) s) :
    codeAny (model prog w) A (.call (.builtin "BaseException.__getattribute__") ⟨[.ref x, .str "__class__" tk], []⟩) R s := by
  obtain ⟨h0, g0, d0, t0, o0⟩ := s
  have L0 := e.ty (M := model prog w)
  have L1 := looks_mroIn (M := model prog w) X E.mb
  have T2 := E.look (x := x) (M := model prog w) X
  refine codeAny_call_builtin F.excAttr_ValueError.ga.plain F.entry_bexc_ga ?_
  have hk : builtinKind "BaseException.__getattribute__" = some .slot := by decide +kernel
  have hsplit : splitId "BaseException.__getattribute__" = some ("BaseException", "__getattribute__") := by decide +kernel
  have ha := F.args_bexc_ga (.ref x) (.str "__class__" tk)
  simp only [checkBuiltinCall, hk, hsplit]
  unfold isInstance
  refine wpAny_bind (wpAny_bind (L0.at (L1.at ?_)))
  simp only [Bool.not_true, Bool.false_eq_true, if_false]
  have body : wpAny (model prog w) A.in1 («object.__getattribute__» ⟨[.ref x, .str "__class__" tk], []⟩) (fun fin s' => match fin with | .done f => R (.ok f) s' | .again c' => c'.quiet = true ∧ codeAny (model prog w) A c' R s') (fun e s' => R (.error e) s') ⟨h0, g0, d0, t0, o0⟩ := by
    unfold Builtin.«object.__getattribute__»
    refine wpAny_bind ?_
    show wpAny _ _ (pure (Value.ref x, [Value.str "__class__" tk])) _ _ _
    refine wpAny_pure (wpAny_bind ?_)
    show wpAny _ _ (pure ("__class__" : Str)) _ _ _
    refine wpAny_pure (wpAny_bind (L0.at (wpAny_bind (T2.at ?_))))
    show wpAny _ _ (holding [.builtin "object.__class__"] (PySem.call (.builtin "getset_descriptor.__get__") [.builtin "object.__class__", .ref x, .ref D]) >>= ret) _ _ _
    refine wpAny_bind (wpAny_holding (wpAny_call (E.gives (s := ⟨h0, g0, d0, t0, o0⟩) X e ?_)))
    exact wpAny_pure q
  unfold argsOk at ha
  cases hs : Manifest.signature? "BaseException.__getattribute__" with
  | none => exact wpAny_pure body
  | some sig =>
    rw [hs] at ha
    dsimp only at ha ⊢
    rw [ha]
    exact wpAny_pure body
theorem ExCls.attr {K : Frag} {D x : Addr} {prog : Program} {w : World} {A : Around} {E' : Value → Shared → Prop} {Q : Option Value → Shared → Prop} {s : Shared} (E : ExCls K D) (X : K.In s.heap) (e : ExAt x D s.heap) (q : Q (some (.ref D)) { s with toks := s.toks + 1 }) :
    wpAny (model prog w) A (getAttr? (.ref x) "__class__") Q E' s := by
  obtain ⟨h0, g0, d0, t0, o0⟩ := s
  have T0 := e.ty (M := model prog w)
  have T1 := looks_findIn (M := model prog w) X E.ga
  have T3 := looks_findIn (M := model prog w) X E.gh
  have hx2 : ((Value.builtin "BaseException.__getattribute__" == Value.builtin "object.__getattribute__") : Bool) = false := by decide +kernel
  unfold getAttr? getAttrBy? getAttrBy
  refine wpAny_bind (wpAny_mkText (wpAny_bind (wpAny_attempt (wpAny_holding (wpAny_bind (T0.at (wpAny_bind (T1.at ?_))))))))
  dsimp only
  rw [hx2, Bool.and_false, if_neg (by decide)]
  unfold getAttrByItsOwn
  refine wpAny_bind ?_
  show wpAny _ _ (typeLookup (.ref D) "__getattr__") _ _ _
  refine T3.at (wpAny_bind (wpAny_attempt (wpAny_holding ?_)))
  show wpAny _ _ (boundAndCalled _ _ _) _ _ _
  unfold boundAndCalled
  rw [bga_bind]
  refine wpAny_bind (wpAny_pure (wpAny_call (E.call (s := ⟨h0, g0, d0, t0 + 1, o0⟩) X e ?_)))
  exact wpAny_pure (wpAny_pure q)
theorem ExCls.kit {K : Frag} {D x : Addr} (E : ExCls K D) : KitX K (.ref x) (.ref D) (ExAt x D) where
  ty := fun _ _ _ e => e.ty
  it := fun M h X _ => by
    have hc := E.c
    unfold clsIn at hc
    split at hc
    · rename_i c' d' cd' sl' ho
      intro A' Q' E' s' k q
      unfold isType loadHead
      exact wpAny_bind (wpAny_loadPart (k _ _ (X _ _ ho)) (wpAny_pure q))
    · cases hc
  ne := fun h tp dd its n sl X htp => by
    refine Bool.eq_false_iff.mpr fun q => ?_
    have e : D = tp := Value.ref.inj (beq_iff_eq.mp q)
    subst e
    have hc := E.c
    unfold clsIn at hc
    split at hc
    · rename_i c' d' cd' sl' ho
      have z := (X _ _ ho).symm.trans htp
      cases z
    · cases hc
  ca := fun X e k => E.attr X e k
end
end L2

end

section
set_option maxHeartbeats 2000000
/-! except NAME as x: suite, where the suite comes back -/
namespace L2
open PySem PySem.Spec PyProof.Rows PySem.W
section
variable {X : Cx} {pins : List (Addr × Obj)} {σ : St} {H : Hp} {s : Shared}
abbrev markA (X : Cx) (pins : List (Addr × Obj)) (x : Addr) (oe : Obj) (E : Value → Shared → Prop) : Cx := { X with A := X.A.mark (some (.ref x)), calm := false, xe := E, pn := X.pn ++ pins ++ [(x, oe)] }
theorem Inv.markA {x : Addr} {oe : Obj} (I : Inv X pins σ H s) (hx : s.heap.get? x = some oe ∧ H x = none ∧ x ≠ X.env.locals ∧ x ∉ X.fs ∧ ∀ v, oe.data ≠ .cell v) (E : Value → Shared → Prop) : Inv (L2.markA X pins x oe E) [] σ H s :=
  let ok := I.ok
  ⟨⟨ok.mod, ok.kind, ok.glob, ok.blt, ok.above, ok.inj, ok.has, ok.cab, fun z => (nomatch z), ok.frames, ok.stk, ok.exf, ok.bs, ok.bsz, ok.noex, ok.exfs, ok.funs, ok.frf⟩, I.os, I.bare, I.base, I.loc, I.cell, I.free, I.freeC, fun p hp => by
    rw [List.append_nil] at hp
    rcases List.mem_append.mp hp with z | z
    · exact I.pin p z
    · have e : p = (x, oe) := by simpa using z
      subst e
      exact hx, I.hok, I.len⟩
theorem Inv.unmarkA {x : Addr} {oe : Obj} {E : Value → Shared → Prop} (I : Inv (L2.markA X pins x oe E) [] σ H s) (ok : X.Ok) : Inv X pins σ H s := ⟨ok, I.os, I.bare, I.base, I.loc, I.cell, I.free, I.freeC, fun p hp => I.pin p (by rw [List.append_nil]; exact List.mem_append_left _ hp), I.hok, I.len⟩
/-- the names are let go: nothing is known of them -/
theorem Inv.lost {h' : Heap} {m' : Str → Option Value} {k : Nat} (I : Inv X pins σ H s) (hn : h'.Ns X.env.locals m') (hs : Heap.SameBut X.env.locals s.heap h') : Inv X pins (List.replicate X.N.length none) H { s with heap := h', toks := k } := by
  have lt : ∀ b o, X.s₀.heap.get? b = some o → b ≠ X.env.locals := fun b o e => Nat.ne_of_lt (Nat.lt_of_lt_of_le (Heap.lt_size e) I.ok.above)
  refine ⟨I.ok, I.os, I.bare, ⟨fun b o e n hb hx => (hs.2 b (lt b o e)).trans (I.base.keep b o e n hb hx), fun b o e n hb hx => ?_, I.base.free, fun b o e hx => ?_, I.base.tups, I.base.frzs, I.base.tbls⟩, ⟨_, hn, fun j y v' e1 e2 e3 => ?_⟩, fun y c e => ?_, I.free, I.freeC, fun p hp => ?_, ?_, by simp⟩
  · obtain ⟨sl, e1⟩ := I.base.slot b o e n hb hx
    exact ⟨sl, (hs.2 b (lt b o e)).trans e1⟩
  · obtain ⟨o', e1⟩ := I.base.there b o e hx
    exact ⟨o', (hs.2 b (lt b o e)).trans e1⟩
  · rw [List.getElem?_replicate] at e2
    split at e2
    · cases e2
    · cases e2
  · obtain ⟨w', z⟩ := I.cell y c e
    exact ⟨w', z.sameBut hs (I.cne y c e)⟩
  · obtain ⟨e, n, ne, nf, d⟩ := I.pin p hp
    exact ⟨(hs.2 p.1 ne).trans e, n, ne, nf, d⟩
  · exact I.hok.same fun b u v e r => (hs.2 b (fun z => by rw [z, I.free] at e; cases e)).trans r
def onlyRt (D : Ends) : Ends := ⟨fun _ _ => False, D.rt, fun _ _ => False, fun _ _ => False⟩
def tAs (i : Nat) (t : Addr → TS) : TS := fun D σ H => ∀ x, H x = none → t x (onlyRt D) (σ.set i (some (.ref x))) H
theorem ph_as {n nm : Str} {c : Value} {C : Addr} {np pos : Pos} {b0 : Stmt} {suite : List Stmt} {rest : List ExceptHandler} {t : Addr → TS} {i : Nat} (hg : Gl X n) (hm : X.mg n = some c) (hx : exmOne X.K (.ref C) c = some true) (hN : X.N.Nodup) (hi : X.N[i]? = some nm) (hl : X.env.scope.names.lookup nm = some .local) (hk : X.env.kindOf nm = some .local)
    (hs : ∀ pins x oe E, oe.cls = .ref C → PSs (markA X pins x oe E) (b0 :: suite) (t x)) (hdb : (n == ("__debug__" : Str)) = false := by decide) :
    PH X (.ExceptHandler (some (.Name n np)) (some nm) (b0 :: suite) pos :: rest) (.ref C) (tAs i t) := by
  intro pins s σ H D x hc I fl O q
  refine wpAny_handleBy_cons (codeAny_handlers_test ?_) (by intro z; cases z)
  refine ld_glob (I.mark x X.xe) hg hm ?_ hdb
  refine PySem.W.exm_one I.kIn fl.ty hx _ _ _ _ (fun _ _ e => e) ?_
  refine codeAny_handlers_suite_as ?_
  obtain ⟨Bx, a0, f1, f2⟩ := fly_step I.hok I.stack I.stkFree fl O.here
  refine lands_againW f1 fun h6 fl6 up6 => ?_
  obtain ⟨g1, g2, g3⟩ := f2 _ h6 fl6 up6
  have I6 := I.flown O g3 g2
  obtain ⟨oe, vs, a1, T, oT, ts, e1, e2, e3, e4, e5, e6, e7, e8, ⟨e9, e10⟩, e11, e12⟩ := id g1
  have xl : x ≠ X.env.locals := fun z => by
    obtain ⟨m, hn, _⟩ := I6.loc
    obtain ⟨oL, es, ep, hoL, hd, _⟩ := hn
    rw [← z] at hoL
    have hoL : h6.get? x = some oL := hoL
    rw [e1] at hoL
    cases hoL
    rw [e3] at hd
    cases hd
  have xf : x ∉ X.fs := fun z => by
    obtain ⟨_, o, eo, _⟩ := I.ok.funs.mem z
    obtain ⟨o', eo'⟩ := O.s0 x o eo fun w => I.ok.exfs x w z
    rw [e9] at eo'; cases eo'
  have dc : ∀ v, oe.data ≠ .cell v := fun v z => by rw [e3] at z; cases z
  refine store_ok2 I6 hN hi (Or.inl hl) (v := .ref x) rfl (fun s7 I7 ⟨a, sb, ha⟩ => ?_) (Or.inr hl)
  have e7x : s7.heap.get? x = some oe := (sb.2 x (fun z => by
    rcases ha with w | w
    · exact xl (z.trans w)
    · obtain ⟨v, oc, hoc, hcd⟩ := I6.cell nm a w
      rw [← z] at hoc
      have hoc : h6.get? x = some oc := hoc
      rw [e1] at hoc
      cases hoc
      exact dc v hcd)).trans e1
  refine thn (hs pins x oe _ e2.1 [] s7 _ H (onlyRt D) (I7.markA ⟨e7x, e10, xl, xf, dc⟩ _) (q x e10)) fun f s8 hq => ?_
  cases f with
  | next => obtain ⟨_, _, _, z⟩ := hq; exact z.elim
  | brk => obtain ⟨_, _, _, z⟩ := hq; exact z.elim
  | cont => obtain ⟨_, _, _, z⟩ := hq; exact z.elim
  | ret u =>
    obtain ⟨v, σ', H', I8, r8, q8⟩ := hq
    have I9 := I8.unmarkA I.ok
    obtain ⟨m, hn, _⟩ := id I9.loc
    refine wpAny_nameGoes hk hn (by rw [I.ok.kind]; rfl) fun h' m' hn' sb' => ?_
    exact ⟨v, _, H', I9.lost hn' sb', r8, q8⟩
/-- nothing flies out of the call -/
theorem passN : Passes (CX1 X.prog X.w) X (fun _ _ _ => False) := fun pins σ H1 s1 e s' I hx => by
  obtain ⟨x, C, H', rfl, os, bare, un, hok, fl, q⟩ := hx
  exact q.elim
theorem cmul_10 (x : Int) : CMul x 10 := Or.inr (by decide)
/-- isinstance(e, C), isinstance(e, ValueError) of the error that is held -/
theorem call_isx {x D : Addr} {oe : Obj} (hp : (x, oe) ∈ X.pn) (hc : oe.cls = .ref D) (E : ExCls X.K D) : CallR X (.builtin "isinstance") (fun xs H Q => (∃ C b, xs = [V.ref x, V.ref C] ∧ kitOne X.K (.ref D) (.ref C) = some b ∧ Q (.bl b) H) ∨ ∃ n b, xs = [V.ref x, V.ty n] ∧ kitOne X.K (.ref D) (.type n) = some b ∧ Q (.bl b) H) := by
  intro pins s σ H xs us Q I r h
  have ex : ExAt x D s.heap := ⟨oe, (I.pin (x, oe) (List.mem_append_left _ hp)).1, hc⟩
  rcases h with ⟨C, b, rfl, hk, q⟩ | ⟨n, b, rfl, hk, q⟩
  · obtain ⟨u, w', rfl, ru, rw'⟩ := vals2 r
    cases ru
    cases rw'
    exact kia_one (E.kit (x := x)) I.kIn ex hk (fun z => nomatch z) fun tk => ⟨.bl _, H, I.tok tk, rfl, q⟩
  · obtain ⟨u, w', rfl, ru, rw'⟩ := vals2 r
    cases ru
    cases rw'
    exact kia_one (E.kit (x := x)) I.kIn ex hk (fun z => nomatch z) fun tk => ⟨.bl _, H, I.tok tk, rfl, q⟩
end
end L2

end

section
set_option maxHeartbeats 2000000
/-! k12: numbers in figures, lines, what is read of them: over lists of signs -/
namespace Fb
open PySem
/-! figures -/
def dg (n : Nat) : List Nat := (Nat.toDigits 10 n).map Char.toNat
theorem dg_mem {n c : Nat} (h : c ∈ dg n) : 48 ≤ c ∧ c ≤ 57 := by
  obtain ⟨d, h1, rfl⟩ := List.mem_map.mp h
  have := Nat.isDigit_of_mem_toDigits (b := 10) (by decide) (by decide) h1
  simp only [Char.isDigit, Bool.and_eq_true, decide_eq_true_eq] at this
  exact ⟨this.1, this.2⟩
theorem dg_ne {n : Nat} : dg n ≠ [] := fun h => Nat.toDigits_ne_nil (List.map_eq_nil_iff.mp h)
def sz (l : List Nat) : Nat := l.foldl (fun s c => s * 10 + (c - 48)) 0
theorem sz_dg (n : Nat) : sz (dg n) = n := by
  have h := Nat.ofDigitChars_ten_toDigits (n := n)
  rw [Nat.ofDigitChars_eq_foldl] at h
  unfold sz dg
  rw [List.foldl_map]
  refine Eq.trans ?_ h
  congr 1
  funext s c
  rw [Nat.mul_comm]
  rfl
theorem dg_small {n : Nat} (h : n < 10) : dg n = [48 + n] := by
  unfold dg
  rw [Nat.toDigits_of_lt_base h]
  have : ∀ m : Fin 10, [m.val.digitChar].map Char.toNat = [48 + m.val] := by decide
  exact this ⟨n, h⟩
theorem dg_big {n : Nat} (h : 10 ≤ n) : dg n = dg (n / 10) ++ dg (n % 10) := by
  unfold dg
  have e := Nat.toDigits_of_base_le (b := 10) (by decide) h
  rw [e, List.map_append]
  congr 1
  have h2 : n % 10 < 10 := Nat.mod_lt _ (by decide)
  rw [Nat.toDigits_of_lt_base h2]
theorem dg_head : ∀ (n : Nat), (dg n).head? = some 48 → n = 0 := by
  intro n
  induction n using Nat.strongRecOn with
  | ind n ih =>
    intro h
    by_cases hs : n < 10
    · rw [dg_small hs] at h
      simp at h
      omega
    · rw [dg_big (by omega)] at h
      have e : (dg (n / 10)).head? = some 48 := by
        cases hd : dg (n / 10) with
        | nil => exact absurd hd dg_ne
        | cons a r => rw [hd] at h; exact h
      have := ih (n / 10) (by omega) e
      omega
theorem dg_len {n k : Nat} (hk : 0 < k) (h : n < 10 ^ k) : (dg n).length ≤ k := by
  unfold dg
  rw [List.length_map]
  exact (Nat.length_toDigits_le_iff (by decide) hk).mpr h
/-- a whole number, written -/
def tx (i : Int) : List Nat := if i < 0 then 45 :: dg i.natAbs else dg i.natAbs
theorem ofString_cps (s : String) : (Str.ofString s).cps = (s.toList.map Char.toNat).toArray := by
  show (cpsOfBytes 0 0 s.toByteArray.data.toList).toArray = _
  rw [cpsOfBytes_string]
theorem tx_str (i : Int) : Str.ofString (toString i) = ⟨(tx i).toArray⟩ := by
  have e : ∀ (a b : Str), a.cps = b.cps → a = b := fun a b h => by cases a; cases b; cases h; rfl
  apply e
  rw [ofString_cps]
  congr 1
  unfold tx
  cases i with
  | ofNat n =>
    rw [if_neg (show ¬ (Int.ofNat n < 0) from Int.not_lt.mpr (Int.natCast_nonneg n))]
    show ((toString n).toList).map Char.toNat = _
    rw [Nat.toString_eq_ofList_toDigits, String.toList_ofList]
    rfl
  | negSucc n =>
    rw [if_pos (by omega)]
    show (("-" ++ toString (n + 1)).toList).map Char.toNat = _
    rw [Nat.toString_eq_ofList_toDigits, String.toList_append, String.toList_ofList (l := Nat.toDigits 10 (n + 1)), List.map_append]
    rfl
theorem tx_mem {i : Int} {c : Nat} (h : c ∈ tx i) : c = 45 ∨ 48 ≤ c ∧ c ≤ 57 := by
  unfold tx at h
  split at h
  · rcases List.mem_cons.mp h with e | e
    · exact Or.inl e
    · exact Or.inr (dg_mem e)
  · exact Or.inr (dg_mem h)
/-- what number a text is -/
def figs (l : List Nat) : Bool := !l.isEmpty && l.all fun c => decide (48 ≤ c ∧ c ≤ 57)
def under (l : List Nat) : Bool := l.head? == some 45
def figsOf (l : List Nat) : List Nat := if under l then l.drop 1 else l
def numOf (l : List Nat) : Option Int :=
  if figs (figsOf l) then if (figsOf l).head? == some 48 && l != [48] then none else some (if under l then -(sz (figsOf l) : Int) else sz (figsOf l)) else none
theorem figs_dg (n : Nat) : figs (dg n) = true := by
  unfold figs
  rw [Bool.and_eq_true]
  refine ⟨?_, List.all_eq_true.mpr fun c h => decide_eq_true (dg_mem h)⟩
  cases h : dg n with
  | nil => exact absurd h dg_ne
  | cons _ _ => rfl
theorem under_dg (n : Nat) : under (dg n) = false := by
  unfold under
  cases h : dg n with
  | nil => rfl
  | cons a r =>
    have := dg_mem (n := n) (c := a) (by rw [h]; exact List.mem_cons_self)
    simp
    omega
theorem num_tx (i : Int) : numOf (tx i) = some i := by
  unfold tx
  by_cases h : i < 0
  · rw [if_pos h]
    have u : under (45 :: dg i.natAbs) = true := rfl
    have f : figsOf (45 :: dg i.natAbs) = dg i.natAbs := rfl
    unfold numOf
    rw [f, figs_dg, u, if_pos rfl, if_neg, sz_dg, if_pos rfl]
    · congr 1; omega
    · intro z
      rw [Bool.and_eq_true, beq_iff_eq] at z
      have := dg_head _ z.1
      omega
  · rw [if_neg h]
    have u := under_dg i.natAbs
    have f : figsOf (dg i.natAbs) = dg i.natAbs := by unfold figsOf; rw [u]; rfl
    unfold numOf
    rw [f, figs_dg, u, if_pos rfl, if_neg, sz_dg, if_neg (by decide)]
    · congr 1; omega
    · intro z
      rw [Bool.and_eq_true, beq_iff_eq] at z
      have z0 := dg_head _ z.1
      have z2 := z.2
      rw [z0] at z2
      rw [show dg 0 = [48] from dg_small (by decide)] at z2
      exact absurd z2 (by decide)
/-! lists joined by a sign -/
def jl (c : Nat) : List (List Nat) → List Nat
  | [] => []
  | [a] => a
  | a :: b :: r => a ++ c :: jl c (b :: r)
theorem head_uniq {c : Nat} : ∀ {a a' : List Nat} {r r' : List Nat}, c ∉ a → c ∉ a' → a ++ c :: r = a' ++ c :: r' → a = a' ∧ r = r'
  | [], [], _, _, _, _, h => ⟨rfl, (List.cons.inj h).2⟩
  | [], y :: _, _, _, _, h', h => absurd (List.cons.inj h).1 (fun e => h' (by rw [e]; exact List.mem_cons_self))
  | x :: _, [], _, _, h0, _, h => absurd (List.cons.inj h).1 (fun e => h0 (by rw [← e]; exact List.mem_cons_self))
  | x :: a, y :: a', r, r', h0, h', h => by
    obtain ⟨e, t⟩ := List.cons.inj h
    obtain ⟨e1, e2⟩ := head_uniq (fun z => h0 (List.mem_cons_of_mem _ z)) (fun z => h' (List.mem_cons_of_mem _ z)) t
    exact ⟨by rw [e, e1], e2⟩
theorem jl_uniq {c : Nat} : ∀ {ls ms : List (List Nat)}, ls.length = ms.length → (∀ l ∈ ls, c ∉ l) → (∀ l ∈ ms, c ∉ l) → jl c ls = jl c ms → ls = ms
  | [], [], _, _, _, _ => rfl
  | [a], [b], _, _, _, h => by rw [show a = b from h]
  | a :: b :: r, a' :: b' :: r', hl, h1, h2, h => by
    obtain ⟨e1, e2⟩ := head_uniq (h1 a List.mem_cons_self) (h2 a' List.mem_cons_self) h
    have := jl_uniq (ls := b :: r) (ms := b' :: r') (by simpa using hl) (fun l hl => h1 l (List.mem_cons_of_mem _ hl)) (fun l hl => h2 l (List.mem_cons_of_mem _ hl)) e2
    rw [e1, this]
/-! names -/
def lets (l : List Nat) : Bool := !l.isEmpty && l.all fun c => decide (97 ≤ c ∧ c ≤ 122)
def sfx : Nat → List Nat
  | 0 => []
  | 1 => [122, 121]
  | 2 => [121, 111, 97, 116, 115]
  | _ => (List.replicate 12 [122, 98, 99]).flatten
def nm (k j : Nat) : List Nat := List.replicate (1 + k / 26) (97 + k % 26) ++ sfx j
theorem nm_lets : ∀ k : Fin 63, ∀ j : Fin 4, lets (nm k j) = true := by decide +kernel
theorem nm_len : ∀ k : Fin 63, ∀ j : Fin 4, (nm k j).length ≤ 39 := by decide +kernel
theorem nm_hd (k j : Nat) : (nm k j).head? = some (97 + k % 26) := by
  unfold nm
  rw [Nat.add_comm 1, List.replicate_succ]
  rfl
theorem nm_ne0 : ∀ m : Fin 26, ∀ a b : Fin 3, ∀ j j' : Fin 4, nm (m + 26 * a) j = nm (m + 26 * b) j' → a = b := by decide +kernel
theorem nm_ne {k k' j j' : Nat} (hk : k < 63) (hk' : k' < 63) (hj : j < 4) (hj' : j' < 4) (h : nm k j = nm k' j') : k = k' := by
  have e := congrArg List.head? h
  rw [nm_hd, nm_hd] at e
  have e : k % 26 = k' % 26 := by have := Option.some.inj e; omega
  have := nm_ne0 ⟨k % 26, by omega⟩ ⟨k / 26, by omega⟩ ⟨k' / 26, by omega⟩ ⟨j, hj⟩ ⟨j', hj'⟩ (by
    show nm (k % 26 + 26 * (k / 26)) j = nm (k % 26 + 26 * (k' / 26)) j'
    rw [Nat.mod_add_div, e, Nat.mod_add_div]
    exact h)
  have := congrArg Fin.val this
  simp at this
  omega
end Fb

end

section
set_option maxHeartbeats 2000000
/-! k12: lines and what is read of them -/
namespace Fb
open PySem PyProof.Rows
def mkS (l : List Nat) : Str := ⟨l.toArray⟩
theorem mkS_list (l : List Nat) : (mkS l).cps.toList = l := rfl
theorem S_eq {a b : Str} (h : a.cps.toList = b.cps.toList) : a = b := by
  cases a; cases b
  congr 1
  exact Array.toList_inj.mp h
theorem mkS_of (z : Str) : mkS z.cps.toList = z := S_eq rfl
abbrev BL : Str := Str.ofString " "
theorem BL_is : BL = ⟨#[32]⟩ := by decide +kernel
theorem join_jl (c : Nat) : ∀ ls : List (List Nat), Str.join ⟨#[c]⟩ (ls.map mkS) = mkS (jl c ls)
  | [] => rfl
  | [a] => rfl
  | a :: b :: r => by
    show mkS a ++ ⟨#[c]⟩ ++ Str.join ⟨#[c]⟩ ((b :: r).map mkS) = _
    rw [join_jl c (b :: r)]
    apply S_eq
    rw [cps_toList_append, cps_toList_append]
    show a ++ [c] ++ jl c (b :: r) = _
    rw [List.append_assoc]
    rfl
theorem split_is {ls : List (List Nat)} (hn : ls ≠ []) (h : ∀ l ∈ ls, 32 ∉ l) : Txt.split (mkS (jl 32 ls)) BL = ls.map mkS := by
  rw [BL_is]
  have hj := StrLaws.join_split (mkS (jl 32 ls)) ⟨#[32]⟩
  have hf := StrLaws.split_free (mkS (jl 32 ls)) 32
  have hl := split_len (mkS (jl 32 ls)) 32
  generalize Txt.split (mkS (jl 32 ls)) ⟨#[32]⟩ = ps at hj hf hl
  have e : ps = (ps.map fun p => p.cps.toList).map mkS := by
    rw [List.map_map]
    conv => lhs; rw [← List.map_id ps]
    exact List.map_congr_left fun p _ => (mkS_of p).symm
  have hc := cnt_join ⟨#[32]⟩ 32 (by rw [cnt_cons, cnt_nil]; rfl) (ls.map mkS) (fun t ht => by
    obtain ⟨l, h1, rfl⟩ := List.mem_map.mp ht
    exact h l h1)
  rw [join_jl, List.length_map] at hc
  rw [hc] at hl
  rw [e, join_jl] at hj
  have := congrArg (fun z : Str => z.cps.toList) hj
  rw [e]
  congr 1
  refine jl_uniq (c := 32) ?_ ?_ h this
  · rw [List.length_map]
    have : 0 < ls.length := List.length_pos_iff.mpr hn
    omega
  · intro l hl
    obtain ⟨p, h1, rfl⟩ := List.mem_map.mp hl
    exact hf p h1
/-! what a line tells -/
def AT : List Nat := [97, 116]
def IS : List Nat := [105, 115]
abbrev Th := Str × Int × Int
def thQ : List (List Nat) → Option (List Nat × Int × Int)
  | [a, b, k, d, v] => if b = AT ∧ d = IS ∧ lets a = true then (numOf k).bind fun k => if 0 ≤ k then (numOf v).map fun v => (a, k, v) else none else none
  | _ => none
def thOf (c : Int) (l : Str) : Option Th := (thQ ((Txt.split l BL).map fun p => p.cps.toList)).bind fun t => if t.2.1 < c then some (mkS t.1, t.2.1, t.2.2) else none
theorem th_parts {c : Int} {ls : List (List Nat)} (hn : ls ≠ []) (h : ∀ l ∈ ls, 32 ∉ l) : thOf c (mkS (jl 32 ls)) = (thQ ls).bind fun t => if t.2.1 < c then some (mkS t.1, t.2.1, t.2.2) else none := by
  unfold thOf
  rw [split_is hn h, List.map_map]
  congr 2
  exact List.map_id ls
def lineL (n : List Nat) (k v : Int) : List Nat := jl 32 [n, AT, tx k, IS, tx v]
theorem lets_no32 {n : List Nat} (h : lets n = true) : 32 ∉ n := fun z => by
  unfold lets at h
  rw [Bool.and_eq_true] at h
  have := List.all_eq_true.mp h.2 32 z
  simp at this
theorem tx_no32 (i : Int) : 32 ∉ tx i := fun z => by
  rcases tx_mem z with h | h <;> omega
theorem th_line {c k v : Int} {n : List Nat} (hn : lets n = true) (h0 : 0 ≤ k) (h1 : k < c) : thOf c (mkS (lineL n k v)) = some (mkS n, k, v) := by
  unfold lineL
  rw [th_parts (by simp)]
  · unfold thQ
    dsimp only
    rw [if_pos (show AT = AT ∧ IS = IS ∧ lets n = true from ⟨rfl, rfl, hn⟩), num_tx, num_tx]
    simp only [Option.bind_some, if_pos h0, Option.map_some, if_pos h1]
  · intro l hl
    simp only [List.mem_cons, List.not_mem_nil, or_false] at hl
    rcases hl with rfl | rfl | rfl | rfl | rfl
    · exact lets_no32 hn
    · decide
    · exact tx_no32 _
    · decide
    · exact tx_no32 _
/-- the bad lines, in parts -/
def OATS : List Nat := [111, 97, 116, 115]
def badP : List (List (List Nat)) :=
  [[[]], [OATS], [OATS, AT, [48], IS], [OATS, AT, [48], IS, []], [[], OATS, AT, [48], IS, [49]], [OATS, AT, [48], IS, [49], []],
   [OATS, [], AT, [48], IS, [49]], [[79, 97, 116, 115], AT, [48], IS, [49]], [[111, 97, 116, 115, 49], AT, [48], IS, [49]], [OATS, IS, [48], AT, [49]],
   [OATS, AT, [48, 48], IS, [49]], [OATS, AT, [45, 49], IS, [49]], [OATS, AT, [48], IS, [48, 49]], [OATS, AT, [48], IS, [45, 48]],
   [OATS, AT, [48], IS, [43, 49]], [OATS, AT, [120], IS, [49]], [OATS, AT, [48], IS, [45, 45, 49]], [OATS, AT, [48], IS, [49], [50]]]
def badP2 : List (List (List Nat)) := [[[], AT, [48], IS, [49]], [OATS, AT, [48], AT, [49]], [OATS, IS, [48], IS, [49]]]
theorem bad_all : ∀ ls ∈ badP ++ badP2, ls ≠ [] ∧ (∀ l ∈ ls, 32 ∉ l) ∧ thQ ls = none := by decide +kernel
theorem th_bad {c : Int} {ls : List (List Nat)} (h : ls ∈ badP ++ badP2) : thOf c (mkS (jl 32 ls)) = none := by
  obtain ⟨h1, h2, h3⟩ := bad_all ls h
  rw [th_parts h1 h2, h3]
  rfl
theorem th_count {c : Int} : thOf c (mkS (lineL OATS c 1)) = none := by
  unfold lineL
  rw [th_parts (by simp)]
  · unfold thQ
    dsimp only
    rw [if_pos (show AT = AT ∧ IS = IS ∧ lets OATS = true from ⟨rfl, rfl, by decide⟩), num_tx, num_tx]
    by_cases h : 0 ≤ c
    · simp only [Option.bind_some, if_pos h, Option.map_some, if_neg (Int.lt_irrefl c)]
    · simp only [Option.bind_some, if_neg h, Option.bind_none]
  · intro l hl
    simp only [List.mem_cons, List.not_mem_nil, or_false] at hl
    rcases hl with rfl | rfl | rfl | rfl | rfl
    · decide
    · decide
    · exact tx_no32 _
    · decide
    · exact tx_no32 _
/-! all lines -/
def rd (c : Int) : List Str → List Str → Option (List Th)
  | _, [] => some []
  | seen, l :: r => match thOf c l with
    | none => none
    | some t => if t.1 ∈ seen then none else (rd c (seen ++ [t.1]) r).map (t :: ·)
theorem rd_spec {c : Int} : ∀ {ls seen : List Str} {ts : List Th}, rd c seen ls = some ts → ls.map (thOf c) = ts.map some ∧ (ts.map (·.1)).Nodup ∧ ∀ t ∈ ts, t.1 ∉ seen
  | [], _, ts, h => by
    obtain rfl := Option.some.inj h
    exact ⟨rfl, by simp, by simp⟩
  | l :: r, seen, ts, h => by
    unfold rd at h
    cases ht : thOf c l with
    | none => rw [ht] at h; cases h
    | some t =>
      rw [ht] at h
      have h : (if t.1 ∈ seen then none else (rd c (seen ++ [t.1]) r).map (t :: ·)) = some ts := h
      by_cases hm : t.1 ∈ seen
      · rw [if_pos hm] at h; cases h
      · rw [if_neg hm] at h
        obtain ⟨us, hu, rfl⟩ := Option.map_eq_some_iff.mp h
        obtain ⟨e1, e2, e3⟩ := rd_spec hu
        refine ⟨by rw [List.map_cons, e1, ht]; rfl, ?_, ?_⟩
        · rw [List.map_cons, List.nodup_cons]
          refine ⟨fun z => ?_, e2⟩
          obtain ⟨u, hu1, hu2⟩ := List.mem_map.mp z
          exact e3 u hu1 (List.mem_append_right _ (by rw [hu2]; exact List.mem_singleton_self _))
        · intro u hu1
          rcases List.mem_cons.mp hu1 with rfl | hu2
          · exact hm
          · exact fun z => e3 u hu2 (List.mem_append_left _ z)
theorem rd_make {c : Int} : ∀ {ls seen : List Str} {ts : List Th}, ls.map (thOf c) = ts.map some → (ts.map (·.1)).Nodup → (∀ t ∈ ts, t.1 ∉ seen) → rd c seen ls = some ts
  | [], _, ts, h, _, _ => by
    cases ts with
    | nil => rfl
    | cons _ _ => cases h
  | l :: r, seen, ts, h, h2, h3 => by
    cases ts with
    | nil => cases h
    | cons t us =>
      obtain ⟨e1, e2⟩ := List.cons.inj h
      rw [List.map_cons, List.nodup_cons] at h2
      unfold rd
      rw [e1]
      show (if t.1 ∈ seen then none else (rd c (seen ++ [t.1]) r).map (t :: ·)) = _
      rw [if_neg (h3 t List.mem_cons_self), rd_make e2 h2.2]
      · rfl
      · intro u hu z
        rcases List.mem_append.mp z with z | z
        · exact h3 u (List.mem_cons_of_mem _ hu) z
        · exact h2.1 (by rw [← List.mem_singleton.mp z]; exact List.mem_map_of_mem hu)
theorem rd_bad {c : Int} {ls seen : List Str} {l : Str} (hl : l ∈ ls) (h : thOf c l = none) : rd c seen ls = none := by
  cases hr : rd c seen ls with
  | none => rfl
  | some ts =>
    have e := (rd_spec hr).1
    have : thOf c l ∈ ts.map some := e ▸ List.mem_map_of_mem hl
    rw [h] at this
    simp at this
theorem rd_dup {c : Int} {l : Str} {ls ms seen : List Str} (hl : l ∈ ls ++ ms) : rd c seen (ls ++ [l] ++ ms) = none := by
  cases hr : rd c seen (ls ++ [l] ++ ms) with
  | none => rfl
  | some ts =>
    obtain ⟨e, nd, _⟩ := rd_spec hr
    have p : (ls ++ [l] ++ ms).Perm (l :: (ls ++ ms)) := by
      rw [List.append_assoc]
      exact List.perm_middle
    have p1 := p.map (fun x => (thOf c x).map (·.1))
    have e1 : (ls ++ [l] ++ ms).map (fun x => (thOf c x).map (·.1)) = (ts.map (·.1)).map some := by
      have := congrArg (List.map (Option.map (fun t : Th => t.1))) e
      rw [List.map_map, List.map_map] at this
      rw [List.map_map]
      exact this
    rw [e1] at p1
    have n1 : ((ts.map (·.1)).map some).Nodup := List.Pairwise.map _ (fun a b h z => h (Option.some.inj z)) nd
    have n2 := p1.nodup_iff.mp n1
    rw [List.map_cons, List.nodup_cons] at n2
    exact absurd (List.mem_map_of_mem (f := fun x => (thOf c x).map (·.1)) hl) n2.1
end Fb

end

section
set_option maxHeartbeats 2000000
/-! what a law's own text does with texts -/
namespace L2
open PySem PyProof.Rows
theorem pg_tupK {X : Cx} {K : PySem.W.Frag} {es : List Expr} {k : Nat} {t : TGs} {n : Nat} {pos : Pos} (hK : X.K = K) (hc : X.calm = true) (h : PGs X es t)
    (hn : (assignEach es X.env).length = n := by rfl) (hst : (assignEach es X.env).findIdx? (·.1) = none := by rfl) : PG X (.Tuple es k pos) (gTup K n t) := hK ▸ pg_tup hc h hn hst
theorem PSs.mono {X : Cx} {b : List Stmt} {t t' : TS} (h : PSs X b t) (m : ∀ D σ H, t' D σ H → t D σ H) : PSs X b t' := fun pins s σ H D I q => h pins s σ H D I (m D σ H q)
theorem PH.len {X : Cx} {hs : List ExceptHandler} {cls : Value} {t : TS} (h : PH X hs cls t) : PH X hs cls (fun D σ H => σ.length = X.N.length → t D σ H) := fun pins s σ H D x hc I fl O q => h pins s σ H D x hc I fl O (q I.len)
end L2
namespace Fb
open PySem L2
section
variable {σ : St} {H0 : Hp} {K : PySem.W.Frag}
theorem dh_str {H : Hp} {v : V} {x : Str} (h : Dh H v (.str x)) : v = .str x := by cases h; rfl
theorem rd_addS {ta tb : TE} {x y : Str} (ha : Rd1 ta σ H0 (.str x)) (hb : Rd1 tb σ H0 (.str y)) (hl : x.length + y.length ≤ sizeLine) : Rd1 (tOp (fun x y H Q => ∃ i j, x = .str i ∧ y = .str j ∧ i.length + j.length ≤ sizeLine ∧ Q (.str (i ++ j)) H) ta tb) σ H0 (.str (x ++ y)) := fun H Q s q =>
  ha H _ s fun v H1 hv s1 => hb H1 _ (s.trans s1) fun u H2 hu s2 => by
    obtain rfl := dh_str hv
    obtain rfl := dh_str hu
    exact ⟨x, y, rfl, rfl, hl, q _ H2 (.str _) (s1.trans s2)⟩
theorem rd_mulS {ta tb : TE} {x : Str} {n : Int} (ha : Rd1 ta σ H0 (.str x)) (hb : Rd1 tb σ H0 (.int n)) (hl : MulOk x n) : Rd1 (tOp (fun x y H Q => ∃ z n, x = .str z ∧ y = .int n ∧ MulOk z n ∧ Q (.str (Txt.mul z n)) H) ta tb) σ H0 (.str (Txt.mul x n)) := fun H Q s q =>
  ha H _ s fun v H1 hv s1 => hb H1 _ (s.trans s1) fun u H2 hu s2 => by
    obtain rfl := dh_str hv
    obtain rfl := dh_int hu
    exact ⟨x, n, rfl, rfl, hl, q _ H2 (.str _) (s1.trans s2)⟩
theorem rd_ixS {ta tb : TE} {x : Str} {n : Int} {c : Nat} (ha : Rd1 ta σ H0 (.str x)) (hb : Rd1 tb σ H0 (.int n)) (hl : x.length ≤ sizeLine) (hc : atI x.cps.toList n = some c) : Rd1 (tOp rIxS ta tb) σ H0 (.str ⟨#[c]⟩) := fun H Q s q =>
  ha H _ s fun v H1 hv s1 => hb H1 _ (s.trans s1) fun u H2 hu s2 => by
    obtain rfl := dh_str hv
    obtain rfl := dh_int hu
    exact ⟨x, n, c, rfl, rfl, hl, hc, q _ H2 (.str _) (s1.trans s2)⟩
theorem rd_strI {ta : TE} {i : Int} (ha : Rd1 ta σ H0 (.int i)) (hl : i.natAbs.log2 < 1920) : Rd1 (tCB (fun xs H Q => ∃ i, xs = [V.int i] ∧ i.natAbs.log2 < 1920 ∧ Q (.str (toString i)) H) (tCons ta tNil)) σ H0 (.str (mkS (tx i))) := fun H Q s q =>
  ha H _ s fun v H1 hv s1 => by
    obtain rfl := dh_int hv
    refine ⟨i, rfl, hl, ?_⟩
    rw [tx_str]
    exact q _ H1 (.str _) s1
theorem rd_intS {ta : TE} {x : Str} {n : Int} (ha : Rd1 ta σ H0 (.str x)) (h : intText? x = some n) (hl : x.length ≤ 640) : Rd1 (tCB (fun xs H Q => ∃ x n, xs = [V.str x] ∧ PySem.intText? x = some n ∧ x.length ≤ 640 ∧ Q (.int n) H) (tCons ta tNil)) σ H0 (.int n) := fun H Q s q =>
  ha H _ s fun v H1 hv s1 => by
    obtain rfl := dh_str hv
    exact ⟨x, n, rfl, h, hl, q _ H1 (.int _) s1⟩
theorem rd_fdiv {ta tb : TE} {i j : Int} (ha : Rd1 ta σ H0 (.int i)) (hb : Rd1 tb σ H0 (.int j)) (hc : CDiv i j) : Rd1 (tOp (rI CDiv fun i j => .int (i / j)) ta tb) σ H0 (.int (i / j)) := fun H Q s q =>
  ha H _ s fun v H1 hv s1 => hb H1 _ (s.trans s1) fun u H2 hu s2 => by
    obtain rfl := dh_int hv
    obtain rfl := dh_int hu
    exact ⟨i, j, rfl, rfl, hc, q _ H2 (.int _) (s1.trans s2)⟩
theorem rd_min {ta tb : TE} {i j : Int} (ha : Rd1 ta σ H0 (.int i)) (hb : Rd1 tb σ H0 (.int j)) : Rd1 (tCB (fun xs H Q => ∃ i j, xs = [V.int i, V.int j] ∧ Q (.int (if j < i then j else i)) H) (tCons ta (tCons tb tNil))) σ H0 (.int (if j < i then j else i)) := fun H Q s q =>
  ha H _ s fun v H1 hv s1 => hb H1 _ (s.trans s1) fun u H2 hu s2 => by
    obtain rfl := dh_int hv
    obtain rfl := dh_int hu
    exact ⟨i, j, rfl, q _ H2 (.int _) (s1.trans s2)⟩
theorem rd_lenS {a : Addr} {i : Nat} {xs : List V} (hi : σ[i]? = some (some (.ref a))) (hS : SqL K H0 a xs) : Rd1 (tCB (fun xs H Q => ∃ p ys, xs = [V.ref p] ∧ (SqL K H p ys ∨ SqT K H p ys) ∧ Q (.int ys.length) H) (tCons (tVar i) tNil)) σ H0 (.int xs.length) := fun H Q s q =>
  ⟨_, hi, a, xs, rfl, Or.inl (s.seq hS), q _ H (.int _) (Same.refl H)⟩
theorem rd_ixSq {a : Addr} {i j k : Nat} {ns : List Int} (hi : σ[i]? = some (some (.ref a))) (hj : σ[j]? = some (some (.int (k : Int)))) (hS : SqL K H0 a (ns.map V.int)) (hk : k < ns.length) : Rd1 (tOp (rIxL K) (tVar i) (tVar j)) σ H0 (.int (ns.getD k 0)) := fun H Q s q =>
  ⟨_, hi, _, hj, rIxL_of (s.seq hS) (atI_nat (by rw [List.getElem?_map, List.getElem?_eq_getElem hk]; rfl)) (by
    have := q (.int (ns.getD k 0)) H (.int _) (Same.refl H)
    rw [List.getD_eq_getElem?_getD, List.getElem?_eq_getElem hk] at this
    exact this)⟩
end
end Fb

end

section
set_option maxHeartbeats 4000000
namespace Fb
open PySem L2
def top (i : Nat) : Stmt := PySem.Challenge.pw_freshbook_k12_things_on_lines.main.body.getD i (.Pass ⟨0, 0, 0, 0⟩)
local macro_rules | `(tactic| walk_at $x:str) => do
  let ws := x.getString.splitOn " "
  if ws.head! != "wp" then Lean.Macro.throwUnsupported
  let mut hs : Array (Lean.TSyntax `Lean.Parser.Tactic.simpLemma) := #[]
  for z in ws.tail! do
    let ps := z.splitOn ":"
    let mut t : Lean.TSyntax `term := Lean.mkIdent ps.head!.toName
    for p in ps.tail! do
      let a : Lean.TSyntax `term := Lean.mkIdent p.toName
      t ← `($t $a)
    hs := hs.push (← `(Lean.Parser.Tactic.simpLemma| $t:term))
  `(tactic| simp only [cxOf_K, cxOf_A, cxComp_K, cxComp_A, tSeq, tNext, tForG, iRng1, iList, tLst, tAsg, gName, tRet, tRetN, tOp, tVar, tC, rI0, rI, rU, tUn, tChain, tTest, tB, tIfS, tAnd, tOr, tNot, tAndV, tOrV, tNotV, tIsN, tNotN, tCB, tCons, tNil, tCall, rEq, rNe, L2.start, List.map_cons, List.map_nil, List.cons_append, List.nil_append, List.append_nil, List.length_cons, List.length_nil, List.replicate, List.getElem?_cons_zero, List.getElem?_cons_succ, List.set_cons_zero, List.set_cons_succ, Option.some.injEq, V.int.injEq, V.bl.injEq, V.ref.injEq, V.str.injEq, V.ty.injEq, List.cons.injEq, exists_eq_left', exists_and_left, exists_eq_left, and_true, true_and, exists_eq_right, exists_eq_right', Nat.zero_add, Nat.reduceAdd, Nat.reduceSub, and_assoc, ↓reduceIte, Bool.not_true, Bool.not_false, Bool.false_eq_true, Bool.true_and, Bool.false_and, cmul_2, cmul_4, cmul_h, known_bool, known_int, known_str, known_list, known_tuple, known_dict, sT_NoneType_bool, sT_NoneType_int, sT_NoneType_str, sT_NoneType_list, sT_NoneType_tuple, sT_NoneType_dict, sT_bool_bool, sT_bool_int, sT_bool_str, sT_bool_list, sT_bool_tuple, sT_bool_dict, sT_int_bool, sT_int_int, sT_int_str, sT_int_list, sT_int_tuple, sT_int_dict, sT_str_bool, sT_str_int, sT_str_str, sT_str_list, sT_str_tuple, sT_str_dict, sT_list_bool, sT_list_int, sT_list_str, sT_list_list, sT_list_tuple, sT_list_dict, sT_tuple_bool, sT_tuple_int, sT_tuple_str, sT_tuple_list, sT_tuple_tuple, sT_tuple_dict, sT_dict_bool, sT_dict_int, sT_dict_str, sT_dict_list, sT_dict_tuple, sT_dict_dict, tyN_non, tyN_bl, tyN_int, tyN_str, Int.reduceLT, small_of, Nat.reduceLeDiff, scal, not_true_eq_false, not_false_eq_true, reduceCtorEq, decide_true, decide_false, Bool.or_true, Bool.true_or, Bool.or_false, Bool.false_or, Bool.and_true, Bool.and_false, HO.tup.injEq, HO.lst.injEq, tYes, false_and, false_or, or_false, and_false, exists_false, tDNewK, tDrop, sDPut, tDGet, tDIn, tDNotIn, tTup, tBM, tBM0, upd_same, upd_upd, iTup, iStr, tLc, tLcR, gTup, gCons, gNil, Option.isSome_some, Option.isSome_none, Option.getD_some, Option.getD_none, tSl, rSlS, rStarts, rFind, tIf, tFmt, tJoin, tRaise, rIxS, $hs,*])

-- WPMORE tDNewK, tDrop, sDPut, tDGet, tDIn, tDNotIn, tTup, tBM, tBM0, upd_same, upd_upd, iTup, iStr, tLc, tLcR, gTup, gCons, gNil, Option.isSome_some, Option.isSome_none, Option.getD_some, Option.getD_none, tSl, rSlS, rStarts, rFind, tIf, tFmt, tJoin, tRaise, rIxS

seal L2.PE L2.PS L2.PSs L2.PT L2.PW L2.PA L2.PC L2.PG L2.PGs L2.PI L2.PO L2.PPs
section
variable {P : Program} {w : World} {K : PySem.W.Frag} {mg : Str → Option Value} {base : Heap} {C : Addr}
def asc (t : Str) : Prop := t.cps.all (· < 128) = true
def madeL (t g : List Nat) : Bool := !t.isEmpty && t.all fun c => decide (c ∈ g)
def LET : Str := "abcdefghijklmnopqrstuvwxyz"
def FIG : Str := "0123456789"
theorem let_is : LET.cps.toList = List.range' 97 26 := by decide +kernel
theorem fig_is : FIG.cps.toList = List.range' 48 10 := by decide +kernel
theorem made_let (n : List Nat) : madeL n LET.cps.toList = lets n := by
  unfold madeL lets
  congr 1
  apply List.all_congr rfl
  intro c
  rw [let_is]
  congr 1
  rw [List.mem_range'_1]
  exact propext ⟨fun h => ⟨h.1, by omega⟩, fun h => ⟨h.1, by omega⟩⟩
theorem made_fig (n : List Nat) : madeL n FIG.cps.toList = figs n := by
  unfold madeL figs
  congr 1
  apply List.all_congr rfl
  intro c
  rw [fig_is]
  congr 1
  rw [List.mem_range'_1]
  exact propext ⟨fun h => ⟨h.1, by omega⟩, fun h => ⟨h.1, by omega⟩⟩
theorem find_fig0 : ∀ d : Fin 10, Txt.find FIG ⟨#[48 + d.val]⟩ = (d.val : Int) := by decide +kernel
theorem find_fig {c : Nat} (h : 48 ≤ c ∧ c ≤ 57) : Txt.find FIG ⟨#[c]⟩ = ((c - 48 : Nat) : Int) := by
  have := find_fig0 ⟨c - 48, by omega⟩
  rw [show 48 + (⟨c - 48, by omega⟩ : Fin 10).val = c from by show 48 + (c - 48) = c; omega] at this
  exact this
theorem empty_iff (t : Str) : t = ("" : Str) ↔ t.cps.toList = [] := by
  constructor
  · rintro rfl
    decide +kernel
  · intro h
    exact S_eq (h.trans (by decide +kernel))
theorem ch_at {t : Str} {i : Nat} {x : V} (h : (chV t)[i]? = some x) : ∃ c, t.cps.toList[i]? = some c ∧ x = .str ⟨#[c]⟩ := by
  unfold chV at h
  rw [List.getElem?_map] at h
  obtain ⟨c, hc, e⟩ := Option.map_eq_some_iff.mp h
  exact ⟨c, hc, e.symm⟩
/-- made_of -/
def sp_made : Sp := fun vs H Q _ => ∃ t g, vs = [.str t, .str g] ∧ asc t ∧ t.cps.size ≤ 900 ∧ ∀ H', Same H H' → Q (.bl (madeL t.cps.toList g.cps.toList)) H'
theorem sc_made_of : FnScope ["text", "signs"] ["text", "signs"] (defScope (top 18)) := ⟨rfl, rfl, rfl, by decide +kernel, rfl, by decide +kernel, by decide +kernel⟩
theorem ok_made {f : Addr} {fd : FuncData} (mg_all : mg "all" = none) (F : Fun K "made_of" "made_of" (top 18) f fd) : FnOk P w K mg base CX0 1 f fd ["text", "signs"] sp_made := by
  refine F.ok sc_made_of (fun vs H Q E h => ?_) (fun cdv A outer s H vs Q E hr h => ?_)
  · obtain ⟨t, g, rfl, _⟩ := h
    rfl
  · obtain ⟨t, g, rfl, ha, hl, q⟩ := h
    refine ⟨_, (pss_one (ps_ret (pe_and (pe_cmpR op_ne (pv 0) pe_str (nomark _)) (pe_one (pe_callB (call_all rfl) rfl mg_all (by decide +kernel) (pa_cons (pe_lc (own := ["sign"]) rfl (LcScope.of (by kernel_rfl)) (pi_str (pv 0)) (fun cl C s H fp => ⟨(pg_name (i := 2) (show List.Nodup (α := Str) ["text", "signs", "sign"] by decide +kernel) rfl (Or.inl rfl)), pts_nil, (pe_cmpR op_in_str (pv 2) (pv 1) rfl)⟩)) pa_nil)))))), ?_⟩
    walk_at "wp"
    by_cases he : t = ("" : Str)
    · rw [decide_eq_true he]
      refine iteF ?_
      have := q H (Same.refl H)
      rw [(empty_iff t).mp he] at this
      exact this
    · rw [decide_eq_false he]
      refine iteT ⟨ha, fun D hD => ?_⟩
      refine lc_data (xs := chV t) hD (fun H' sm => Yields.str) (by rw [chV_len]; exact hl) (fun i => .bool (decide (t.cps.toList.getD i 0 ∈ g.cps.toList))) (fun i x H2 R E hx sm hys r => ?_) fun H2 hd sm => ?_
      · obtain ⟨c, hc, rfl⟩ := ch_at hx
        refine ⟨own_keep (σ := [some (V.str t), some (V.str g)]) (k := 2) (Nat.le_refl 2), ?_⟩
        walk_at "wp"
        have := r (.bl _) H2 (fun _ _ => .bl _) (Same.refl H2)
        rw [List.getD_eq_getElem?_getD, hc] at this
        rw [StrLaws.found_one]
        exact this
      · obtain ⟨A1, xs, e, hA, hx⟩ := dh_list hd
        obtain rfl := V.ref.inj e
        have hl2 : (chV t).length = t.cps.toList.length := by simp [chV]
        rw [hl2, range_getD t.cps.toList 0 fun c => PyData.bool (decide (c ∈ g.cps.toList))] at hx
        have e2 := dhs_flat hx (by simp [isSc])
        refine ⟨t.cps.toList.map fun c => decide (c ∈ g.cps.toList), ?_, ?_⟩
        · rw [e2, List.map_map] at hA
          rw [List.map_map]
          exact SqL.of hA
        · have := q H2 sm
          unfold madeL at this
          rw [show t.cps.toList.isEmpty = false from by
            cases h : t.cps.toList with
            | nil => exact absurd ((empty_iff t).mpr h) he
            | cons _ _ => rfl] at this
          rw [List.all_map]
          exact this
/-- size_of -/
def sp_size : Sp := fun vs H Q _ => ∃ t, vs = [.str t] ∧ asc t ∧ figs t.cps.toList = true ∧ Q (.int (sz t.cps.toList)) H
theorem sc_size_of : FnScope ["figures", "size", "figure"] ["figures"] (defScope (top 17)) := ⟨rfl, rfl, rfl, by decide +kernel, rfl, by decide +kernel, by decide +kernel⟩
theorem ok_size {f : Addr} {fd : FuncData} {u : Value} (mg_FIGURES : mg "FIGURES" = some u) (g_FIGURES : RelV (.str FIG) u) (F : Fun K "size_of" "size_of" (top 17) f fd) : FnOk P w K mg base CX0 1 f fd ["figures"] sp_size := by
  refine F.ok sc_size_of (fun vs H Q E h => ?_) (fun cdv A outer s H vs Q E hr h => ?_)
  · obtain ⟨t, rfl, _⟩ := h
    rfl
  · obtain ⟨t, rfl, ha, hf, q⟩ := h
    refine ⟨_, (pss_cons (ps_set (i := 1) sc_size_of.nd rfl (Or.inl rfl) pe_int)  (pss_cons (ps_forG PassesOwn.never rfl (pi_str (pv 0)) (pg_name (i := 2) sc_size_of.nd rfl (Or.inl rfl))  (pss_one (ps_set (i := 1) sc_size_of.nd rfl (Or.inl rfl) (pe_op op_add (pe_op op_mul (pv 1) pe_int) (pe_bm PySem.F.plainAttrs_str PySem.F.slot_str_find PySem.F.type_str_find mt_find (pe_glob rfl mg_FIGURES g_FIGURES) (pa_cons (pv 2) pa_nil))))))  (pss_one (ps_ret (pv 1))))), ?_⟩
    walk_at "wp"
    refine ⟨ha, for_gen (xs := chV t) (fun i σ H' => ∃ x2, σ = [some (.str t), some (.int (sz (t.cps.toList.take i) : Int)), x2] ∧ H' = H) ⟨_, rfl, rfl⟩ (fun _ _ _ _ _ => Yields.str) ?_ ?_⟩
    · rintro i v σ H' hv ⟨x2, rfl, rfl⟩
      obtain ⟨c, hc, rfl⟩ := ch_at hv
      have hd : 48 ≤ c ∧ c ≤ 57 := by
        unfold figs at hf
        rw [Bool.and_eq_true] at hf
        exact of_decide_eq_true (List.all_eq_true.mp hf.2 c (List.mem_of_getElem? hc))
      walk_at "wp cmul_10"
      refine ⟨rfl, ?_, _, rfl⟩
      rw [find_fig hd, List.take_add_one, hc]
      unfold sz
      rw [List.foldl_append]
      simp only [Option.toList_some, List.foldl_cons, List.foldl_nil]
      omega
    · rintro σ H' ⟨x2, rfl, rfl⟩
      walk_at "wp"
      rw [chV_len, ← Array.length_toList, List.take_length]
      exact q
/-- check_name -/
def sp_check (C : Addr) : Sp := fun vs H Q E => ∃ t, vs = [.str t] ∧ asc t ∧ t.cps.size ≤ 900 ∧ ∀ H', Same H H' → if lets t.cps.toList = true then Q .non H' else E (.ref C) none H'
theorem sc_check_name : FnScope ["name"] ["name"] (defScope (top 15)) := ⟨rfl, rfl, rfl, by decide +kernel, rfl, by decide +kernel, by decide +kernel⟩
theorem ok_check {f : Addr} {fd : FuncData} {u : Value} {C : Addr} (mg_LETTERS : mg "LETTERS" = some u) (g_LETTERS : RelV (.str LET) u) (er_NoLine : Er K mg "NoLine" C) (d_made_of : Def P w K mg base "made_of" 1 ["text", "signs"] sp_made) (F : Fun K "check_name" "check_name" (top 15) f fd) : FnOk P w K mg base (CX1 P w) 2 f fd ["name"] (sp_check C) := by
  refine F.ok1 sc_check_name (fun vs H Q E h => ?_) (fun cdv A outer s H vs Q E hr h => ?_)
  · obtain ⟨t, rfl, _⟩ := h
    rfl
  · obtain ⟨t, rfl, ha, hl, q⟩ := h
    refine ⟨_, (pss_one (ps_if (pt_not (pt_val (pe_def d_made_of (hr.mono (by omega)) rfl (pa_cons (pv 0) (pa_cons (pe_glob rfl mg_LETTERS g_LETTERS) pa_nil))))) (pss_one (ps_raise er_NoLine rfl (pa_cons pe_str pa_nil))) pss_nil)), ?_⟩
    walk_at "wp"
    refine ⟨t, LET, rfl, ha, hl, fun H' s' => ?_⟩
    rw [made_let]
    have := q H' s'
    cases e : lets t.cps.toList with
    | true =>
      rw [e, if_pos rfl] at this
      walk_at "wp"
      exact this
    | false =>
      rw [e, if_neg (by decide)] at this
      walk_at "wp"
      exact this
theorem starts_is (t : Str) : Txt.startswith t (Str.ofString "-") = under t.cps.toList := by
  rw [show Str.ofString "-" = ⟨#[45]⟩ from by decide +kernel]
  have h := StrLaws.subAt_one t 45 0
  unfold Txt.startswith under
  cases e : (t.cps.toList.head? == some 45) with
  | true =>
    rw [beq_iff_eq, List.head?_eq_getElem?] at e
    obtain ⟨h1, h2⟩ := h.mpr e
    rw [h2, Bool.and_true]
    exact decide_eq_true h1
  | false =>
    rw [Bool.and_eq_false_iff]
    by_cases h1 : 0 + (⟨#[45]⟩ : Str).length ≤ t.length
    · right
      cases h2 : Builtin.Str.subAt t ⟨#[45]⟩ 0 with
      | false => rfl
      | true =>
        have := h.mp ⟨h1, h2⟩
        rw [← List.head?_eq_getElem?] at this
        rw [this] at e
        exact absurd e (by decide)
    · left
      exact decide_eq_false h1
theorem slice1 (t : Str) (h : under t.cps.toList = true) : Txt.slice t (some 1) none = mkS (t.cps.toList.drop 1) := by
  unfold under at h
  have hl : 1 ≤ t.cps.toList.length := by
    cases e : t.cps.toList with
    | nil => rw [e] at h; cases h
    | cons _ _ => simp
  have hl2 : t.length = t.cps.toList.length := by simp [Str.length]
  rw [PyProof.Rows.slice_from_eq (b := t.length) (by decide) (by omega) rfl]
  apply S_eq
  show ((t.cps.toList.drop 1).take _) = t.cps.toList.drop 1
  apply List.take_of_length_le
  rw [List.length_drop]
  omega
theorem asc_drop {t : Str} (h : asc t) (k : Nat) : asc (mkS (t.cps.toList.drop k)) := by
  unfold asc at *
  rw [← Array.all_toList, List.all_eq_true] at h ⊢
  exact fun c hc => h c (List.mem_of_mem_drop hc)
theorem nought_is (t : Str) : t = Str.ofString "0" ↔ t.cps.toList = [48] := by
  constructor
  · rintro rfl
    decide +kernel
  · intro h
    exact S_eq (h.trans (by decide +kernel))
/-- number_of -/
def sp_number (C : Addr) : Sp := fun vs H Q E => ∃ t, vs = [.str t] ∧ asc t ∧ t.cps.size ≤ 900 ∧ ∀ H', Same H H' → match numOf t.cps.toList with | some i => Q (.int i) H' | none => E (.ref C) none H'
theorem sc_number_of : FnScope ["text", "below", "figures", "size"] ["text"] (defScope (top 16)) := ⟨rfl, rfl, rfl, by decide +kernel, rfl, by decide +kernel, by decide +kernel⟩
theorem num_rest {H : Hp} {t fs : Str} {Q G : VK} {E : XK} {C : Addr} (ha : asc fs) (hl : fs.cps.size ≤ 900) (hf : fs.cps.toList = figsOf t.cps.toList) (hG : ∀ H1, Q (.int (if under t.cps.toList = true then -(sz (figsOf t.cps.toList) : Int) else sz (figsOf t.cps.toList))) H1 → G (.int (sz fs.cps.toList : Int)) H1)
    (q : ∀ H', Same H H' → match numOf t.cps.toList with | some i => Q (.int i) H' | none => E (.ref C) none H') :
    sp_made [V.str fs, V.str FIG] H (fun x H1 => ∃ c, x = V.bl c ∧ if (!c) = true then E (Value.ref C) none H1 else fs.length ≤ sizeLine ∧ ∃ x, atI fs.cps.toList 0 = some x ∧
      if decide ((⟨#[x]⟩ : Str) = Str.ofString "0") = true then if (!decide (t = Str.ofString "0")) = true then E (Value.ref C) none H1 else sp_size [V.str fs] H1 G E0 else sp_size [V.str fs] H1 G E0) E0 := by
  refine ⟨fs, FIG, rfl, ha, hl, fun H1 s1 => ⟨_, rfl, ?_⟩⟩
  have q1 := q H1 s1
  have hn : (decide (t = Str.ofString "0")) = !(t.cps.toList != [48]) := by
    by_cases h : t = Str.ofString "0"
    · rw [decide_eq_true h, (nought_is t).mp h]; rfl
    · rw [decide_eq_false h]
      have : t.cps.toList ≠ [48] := fun z => h ((nought_is t).mpr z)
      simp [bne, this]
  rw [made_fig, hf]
  unfold numOf at q1
  cases e : figs (figsOf t.cps.toList) with
  | false =>
    rw [e, if_neg (by decide)] at q1
    exact iteT q1
  | true =>
    rw [e, if_pos rfl] at q1
    refine iteF ⟨Nat.le_trans hl (by decide), ?_⟩
    have hsz : ∀ H1, Q (.int (if under t.cps.toList = true then -(sz (figsOf t.cps.toList) : Int) else sz (figsOf t.cps.toList))) H1 → sp_size [V.str fs] H1 G E0 := fun H1 h => ⟨fs, rfl, ha, by rw [hf]; exact e, hG H1 h⟩
    cases e2 : figsOf t.cps.toList with
    | nil => rw [e2] at e; cases e
    | cons c r =>
      refine ⟨c, (show atI (c :: r) ((0 : Nat) : Int) = _ from atI_nat rfl), ?_⟩
      have hc : (decide ((⟨#[c]⟩ : Str) = Str.ofString "0")) = ((figsOf t.cps.toList).head? == some 48) := by
        rw [e2]
        by_cases h : c = 48
        · subst h; rw [show decide ((⟨#[48]⟩ : Str) = Str.ofString "0") = true from by decide +kernel]; rfl
        · rw [decide_eq_false (fun z => h (by have := (nought_is _).mp z; simpa using this))]
          simp [h]
      rw [hc, hn]
      cases e3 : ((figsOf t.cps.toList).head? == some 48) with
      | false =>
        rw [e3, Bool.false_and, if_neg (by decide)] at q1
        exact iteF (hsz H1 q1)
      | true =>
        rw [e3, Bool.true_and] at q1
        refine iteT ?_
        cases e4 : (t.cps.toList != [48]) with
        | true =>
          rw [e4, if_pos rfl] at q1
          exact iteT q1
        | false =>
          rw [e4, if_neg (by decide)] at q1
          exact iteF (hsz H1 q1)
theorem ok_number {f : Addr} {fd : FuncData} {u : Value} {C : Addr} (mg_FIGURES : mg "FIGURES" = some u) (g_FIGURES : RelV (.str FIG) u) (er_NoLine : Er K mg "NoLine" C) (d_made_of : Def P w K mg base "made_of" 1 ["text", "signs"] sp_made)
    (d_size_of : Def P w K mg base "size_of" 1 ["figures"] sp_size) (F : Fun K "number_of" "number_of" (top 16) f fd) : FnOk P w K mg base (CX1 P w) 2 f fd ["text"] (sp_number C) := by
  refine F.ok1 sc_number_of (fun vs H Q E h => ?_) (fun cdv A outer s H vs Q E hr h => ?_)
  · obtain ⟨t, rfl, _⟩ := h
    rfl
  · obtain ⟨t, rfl, ha, hl, q⟩ := h
    refine ⟨_, (pss_cons (ps_set (i := 1) sc_number_of.nd rfl (Or.inl rfl) (pe_bm PySem.F.plainAttrs_str PySem.F.slot_str_startswith PySem.F.type_str_startswith mt_startswith (pv 0) (pa_cons pe_str pa_nil)))  (pss_cons (ps_set (i := 2) sc_number_of.nd rfl (Or.inl rfl) (pe_ifExp (pt_val (pv 1)) (pe_slice sl_str (pv 0) (po_some pe_int) po_none) (pv 0)))  (pss_cons (ps_if (pt_not (pt_val (pe_def d_made_of (hr.mono (by omega)) rfl (pa_cons (pv 2) (pa_cons (pe_glob rfl mg_FIGURES g_FIGURES) pa_nil))))) (pss_one (ps_raise er_NoLine rfl (pa_cons pe_str pa_nil))) pss_nil)  (pss_cons (ps_if (PW.pt (pw_and (pt_cmpR op_eq (pe_ix ix_str (pv 2) pe_int (fun _ _ => rfl)) pe_str (nomark _)) (pw_and1 (pt_cmpR op_ne (pv 0) pe_str (nomark _))))) (pss_one (ps_raise er_NoLine rfl (pa_cons pe_str pa_nil))) pss_nil)  (pss_cons (ps_set (i := 3) sc_number_of.nd rfl (Or.inl rfl) (pe_def d_size_of (hr.mono (by omega)) rfl (pa_cons (pv 2) pa_nil)))  (pss_one (ps_ret (pe_ifExp (pt_val (pv 1)) (pe_un un_neg (pv 3)) (pv 3))))))))), ?_⟩
    walk_at "wp"
    refine ⟨rfl, ?_⟩
    rw [starts_is]
    cases e : under t.cps.toList with
    | true =>
      refine iteT ⟨_, rfl, ?_⟩
      refine ⟨Nat.le_trans hl (by decide), ?_⟩
      rw [slice1 t e]
      have ef : figsOf t.cps.toList = t.cps.toList.drop 1 := by unfold figsOf; rw [e]; rfl
      refine num_rest (t := t) (Q := Q) (asc_drop ha 1) ?_ ef.symm ?_ q
      · show (t.cps.toList.drop 1).toArray.size ≤ 900
        rw [List.size_toArray, List.length_drop, Array.length_toList]
        omega
      · intro H1 h
        rw [e, if_pos rfl, ef] at h
        exact iteT ⟨_, rfl, h⟩
    | false =>
      refine iteF ?_
      have ef : figsOf t.cps.toList = t.cps.toList := by unfold figsOf; rw [e]; rfl
      refine num_rest (t := t) (Q := Q) ha hl ef.symm ?_ q
      intro H1 h
      rw [e, if_neg (by decide), ef] at h
      exact iteF h
/-- line_of -/
def sp_line : Sp := fun vs H Q _ => ∃ n k v, vs = [.str (mkS n), .int k, .int v] ∧ lets n = true ∧ n.length ≤ 300 ∧ k.natAbs < 10 ^ 100 ∧ v.natAbs < 10 ^ 100 ∧ ∀ H', Same H H' → Q (.str (mkS (lineL n k v))) H'
theorem sc_line_of : FnScope ["name", "keeper", "value"] ["name", "keeper", "value"] (defScope (top 13)) := ⟨rfl, rfl, rfl, by decide +kernel, rfl, by decide +kernel, by decide +kernel⟩
theorem asc_lets {n : List Nat} (h : lets n = true) : asc (mkS n) := by
  unfold asc
  unfold lets at h
  rw [Bool.and_eq_true] at h
  rw [← Array.all_toList, List.all_eq_true]
  intro c hc
  have := of_decide_eq_true (List.all_eq_true.mp h.2 c hc)
  exact decide_eq_true (by omega)
theorem log_small {n : Nat} (h : n < 10 ^ 100) : n.log2 < 1920 := by
  by_cases h0 : n = 0
  · subst h0; decide
  · exact (Nat.log2_lt h0).mpr (Nat.lt_trans h (by decide +kernel))
theorem tx_len {i : Int} (h : i.natAbs < 10 ^ 100) : (tx i).length ≤ 101 := by
  unfold tx
  have := dg_len (n := i.natAbs) (k := 100) (by decide) h
  split
  · rw [List.length_cons]; omega
  · omega
theorem at_list : (Str.ofString " at ").cps.toList = [32, 97, 116, 32] := by decide +kernel
theorem is_list : (Str.ofString " is ").cps.toList = [32, 105, 115, 32] := by decide +kernel
theorem S_len (z : Str) : z.length = z.cps.toList.length := by simp [Str.length]
theorem line_eq (n : List Nat) (k v : Int) : mkS n ++ Str.ofString " at " ++ mkS (tx k) ++ Str.ofString " is " ++ mkS (tx v) = mkS (lineL n k v) := by
  apply S_eq
  simp only [PyProof.Rows.cps_toList_append, at_list, is_list, mkS_list]
  simp [lineL, jl, AT, IS]
theorem line_len {n : List Nat} {k v : Int} (hl : n.length ≤ 300) (hk : k.natAbs < 10 ^ 100) (hv : v.natAbs < 10 ^ 100) : (lineL n k v).length ≤ 600 := by
  have h1 := tx_len hk
  have h2 := tx_len hv
  simp [lineL, jl, AT, IS]
  omega
theorem empty_app (z : Str) : Str.empty ++ z = z := S_eq (by rw [PyProof.Rows.cps_toList_append]; rfl)
theorem ok_line {f : Addr} {fd : FuncData} {C : Addr} (d_check_name : Def1 P w K mg base "check_name" 2 ["name"] (sp_check C)) (F : Fun K "line_of" "line_of" (top 13) f fd) : FnOk P w K mg base (CX1 P w) 3 f fd ["name", "keeper", "value"] sp_line := by
  refine F.ok1 sc_line_of (fun vs H Q E h => ?_) (fun cdv A outer s H vs Q E hr h => ?_)
  · obtain ⟨n, k, v, rfl, _⟩ := h
    rfl
  · obtain ⟨n, k, v, rfl, hn, hl, hk, hv, q⟩ := h
    refine ⟨_, (pss_cons (ps_expr (pe_def1 d_check_name pass1 (hr.mono (by omega)) rfl (pa_cons (pv 0) pa_nil)))  (pss_one (ps_ret (pe_join (.cons (pe_fmt (pv 0)) (.cons pe_str (.cons (pe_fmt (pv 1)) (.cons pe_str (.cons (pe_fmt (pv 2)) .nil))))))))), ?_⟩
    walk_at "wp"
    refine ⟨mkS n, rfl, asc_lets hn, by show n.toArray.size ≤ 900; rw [List.size_toArray]; omega, fun H' s' => ?_⟩
    rw [mkS_list, hn]
    refine iteT ?_
    walk_at "wp"
    rw [tx_str, tx_str, empty_app]
    have e := line_eq n k v
    have el := line_len hl hk hv
    have e1 := congrArg Str.length e
    rw [S_len (mkS (lineL n k v)), mkS_list] at e1
    simp only [Str.length_append] at e1 ⊢
    have sl : ∀ m : Nat, m ≤ 600 → m ≤ sizeLine := fun m h => small_of (Nat.le_trans h (by decide))
    refine ⟨sl _ (by omega), sl _ (by omega), sl _ (by omega), log_small hk, ?_⟩
    refine ⟨sl _ ?_, sl _ ?_, log_small hv, sl _ ?_, ?_⟩
    · show _ + (mkS (tx k)).length ≤ 600; omega
    · show _ + (mkS (tx k)).length + _ ≤ 600; omega
    · show _ + (mkS (tx k)).length + _ + (mkS (tx v)).length ≤ 600; omega
    · have := q H' s'
      rw [← e] at this
      exact this
theorem iteP {c : Bool} {a b : Prop} (h : c = true) (q : a) : if c = true then a else b := by rw [if_pos h]; exact q
theorem iteQ {c : Bool} {a b : Prop} (h : c = false) (q : b) : if c = true then a else b := by rw [if_neg (by rw [h]; decide)]; exact q
/-- thing_of -/
def sp_thing (C : Addr) : Sp := fun vs H Q E => ∃ c l, vs = [.int c, .str l] ∧ asc l ∧ l.cps.size ≤ 900 ∧ (∀ n k v, thOf c l = some (n, k, v) → ∀ a H', Same H H' → H' a = some (.tup [.str n, .int k, .int v]) → Q (.ref a) H') ∧ (thOf c l = none → ∀ H', Same H H' → E (.ref C) none H')
theorem sc_thing_of : FnScope ["count", "line", "parts", "keeper"] ["count", "line"] (defScope (top 14)) := ⟨rfl, rfl, rfl, by decide +kernel, rfl, by decide +kernel, by decide +kernel⟩
theorem parts_len (l : Str) (hl : l.cps.size ≤ 900) : (Builtin.Str.partsBetween l (Builtin.Str.occurrences l BL 0 l.length (l.length + 1)) BL.length).length ≤ sizeLine := by
  have h := StrLaws.occ_length_le_len l BL 0 l.length (l.length + 1)
  unfold Builtin.Str.partsBetween
  rw [List.length_map, List.length_zip, List.length_cons]
  have : l.length ≤ 900 := hl
  refine Nat.le_trans (Nat.min_le_left _ _) ?_
  rw [List.length_map]
  exact small_of (by omega)
theorem part_asc {l p : Str} (h : asc l) (hp : p ∈ Txt.split l BL) : asc p ∧ p.cps.size ≤ l.cps.size := by
  have hj := StrLaws.join_split l BL
  constructor
  · unfold asc at *
    rw [← Array.all_toList, List.all_eq_true] at h ⊢
    intro c hc
    refine h c ?_
    rw [← hj, PyProof.Rows.mem_join]
    exact Or.inl ⟨p, hp, hc⟩
  · have := join_mem_le BL (Txt.split l BL) p hp
    rw [hj] at this
    exact this
theorem thQ_len {ls : List (List Nat)} (h : ls.length ≠ 5) : thQ ls = none := by
  unfold thQ
  split
  · exact absurd rfl h
  · rfl
theorem five {ps : List Str} (h : ps.length = 5) : ∃ a b k d v, ps = [a, b, k, d, v] := by
  match ps, h with
  | [a, b, k, d, v], _ => exact ⟨a, b, k, d, v, rfl⟩
theorem at_iff (b : Str) : b = Str.ofString "at" ↔ b.cps.toList = AT := ⟨fun h => by rw [h]; decide +kernel, fun h => S_eq (h.trans (by decide +kernel))⟩
theorem is_iff (b : Str) : b = Str.ofString "is" ↔ b.cps.toList = IS := ⟨fun h => by rw [h]; decide +kernel, fun h => S_eq (h.trans (by decide +kernel))⟩
theorem ixAt {H : Hp} {D : Addr} {xs : List V} {v : V} {Q : VK} (i : Nat) (h : H D = some (.lst xs)) (e : xs[i]? = some v) (q : Q v H) : rIxL K (.ref D) (.int (i : Int)) H Q := rIxL_of (SqL.of h) (atI_nat e) q
theorem ok_thing {f : Addr} {fd : FuncData} {C : Addr} (mg_len : mg "len" = none) (er_NoLine : Er K mg "NoLine" C) (d_check_name : Def1 P w K mg base "check_name" 2 ["name"] (sp_check C)) (d_number_of : Def1 P w K mg base "number_of" 2 ["text"] (sp_number C))
    (F : Fun K "thing_of" "thing_of" (top 14) f fd) : FnOk P w K mg base (CX1 P w) 3 f fd ["count", "line"] (sp_thing C) := by
  refine F.ok1 sc_thing_of (fun vs H Q E h => ?_) (fun cdv A outer s H vs Q E hr h => ?_)
  · obtain ⟨c, l, rfl, _⟩ := h
    rfl
  · obtain ⟨c, l, rfl, ha, hl, q1, q2⟩ := h
    refine ⟨_, (pss_cons (ps_set (i := 2) sc_thing_of.nd rfl (Or.inl rfl) (pe_bm PySem.F.plainAttrs_str PySem.F.slot_str_split PySem.F.type_str_split mt_split (pv 1) (pa_cons pe_str pa_nil)))  (pss_cons (ps_if (PW.pt (pw_or (pt_cmpR op_ne (pe_callB call_len_seq rfl mg_len (by decide +kernel) (pa_cons (pv 2) pa_nil)) pe_int (nomark _)) (pw_or (pt_cmpR op_ne (pe_ix ix_list (pv 2) pe_int (fun _ _ => rfl)) pe_str (nomark _)) (pw_or1 (pt_cmpR op_ne (pe_ix ix_list (pv 2) pe_int (fun _ _ => rfl)) pe_str (nomark _)))))) (pss_one (ps_raise er_NoLine rfl (pa_cons pe_str pa_nil))) pss_nil)  (pss_cons (ps_expr (pe_def1 d_check_name pass1 (hr.mono (by omega)) rfl (pa_cons (pe_ix ix_list (pv 2) pe_int (fun _ _ => rfl)) pa_nil)))  (pss_cons (ps_set (i := 3) sc_thing_of.nd rfl (Or.inl rfl) (pe_def1 d_number_of pass1 (hr.mono (by omega)) rfl (pa_cons (pe_ix ix_list (pv 2) pe_int (fun _ _ => rfl)) pa_nil)))  (pss_cons (ps_if (pt_not (pt_chain op_le op_lt pe_int (pv 3) (pv 0))) (pss_one (ps_raise er_NoLine rfl (pa_cons pe_str pa_nil))) pss_nil)  (pss_one (ps_ret (pe_tup (pa_cons (pe_ix ix_list (pv 2) pe_int (fun _ _ => rfl)) (pa_cons (pv 3) (pa_cons (pe_def1 d_number_of pass1 (hr.mono (by omega)) rfl (pa_cons (pe_ix ix_list (pv 2) pe_int (fun _ _ => rfl)) pa_nil)) pa_nil))))))))))), ?_⟩
    walk_at "wp"
    refine ⟨rfl, l, BL, rfl, rfl, rfl, small_of (Nat.le_trans hl (by decide)), parts_len l hl, fun D hD => ?_⟩
    have s1 : Same H (upd H D (.lst ((Txt.split l BL).map V.str))) := (Same.refl H).new hD
    have hD1 : (upd H D (.lst ((Txt.split l BL).map V.str))) D = some (.lst ((Txt.split l BL).map V.str)) := upd_same
    generalize upd H D (.lst ((Txt.split l BL).map V.str)) = H1 at s1 hD1 ⊢
    have hp := fun p => part_asc (p := p) ha
    unfold thOf at q1 q2
    generalize Txt.split l BL = ps at *
    walk_at "wp"
    refine ⟨_, Or.inl (SqL.of hD1), ?_⟩
    rw [List.length_map]
    by_cases h5 : ps.length = 5
    · refine iteQ (by rw [decide_eq_true (show (ps.length : Int) = 5 by omega)]; rfl) ?_
      obtain ⟨a, b, k, d, v, rfl⟩ := five h5
      simp only [List.map_cons, List.map_nil, thQ] at q1 q2 hD1
      have pa := hp a (by simp)
      have pk := hp k (by simp)
      have pv := hp v (by simp)
      refine ixAt 1 hD1 rfl ⟨rfl, ?_⟩
      by_cases hb : b.cps.toList = AT
      · refine iteQ (by rw [decide_eq_true (congrArg V.str ((at_iff b).mpr hb))]; rfl) ?_
        refine ixAt 3 hD1 rfl ⟨rfl, ?_⟩
        by_cases hd : d.cps.toList = IS
        · refine iteQ (by rw [decide_eq_true (congrArg V.str ((is_iff d).mpr hd))]; rfl) ?_
          refine ixAt 0 hD1 rfl ⟨a, rfl, pa.1, Nat.le_trans pa.2 hl, fun H2 s2 => ?_⟩
          cases hn : lets a.cps.toList with
          | false =>
            refine iteF (q2 ?_ H2 (s1.trans s2))
            rw [if_neg (fun z => by rw [hn] at z; exact absurd z.2.2 (by decide))]
            rfl
          | true =>
            rw [if_pos ⟨hb, hd, hn⟩] at q1 q2
            have hD2 := s2 _ _ hD1
            refine iteT (ixAt 2 hD2 rfl ⟨k, rfl, pk.1, Nat.le_trans pk.2 hl, fun H3 s3 => ?_⟩)
            have s13 := s1.trans (s2.trans s3)
            have hD3 := s3 _ _ hD2
            cases ek : numOf k.cps.toList with
            | none => exact q2 (by rw [ek]; rfl) H3 s13
            | some kk =>
              rw [ek] at q1 q2
              simp only [Option.bind_some] at q1 q2
              refine ⟨kk, rfl, ?_⟩
              by_cases h0 : 0 ≤ kk
              · refine iteP (decide_eq_true h0) ⟨kk, rfl, ?_⟩
                rw [if_pos h0] at q1 q2
                by_cases h1 : kk < c
                · refine iteQ (by rw [decide_eq_true h1]; rfl) (ixAt 0 hD3 rfl (ixAt 4 hD3 rfl ⟨v, rfl, pv.1, Nat.le_trans pv.2 hl, fun H4 s4 => ?_⟩))
                  cases ev : numOf v.cps.toList with
                  | none => exact q2 (by rw [ev]; rfl) H4 (s13.trans s4)
                  | some vv =>
                    intro p hp
                    refine q1 a kk vv (by rw [ev]; simp [h1, mkS_of]) p _ ((s13.trans s4).new hp) upd_same
                · refine iteP (by rw [decide_eq_false h1]; rfl) (q2 ?_ H3 s13)
                  cases numOf v.cps.toList with
                  | none => rfl
                  | some vv => simp [h1]
              · refine iteQ (decide_eq_false h0) (q2 ?_ H3 s13)
                rw [if_neg h0]
                rfl
        · refine iteP (by rw [decide_eq_false (fun z => hd ((is_iff d).mp (V.str.inj z)))]; rfl) (q2 ?_ H1 s1)
          rw [if_neg (fun z => hd z.2.1)]
          rfl
      · refine iteP (by rw [decide_eq_false (fun z => hb ((at_iff b).mp (V.str.inj z)))]; rfl) (q2 ?_ H1 s1)
        rw [if_neg (fun z => hb z.1)]
        rfl
    · refine iteP (by rw [decide_eq_false (show ¬ (ps.length : Int) = 5 by omega)]; rfl) (q2 ?_ H1 s1)
      rw [thQ_len (by rw [List.length_map]; exact h5)]
      rfl
/-- shown -/
def thOk (t : Th) : Prop := ∃ n, t.1 = mkS n ∧ lets n = true ∧ n.length ≤ 300 ∧ t.2.1.natAbs < 10 ^ 100 ∧ t.2.2.natAbs < 10 ^ 100
def lineT (t : Th) : Str := mkS (lineL t.1.cps.toList t.2.1 t.2.2)
def thD (t : Th) : PyData := .tuple [.str t.1, .int t.2.1, .int t.2.2]
def sp_shown : Sp := fun vs H Q _ => ∃ (x : V) (ts : List Th), vs = [x] ∧ Dh H x (.list (ts.map thD)) ∧ ts.length ≤ 900 ∧ (∀ t ∈ ts, thOk t) ∧ ∀ v H', Dh H' v (.list (ts.map fun t => .str (lineT t))) → Same H H' → Q v H'
theorem sc_shown : FnScope ["things"] ["things"] (defScope (top 11)) := ⟨rfl, rfl, rfl, by decide +kernel, rfl, by decide +kernel, by decide +kernel⟩
theorem ok_shown {f : Addr} {fd : FuncData} (d_line_of : Def1 P w K mg base "line_of" 3 ["name", "keeper", "value"] sp_line) (F : Fun K "shown" "shown" (top 11) f fd) : FnOk P w K mg base CX0 4 f fd ["things"] sp_shown := by
  refine F.ok sc_shown (fun vs H Q E h => ?_) (fun cdv A outer s H vs Q E hr h => ?_)
  · obtain ⟨x, ts, rfl, _⟩ := h
    rfl
  · obtain ⟨x, ts, rfl, hx, hl, ht, q⟩ := h
    obtain ⟨a, xs, rfl, hA, hxs⟩ := dh_list hx
    refine ⟨_, (pss_one (ps_ret (pe_lc (own := ["name", "keeper", "value"]) rfl (LcScope.of (by kernel_rfl)) (pi_list (pv 0)) (fun cl C s H fp => ⟨(pg_tupK (K := K) (n := 3) rfl rfl (pgs_cons (pg_name (i := 1) (show List.Nodup (α := Str) ["things", "name", "keeper", "value"] by decide +kernel) rfl (Or.inl rfl)) (pgs_cons (pg_name (i := 2) (show List.Nodup (α := Str) ["things", "name", "keeper", "value"] by decide +kernel) rfl (Or.inl rfl)) (pgs_cons (pg_name (i := 3) (show List.Nodup (α := Str) ["things", "name", "keeper", "value"] by decide +kernel) rfl (Or.inl rfl)) pgs_nil)))), pts_nil, (pe_def1 d_line_of passN (hr.mono (by omega)) rfl (pa_cons (pv 1) (pa_cons (pv 2) (pa_cons (pv 3) pa_nil))))⟩)))), ?_⟩
    walk_at "wp"
    refine ⟨⟨xs, SqL.of hA⟩, fun D hD => ?_⟩
    refine lc_data (xs := xs) hD (fun H' sm => Yields.list (SqL.of (sm _ _ hA))) (by rw [hxs.length, List.length_map]; exact hl) (fun i => .str (lineT (ts.getD i default))) (fun i x H2 R E hx sm hys r => ?_) fun H2 hd sm => ?_
    · obtain ⟨d, g1, g2⟩ := hxs.get hx
      rw [List.getElem?_map] at g1
      obtain ⟨t, ht1, rfl⟩ := Option.map_eq_some_iff.mp g1
      obtain ⟨p, rfl, hp⟩ := flat_tup (g2.same sm.d) rfl
      obtain ⟨n, e1, e2, e3, e4, e5⟩ := ht t (List.mem_of_getElem? ht1)
      refine ⟨p, _, rfl, SqT.of hp, rfl, ?_⟩
      simp only [gCons, gNil, gName, List.map_cons, List.map_nil, scV, List.cons.injEq, exists_eq_left', exists_and_left, exists_eq_left, and_assoc, List.replicate, List.cons_append, List.nil_append, List.set_cons_zero, List.set_cons_succ, List.length_cons, List.length_nil, true_and]
      refine ⟨fun j v h => ?_, ?_⟩
      · match j with
        | 0 => exact h
        | 1 => cases h
        | 2 => cases h
        | 3 => cases h
        | j + 4 => cases h
      · refine iteT (B := E H2) ?_
        refine ⟨_, rfl, _, rfl, _, rfl, n, t.2.1, t.2.2, ?_, e2, e3, e4, e5, fun H3 s3 => ?_⟩
        · rw [← e1]; rfl
        · have := r (.str (lineT t)) H3 (by rw [List.getD_eq_getElem?_getD, ht1]; exact fun _ _ => .str _) s3
          unfold lineT at this
          rw [e1, mkS_list] at this
          exact this
    · rw [hxs.length, List.length_map] at hd
      rw [range_getD ts default fun t => PyData.str (lineT t)] at hd
      exact q _ H2 hd sm
/-- read -/
def lnOk (l : Str) : Prop := asc l ∧ l.cps.size ≤ 900
def sp_read (C : Addr) : Sp := fun vs H Q E => ∃ (c : Int) (x : V) (ls : List Str), vs = [.int c, x] ∧ Dh H x (.list (ls.map .str)) ∧ ls.length ≤ 900 ∧ (∀ l ∈ ls, lnOk l) ∧ (∀ ts, rd c [] ls = some ts → ∀ v H', Dh H' v (.list (ts.map thD)) → Same H H' → Q v H') ∧ (rd c [] ls = none → ∀ H', Same H H' → E (.ref C) none H')
theorem sc_read : FnScope ["count", "lines", "things", "names", "line", "thing"] ["count", "lines"] (defScope (top 12)) := ⟨rfl, rfl, rfl, by decide +kernel, rfl, by decide +kernel, by decide +kernel⟩
def kvsOf (ts : List Th) : List (Key × V) := ts.map fun t => ((Sum.inr t.1 : Key), V.bl true)
theorem kvs_has (ts : List Th) (n : Str) : (valV (kvsOf ts) (Sum.inr n)).isSome = decide (n ∈ ts.map (·.1)) := by
  rw [← valV_any]
  unfold kvsOf
  rw [List.any_map]
  rw [Bool.eq_iff_iff, List.any_eq_true, decide_eq_true_iff, List.mem_map]
  constructor
  · rintro ⟨t, h1, h2⟩
    exact ⟨t, h1, Sum.inr.inj (of_decide_eq_true h2)⟩
  · rintro ⟨t, h1, h2⟩
    exact ⟨t, h1, decide_eq_true (congrArg Sum.inr h2)⟩
theorem thD_noLs : ∀ ts : List Th, noLs (ts.map thD) = true
  | [] => rfl
  | t :: ts => by
    show (noL (thD t) && noLs (ts.map thD)) = true
    rw [thD_noLs ts]
    rfl
theorem rd_step {c : Int} {ls seen : List Str} {l : Str} {i : Nat} (h : ls[i]? = some l) : rd c seen (ls.drop i) = match thOf c l with | none => none | some t => if t.1 ∈ seen then none else (rd c (seen ++ [t.1]) (ls.drop (i + 1))).map (t :: ·) := by
  obtain ⟨hi, e⟩ := List.getElem?_eq_some_iff.mp h
  rw [List.drop_eq_getElem_cons hi, e]
  rfl
theorem ok_read {f : Addr} {fd : FuncData} {C : Addr} (er_NoLine : Er K mg "NoLine" C) (d_thing_of : Def1 P w K mg base "thing_of" 3 ["count", "line"] (sp_thing C)) (F : Fun K "read" "read" (top 12) f fd) : FnOk P w K mg base (CX1 P w) 4 f fd ["count", "lines"] (sp_read C) := by
  refine F.ok1 sc_read (fun vs H Q E h => ?_) (fun cdv A outer s H vs Q E hr h => ?_)
  · obtain ⟨c, x, ls, rfl, _⟩ := h
    rfl
  · obtain ⟨c, x, ls, rfl, hx, hl, ho, q1, q2⟩ := h
    obtain ⟨a, xs, rfl, hA, hxs⟩ := dh_list hx
    have exs : xs = ls.map V.str := by
      have := dhs_flat hxs (by simp [isSc])
      rw [this, List.map_map]
      rfl
    subst exs
    have hu := hu_of hr
    refine ⟨_, (pss_cons (ps_set (i := 2) sc_read.nd rfl (Or.inl rfl) (pe_lst pa_nil))  (pss_cons (ps_set (i := 3) sc_read.nd rfl (Or.inl rfl) pe_dnewK)  (pss_cons (ps_forG PassesOwn.leaving rfl (pi_list (pv 1)) (pg_name (i := 4) sc_read.nd rfl (Or.inl rfl))  (pss_cons (ps_set (i := 5) sc_read.nd rfl (Or.inl rfl) (pe_def1 d_thing_of pass1 (hr.mono (by omega)) rfl (pa_cons (pv 0) (pa_cons (pv 4) pa_nil))))  (pss_cons (ps_if (pt_cmp (pc_din hu (pe_ix ix_tup (pv 5) pe_int (fun _ _ => rfl)) (pv 3))) (pss_one (ps_raise er_NoLine rfl (pa_cons pe_str pa_nil))) pss_nil)  (pss_cons (ps_dput hu (pv 3) (pe_ix ix_tup (pv 5) pe_int (fun _ _ => rfl)) pe_bl rfl)  (pss_one (ps_expr (pe_bm PySem.F.plainAttrs_list PySem.F.slot_list_append PySem.F.type_list_append mt_append (pv 2) (pa_cons (pv 5) pa_nil))))))))  (pss_one (ps_ret (pv 2)))))), ?_⟩
    walk_at "wp"
    intro p hp pq hq
    have nq : pq ≠ p := fun z => by rw [z, upd_same] at hq; cases hq
    have hqH : H pq = none := by rw [upd_ne nq] at hq; exact hq
    have s0 : Same H (upd (upd H p (HO.lst [])) pq (HO.dK [])) := ((Same.refl H).new hp).new hq
    refine ⟨⟨_, SqL.of (s0 _ _ hA)⟩, ?_⟩
    refine for_gen (xs := ls.map V.str) (fun i σ H' => ∃ x4 x5 ts ys, σ = [some (.int c), some (.ref a), some (.ref p), some (.ref pq), x4, x5] ∧ ts.length = i ∧ rd c [] ls = (rd c (ts.map (·.1)) (ls.drop i)).map (ts ++ ·) ∧ H' p = some (.lst ys) ∧ Dhs H' ys (ts.map thD) ∧ H' pq = some (.dK (kvsOf ts)) ∧ Same H H')
      ⟨none, none, [], [], rfl, rfl, ?_, by rw [upd_ne (Ne.symm nq), upd_same], .nil, upd_same, s0⟩ ?_ ?_ ?_
    · simp
    · rintro i σ H' _ ⟨_, _, _, _, _, _, _, _, _, _, s'⟩
      exact Yields.list (SqL.of (s' _ _ hA))
    · rintro i v σ H' hv ⟨x4, x5, ts, ys, rfl, el, er, hP, hys, hQ, s'⟩
      rw [List.getElem?_map] at hv
      obtain ⟨l, hl1, rfl⟩ := Option.map_eq_some_iff.mp hv
      have lo := ho l (List.mem_of_getElem? hl1)
      have li : i < ls.length := (List.getElem?_eq_some_iff.mp hl1).1
      rw [rd_step hl1] at er
      walk_at "wp"
      refine ⟨c, l, rfl, lo.1, lo.2, fun n k v ht a5 H2 s2 h5 => ?_, fun hn H2 s2 => ?_⟩
      · rw [ht] at er
        have hP2 := s2 _ _ hP
        have hQ2 := s2 _ _ hQ
        have s02 := s'.trans s2
        refine rIxT_of (SqT.of h5) (show atI _ ((0 : Nat) : Int) = _ from atI_nat rfl) ?_
        refine ⟨_, DGet.k (k := (Sum.inr n : Key)) hQ2, ?_⟩
        rw [kvs_has]
        by_cases hm : n ∈ ts.map (·.1)
        · refine iteP (decide_eq_true hm) (q2 ?_ H2 s02)
          rw [er]
          dsimp only
          rw [if_pos hm]
          rfl
        · refine iteQ (decide_eq_false hm) ?_
          dsimp only at er
          rw [if_neg hm, Option.map_map] at er
          refine rIxT_of (SqT.of h5) (show atI _ ((0 : Nat) : Int) = _ from atI_nat rfl) ?_
          have lk : (kvsOf ts).length < sizeLine := small1000 (by unfold kvsOf; rw [List.length_map]; omega)
          have hv0 : valV (kvsOf ts) (Sum.inr n : Key) = none := by
            have := kvs_has ts n
            rw [decide_eq_false hm] at this
            exact Option.isSome_eq_false_iff.mp this |> fun h => by simpa using h
          refine ⟨_, DPut.k (k := (Sum.inr n : Key)) hQ2 lk, ?_⟩
          rw [putK_new _ hv0]
          have nqp : p ≠ pq := Ne.symm nq
          have hP3 : (upd H2 pq (HO.dK (kvsOf ts ++ [((Sum.inr n : Key), V.bl true)]))) p = some (.lst ys) := by rw [upd_ne nqp]; exact hP2
          refine ⟨Or.inl ⟨rfl, _, SqL.of hP3⟩, p, ys, _, rfl, rfl, hP3, small1000 (by have := hys.length; rw [List.length_map] at this; omega), ?_⟩
          have n5p : a5 ≠ p := fun z => by rw [z, hP2] at h5; cases h5
          have n5q : a5 ≠ pq := fun z => by rw [z, hQ2] at h5; cases h5
          have tT : ∀ b zs, H2 b = some (.tup zs) → upd (upd H2 pq (HO.dK (kvsOf ts ++ [((Sum.inr n : Key), V.bl true)]))) p (HO.lst (ys ++ [V.ref a5])) b = some (.tup zs) := fun b zs e => by
            rw [upd_ne (fun z => by rw [z, hP2] at e; cases e), upd_ne (fun z => by rw [z, hQ2] at e; cases e)]; exact e
          refine ⟨ts ++ [(n, k, v)], by simp [el], ?_, _, upd_same, ?_, ?_, fun b o e => ?_⟩
          · rw [er]
            simp [Function.comp_def]
          · rw [List.map_append]
            refine ((hys.same s2.d).sameT tT (thD_noLs ts)).snoc ?_
            exact .tup (tT _ _ h5) (.cons (.str _) (.cons (.int _) (.cons (.int _) .nil)))
          · rw [upd_ne nq, upd_same]
            simp [kvsOf]
          · rw [upd_ne (ne_of_none e hp), upd_ne (ne_of_none e hqH)]
            exact s02 _ _ e
      · rw [hn] at er
        exact q2 er H2 (s'.trans s2)
    · rintro σ H' ⟨x4, x5, ts, ys, rfl, el, er, hP, hys, hQ, s'⟩
      rw [List.length_map] at er
      rw [List.drop_length] at er
      walk_at "wp"
      refine q1 ts ?_ _ H' (.lst hP hys) s'
      rw [er]
      simp [rd]

end
end Fb

end

section
set_option maxHeartbeats 4000000
namespace Fb
open PySem L2
local macro_rules | `(tactic| walk_at $x:str) => do
  let ws := x.getString.splitOn " "
  if ws.head! != "wp" then Lean.Macro.throwUnsupported
  let mut hs : Array (Lean.TSyntax `Lean.Parser.Tactic.simpLemma) := #[]
  for z in ws.tail! do
    let ps := z.splitOn ":"
    let mut t : Lean.TSyntax `term := Lean.mkIdent ps.head!.toName
    for p in ps.tail! do
      let a : Lean.TSyntax `term := Lean.mkIdent p.toName
      t ← `($t $a)
    hs := hs.push (← `(Lean.Parser.Tactic.simpLemma| $t:term))
  `(tactic| simp only [cxOf_K, cxOf_A, cxComp_K, cxComp_A, tSeq, tNext, tForG, iRng1, iList, tLst, tAsg, gName, tRet, tRetN, tOp, tVar, tC, rI0, rI, rU, tUn, tChain, tTest, tB, tIfS, tAnd, tOr, tNot, tAndV, tOrV, tNotV, tIsN, tNotN, tCB, tCons, tNil, tCall, rEq, rNe, L2.start, List.map_cons, List.map_nil, List.cons_append, List.nil_append, List.append_nil, List.length_cons, List.length_nil, List.replicate, List.getElem?_cons_zero, List.getElem?_cons_succ, List.set_cons_zero, List.set_cons_succ, Option.some.injEq, V.int.injEq, V.bl.injEq, V.ref.injEq, V.str.injEq, V.ty.injEq, List.cons.injEq, exists_eq_left', exists_and_left, exists_eq_left, and_true, true_and, exists_eq_right, exists_eq_right', Nat.zero_add, Nat.reduceAdd, Nat.reduceSub, and_assoc, ↓reduceIte, Bool.not_true, Bool.not_false, Bool.false_eq_true, Bool.true_and, Bool.false_and, cmul_2, cmul_4, cmul_h, known_bool, known_int, known_str, known_list, known_tuple, known_dict, sT_NoneType_bool, sT_NoneType_int, sT_NoneType_str, sT_NoneType_list, sT_NoneType_tuple, sT_NoneType_dict, sT_bool_bool, sT_bool_int, sT_bool_str, sT_bool_list, sT_bool_tuple, sT_bool_dict, sT_int_bool, sT_int_int, sT_int_str, sT_int_list, sT_int_tuple, sT_int_dict, sT_str_bool, sT_str_int, sT_str_str, sT_str_list, sT_str_tuple, sT_str_dict, sT_list_bool, sT_list_int, sT_list_str, sT_list_list, sT_list_tuple, sT_list_dict, sT_tuple_bool, sT_tuple_int, sT_tuple_str, sT_tuple_list, sT_tuple_tuple, sT_tuple_dict, sT_dict_bool, sT_dict_int, sT_dict_str, sT_dict_list, sT_dict_tuple, sT_dict_dict, tyN_non, tyN_bl, tyN_int, tyN_str, Int.reduceLT, small_of, Nat.reduceLeDiff, scal, not_true_eq_false, not_false_eq_true, reduceCtorEq, decide_true, decide_false, Bool.or_true, Bool.true_or, Bool.or_false, Bool.false_or, Bool.and_true, Bool.and_false, HO.tup.injEq, HO.lst.injEq, tYes, false_and, false_or, or_false, and_false, exists_false, tDNewK, tDrop, sDPut, tDGet, tDIn, tDNotIn, tTup, tBM, tBM0, upd_same, upd_upd, iTup, iStr, tLc, tLcR, gTup, gCons, gNil, Option.isSome_some, Option.isSome_none, Option.getD_some, Option.getD_none, tSl, rSlS, rStarts, rFind, tIf, tFmt, tJoin, tRaise, rIxS, $hs,*])

-- WPMORE tDNewK, tDrop, sDPut, tDGet, tDIn, tDNotIn, tTup, tBM, tBM0, upd_same, upd_upd, iTup, iStr, tLc, tLcR, gTup, gCons, gNil, Option.isSome_some, Option.isSome_none, Option.getD_some, Option.getD_none, tSl, rSlS, rStarts, rFind, tIf, tFmt, tJoin, tRaise, rIxS

seal L2.PE L2.PS L2.PSs L2.PT L2.PW L2.PA L2.PC L2.PG L2.PGs L2.PI L2.PO L2.PPs
section
variable {P : Program} {w : World} {K : PySem.W.Frag} {mg : Str → Option Value} {base : Heap} {C : Addr}
/-- equal data are told so; n: how deep -/
def sp_so (K : PySem.W.Frag) (n : Nat) : Sp := fun vs H Q _ => ∃ x y d, vs = [x, y] ∧ Dh H x d ∧ Dh H y d ∧ d.depth ≤ n ∧ lenOk d ∧ ∀ H', Same H H' → Q (.bl true) H'
def sp_so' (K : PySem.W.Frag) : Nat → Sp
  | 0 => fun _ _ _ _ => False
  | n + 1 => sp_so K n
theorem sc__law_so : FnScope ["_law_found", "_law_meant", "_law_k"] ["_law_found", "_law_meant"] (defScope (top 20)) := ⟨rfl, rfl, rfl, by decide +kernel, rfl, by decide +kernel, by decide +kernel⟩
theorem ok_so {n : Nat} {f : Addr} {fd : FuncData} (mg_isinstance : mg "isinstance" = none) (mg_int : mg "int" = none) (mg_bool : mg "bool" = none) (mg_str : mg "str" = none) (mg_dict : mg "dict" = none) (mg_tuple : mg "tuple" = none) (mg_list : mg "list" = none) (mg_len : mg "len" = none) (mg_range : mg "range" = none)
    (d__law_so : Def P w K mg base "_law_so" n ["_law_found", "_law_meant"] (sp_so' K n)) (F : Fun K "_law_so" "_law_so" (top 20) f fd) : FnOk P w K mg base CX0 (n + 1) f fd ["_law_found", "_law_meant"] (sp_so K n) := by
  refine F.ok sc__law_so (fun vs H Q E h => ?_) (fun cdv A outer s H vs Q E hr h => ?_)
  · obtain ⟨x, y, d, rfl, _⟩ := h
    rfl
  · obtain ⟨x, y, d, rfl, hx, hy, hn, hk, q⟩ := h
    refine ⟨_, (pss_cons (ps_if (pt_cmp (pc_isN (pv 1))) (pss_one (ps_ret (pe_cmp (pc_isN (pv 0))))) pss_nil)  (pss_cons (ps_if (pt_val (pe_callB call_isi rfl mg_isinstance (by decide +kernel) (pa_cons (pv 1) (pa_cons (pe_bltn (v := .ty "bool") rfl mg_bool (by decide +kernel) rfl) pa_nil)))) (pss_one (ps_ret (pe_and (pe_callB call_isi rfl mg_isinstance (by decide +kernel) (pa_cons (pv 0) (pa_cons (pe_bltn (v := .ty "bool") rfl mg_bool (by decide +kernel) rfl) pa_nil))) (pe_one (pe_cmpR op_eq (pv 0) (pv 1) (nomark _)))))) pss_nil)  (pss_cons (ps_if (pt_val (pe_callB call_isi rfl mg_isinstance (by decide +kernel) (pa_cons (pv 1) (pa_cons (pe_bltn (v := .ty "int") rfl mg_int (by decide +kernel) rfl) pa_nil)))) (pss_one (ps_ret (pe_and (pe_callB call_isi rfl mg_isinstance (by decide +kernel) (pa_cons (pv 0) (pa_cons (pe_bltn (v := .ty "int") rfl mg_int (by decide +kernel) rfl) pa_nil))) (pe_and (pe_not (pe_callB call_isi rfl mg_isinstance (by decide +kernel) (pa_cons (pv 0) (pa_cons (pe_bltn (v := .ty "bool") rfl mg_bool (by decide +kernel) rfl) pa_nil)))) (pe_one (pe_cmpR op_eq (pv 0) (pv 1) (nomark _))))))) pss_nil)  (pss_cons (ps_if (pt_val (pe_callB call_isi rfl mg_isinstance (by decide +kernel) (pa_cons (pv 1) (pa_cons (pe_bltn (v := .ty "str") rfl mg_str (by decide +kernel) rfl) pa_nil)))) (pss_one (ps_ret (pe_and (pe_callB call_isi rfl mg_isinstance (by decide +kernel) (pa_cons (pv 0) (pa_cons (pe_bltn (v := .ty "str") rfl mg_str (by decide +kernel) rfl) pa_nil))) (pe_one (pe_cmpR op_eq (pv 0) (pv 1) (nomark _)))))) pss_nil)  (pss_cons (ps_if (pt_val (pe_callB call_isi rfl mg_isinstance (by decide +kernel) (pa_cons (pv 1) (pa_cons (pe_bltn (v := .ty "dict") rfl mg_dict (by decide +kernel) rfl) pa_nil)))) (pss_one ps_never) pss_nil)  (pss_cons (ps_if (pt_cmpR op_ne (pe_callB call_isi rfl mg_isinstance (by decide +kernel) (pa_cons (pv 1) (pa_cons (pe_bltn (v := .ty "tuple") rfl mg_tuple (by decide +kernel) rfl) pa_nil))) (pe_callB call_isi rfl mg_isinstance (by decide +kernel) (pa_cons (pv 0) (pa_cons (pe_bltn (v := .ty "tuple") rfl mg_tuple (by decide +kernel) rfl) pa_nil))) (nomark _)) (pss_one (ps_ret pe_bl)) pss_nil)  (pss_cons (ps_if (PW.pt (pw_or (pt_cmpR op_ne (pe_callB call_isi rfl mg_isinstance (by decide +kernel) (pa_cons (pv 1) (pa_cons (pe_bltn (v := .ty "list") rfl mg_list (by decide +kernel) rfl) pa_nil))) (pe_callB call_isi rfl mg_isinstance (by decide +kernel) (pa_cons (pv 0) (pa_cons (pe_bltn (v := .ty "list") rfl mg_list (by decide +kernel) rfl) pa_nil))) (nomark _)) (pw_or1 (pt_not (pt_val (pe_callB call_isi2 rfl mg_isinstance (by decide +kernel) (pa_cons (pv 1) (pa_cons (pe_tup (pa_cons (pe_bltn (v := .ty "list") rfl mg_list (by decide +kernel) rfl) (pa_cons (pe_bltn (v := .ty "tuple") rfl mg_tuple (by decide +kernel) rfl) pa_nil))) pa_nil)))))))) (pss_one (ps_ret pe_bl)) pss_nil)  (pss_cons (ps_if (pt_cmpR op_ne (pe_callB call_len_seq rfl mg_len (by decide +kernel) (pa_cons (pv 0) pa_nil)) (pe_callB call_len_seq rfl mg_len (by decide +kernel) (pa_cons (pv 1) pa_nil)) (nomark _)) (pss_one (ps_ret pe_bl)) pss_nil)  (pss_cons (ps_forG PassesOwn.never rfl (pi_range1 rfl mg_range (pa_cons (pe_callB call_len_seq rfl mg_len (by decide +kernel) (pa_cons (pv 1) pa_nil)) pa_nil)) (pg_name (i := 2) sc__law_so.nd rfl (Or.inl rfl))  (pss_one (ps_if (pt_not (pt_val (pe_def d__law_so (hr.mono (by omega)) rfl (pa_cons (pe_ix ix_seq (pv 0) (pv 2) (fun _ _ => rfl)) (pa_cons (pe_ix ix_seq (pv 1) (pv 2) (fun _ _ => rfl)) pa_nil))))) (pss_one (ps_ret pe_bl)) pss_nil)))  (pss_one (ps_ret pe_bl))))))))))), ?_⟩
    cases hx with
    | non =>
      cases hy
      walk_at "wp tNever"
      exact q H (Same.refl H)
    | bl b =>
      cases hy
      walk_at "wp tNever"
      exact q H (Same.refl H)
    | int i =>
      cases hy
      walk_at "wp tNever"
      exact q H (Same.refl H)
    | str z =>
      cases hy
      walk_at "wp tNever"
      exact q H (Same.refl H)
    | @lst a xs ds ha hxs =>
      cases hy with
      | @lst b ys _ hb hys =>
      have ta := tyN_lst ha
      have tb := tyN_lst hb
      walk_at "wp tNever ta tb"
      intro p hp
      have na : a ≠ p := ne_of_none ha hp
      have nb : b ≠ p := ne_of_none hb hp
      have s1 : Same H (upd H p (HO.tup [V.ty "list", V.ty "tuple"])) := (Same.refl H).new hp
      generalize upd H p (HO.tup [V.ty "list", V.ty "tuple"]) = H1 at s1 ⊢
      have ha1 := s1 _ _ ha
      have hb1 := s1 _ _ hb
      have tb1 := tyN_lst hb1
      walk_at "wp tNever tb1"
      have el : xs.length = ys.length := by rw [hxs.length, hys.length]
      have hkl : ds.length ≤ 100000 ∧ lensOk ds := by simpa [lenOk] using hk
      have eld := hys.length
      refine ⟨xs, Or.inl (SqL.of ha1), ys, Or.inl (SqL.of hb1), iteNS (by rw [el]) ⟨ys, Or.inl (SqL.of hb1), by omega, by omega, ?_⟩⟩
      rw [Int.toNat_natCast]
      refine for_gen (xs := rngV 0 ys.length) (fun i σ H' => ∃ x2, σ = [some (.ref a), some (.ref b), x2] ∧ Same H1 H') ⟨_, rfl, Same.refl _⟩ (fun _ _ _ _ _ => Yields.range) ?_ ?_
      · rintro i v σ H' hv ⟨x2, rfl, s2⟩
        obtain ⟨hi, rfl⟩ := rngV_at hv
        walk_at "wp"
        have ez : (0 : Int) + (i : Int) = (i : Int) := by omega
        rw [ez]
        have e1 : xs[i]? = some xs[i] := by rw [List.getElem?_eq_getElem (by omega)]
        have e2 : ys[i]? = some ys[i] := by rw [List.getElem?_eq_getElem hi]
        obtain ⟨d1, g1, g2⟩ := hxs.get e1
        obtain ⟨d2, g3, g4⟩ := hys.get e2
        have ed : d1 = d2 := Option.some.inj (g1.symm.trans g3)
        subst ed
        have hm : d1 ∈ ds := List.mem_of_getElem? g1
        refine Or.inl (rIxL_of (SqL.of (s2 _ _ ha1)) (atI_nat e1) ?_)
        refine Or.inl (rIxL_of (SqL.of (s2 _ _ hb1)) (atI_nat e2) ?_)
        have hdep : PyData.depthAll ds + 1 ≤ n := hn
        cases n with
        | zero => omega
        | succ m =>
          have h3 := depth_mem hm
          refine ⟨_, _, d1, rfl, g2.same ((s1.trans s2).d), g4.same ((s1.trans s2).d), by omega, lens_mem hkl.2 hm, fun H3 s3 => ?_⟩
          walk_at "wp"
          exact s2.trans s3
      · rintro σ H' ⟨x2, rfl, s2⟩
        exact q H' (s1.trans s2)
    | @tup a xs ds ha hxs =>
      cases hy with
      | @tup b ys _ hb hys =>
      have ta := tyN_tup ha
      have tb := tyN_tup hb
      walk_at "wp tNever ta tb"
      intro p hp
      have na : a ≠ p := ne_of_none ha hp
      have nb : b ≠ p := ne_of_none hb hp
      have s1 : Same H (upd H p (HO.tup [V.ty "list", V.ty "tuple"])) := (Same.refl H).new hp
      generalize upd H p (HO.tup [V.ty "list", V.ty "tuple"]) = H1 at s1 ⊢
      have ha1 := s1 _ _ ha
      have hb1 := s1 _ _ hb
      have tb1 := tyN_tup hb1
      walk_at "wp tNever tb1"
      have el : xs.length = ys.length := by rw [hxs.length, hys.length]
      have hkl : ds.length ≤ 100000 ∧ lensOk ds := by simpa [lenOk] using hk
      have eld := hys.length
      refine ⟨xs, Or.inr (SqT.of ha1), ys, Or.inr (SqT.of hb1), iteNS (by rw [el]) ⟨ys, Or.inr (SqT.of hb1), by omega, by omega, ?_⟩⟩
      rw [Int.toNat_natCast]
      refine for_gen (xs := rngV 0 ys.length) (fun i σ H' => ∃ x2, σ = [some (.ref a), some (.ref b), x2] ∧ Same H1 H') ⟨_, rfl, Same.refl _⟩ (fun _ _ _ _ _ => Yields.range) ?_ ?_
      · rintro i v σ H' hv ⟨x2, rfl, s2⟩
        obtain ⟨hi, rfl⟩ := rngV_at hv
        walk_at "wp"
        have ez : (0 : Int) + (i : Int) = (i : Int) := by omega
        rw [ez]
        have e1 : xs[i]? = some xs[i] := by rw [List.getElem?_eq_getElem (by omega)]
        have e2 : ys[i]? = some ys[i] := by rw [List.getElem?_eq_getElem hi]
        obtain ⟨d1, g1, g2⟩ := hxs.get e1
        obtain ⟨d2, g3, g4⟩ := hys.get e2
        have ed : d1 = d2 := Option.some.inj (g1.symm.trans g3)
        subst ed
        have hm : d1 ∈ ds := List.mem_of_getElem? g1
        refine Or.inr (Or.inl (rIxT_of (SqT.of (s2 _ _ ha1)) (atI_nat e1) ?_))
        refine Or.inr (Or.inl (rIxT_of (SqT.of (s2 _ _ hb1)) (atI_nat e2) ?_))
        have hdep : PyData.depthAll ds + 1 ≤ n := hn
        cases n with
        | zero => omega
        | succ m =>
          have h3 := depth_mem hm
          refine ⟨_, _, d1, rfl, g2.same ((s1.trans s2).d), g4.same ((s1.trans s2).d), by omega, lens_mem hkl.2 hm, fun H3 s3 => ?_⟩
          walk_at "wp"
          exact s2.trans s3
      · rintro σ H' ⟨x2, rfl, s2⟩
        exact q H' (s1.trans s2)
def sp_whole : Sp := fun vs H Q _ => ∃ v tn, vs = [v] ∧ tyN H v = some tn ∧ Q (.bl (subT tn "int" && !subT tn "bool")) H
theorem sc__law_whole : FnScope ["_law_found"] ["_law_found"] (defScope (top 21)) := ⟨rfl, rfl, rfl, by decide +kernel, rfl, by decide +kernel, by decide +kernel⟩
theorem ok_law_whole {f : Addr} {fd : FuncData} (mg_isinstance : mg "isinstance" = none) (mg_int : mg "int" = none) (mg_bool : mg "bool" = none) (F : Fun K "_law_whole" "_law_whole" (top 21) f fd) : FnOk P w K mg base CX0 1 f fd ["_law_found"] sp_whole := by
  refine F.ok sc__law_whole (fun vs H Q E h => ?_) (fun cdv A outer s H vs Q E hr h => ?_)
  · obtain ⟨v, tn, rfl, _⟩ := h
    rfl
  · obtain ⟨v, tn, rfl, ht, q⟩ := h
    refine ⟨_, (pss_one (ps_ret (pe_and (pe_callB call_isi rfl mg_isinstance (by decide +kernel) (pa_cons (pv 0) (pa_cons (pe_bltn (v := .ty "int") rfl mg_int (by decide +kernel) rfl) pa_nil))) (pe_one (pe_not (pe_callB call_isi rfl mg_isinstance (by decide +kernel) (pa_cons (pv 0) (pa_cons (pe_bltn (v := .ty "bool") rfl mg_bool (by decide +kernel) rfl) pa_nil)))))))), ?_⟩
    walk_at "wp"
    refine ⟨tn, ht, ?_⟩
    cases e : subT tn "int" with
    | true =>
      rw [e, Bool.true_and] at q
      exact iteT ⟨tn, ht, q⟩
    | false =>
      rw [e, Bool.false_and] at q
      exact iteF q
def sp_at (K : PySem.W.Frag) : Sp := fun vs H Q _ => ∃ (a : Addr) (ns : List Int) (k : Nat), vs = [.ref a, .int (k : Int)] ∧ SqL K H a (ns.map V.int) ∧ Q (.int (ns.getD k 0)) H
theorem sc__law_at : FnScope ["_law_script", "_law_k"] ["_law_script", "_law_k"] (defScope (top 22)) := ⟨rfl, rfl, rfl, by decide +kernel, rfl, by decide +kernel, by decide +kernel⟩
theorem ok_at {f : Addr} {fd : FuncData} (mg_len : mg "len" = none) (F : Fun K "_law_at" "_law_at" (top 22) f fd) : FnOk P w K mg base CX0 1 f fd ["_law_script", "_law_k"] (sp_at K) := by
  refine F.ok sc__law_at (fun vs H Q E h => ?_) (fun cdv A outer s H vs Q E hr h => ?_)
  · obtain ⟨a, ns, k, rfl, _⟩ := h
    rfl
  · obtain ⟨a, ns, k, rfl, hS, q⟩ := h
    refine ⟨_, (pss_cons (ps_if (pt_cmpR op_lt (pv 1) (pe_callB call_len_seq rfl mg_len (by decide +kernel) (pa_cons (pv 0) pa_nil)) (nomark _)) (pss_one (ps_ret (pe_ix ix_list (pv 0) (pv 1) (fun _ _ => rfl)))) pss_nil)  (pss_one (ps_ret pe_int))), ?_⟩
    walk_at "wp"
    refine ⟨_, Or.inl hS, ?_⟩
    rw [List.length_map]
    by_cases hk : k < ns.length
    · rw [decide_eq_true (show (k : Int) < (ns.length : Int) by omega)]
      refine iteT (rIxL_of hS (atI_nat (by rw [List.getElem?_map, List.getElem?_eq_getElem hk]; rfl)) ?_)
      rw [List.getD_eq_getElem?_getD, List.getElem?_eq_getElem hk] at q
      exact q
    · rw [decide_eq_false (show ¬ (k : Int) < (ns.length : Int) by omega)]
      refine iteF ?_
      rw [List.getD_eq_getElem?_getD, List.getElem?_eq_none (by omega)] at q
      exact q
/-- the errors' classes, as the top has made them -/
structure Nl (K : PySem.W.Frag) (mg : Str → Option Value) (C FE ND NT NC NA ST : Addr) : Prop where
  er : Er K mg "NoLine" C
  fe : mg "FreshError" = some (.ref FE)
  nd : mg "NoDesk" = some (.ref ND)
  nt : mg "NoThing" = some (.ref NT)
  nc : mg "NoClock" = some (.ref NC)
  na : mg "NoAnswer" = some (.ref NA)
  st : mg "Stopped" = some (.ref ST)
  xh : PySem.W.exmOne K (.ref C) (.ref C) = some true
  xf : PySem.W.exmOne K (.ref C) (.ref FE) = some true
  ec : ExCls K C
  knd : PySem.W.kitOne K (.ref C) (.ref ND) = some false
  knt : PySem.W.kitOne K (.ref C) (.ref NT) = some false
  knc : PySem.W.kitOne K (.ref C) (.ref NC) = some false
  kna : PySem.W.kitOne K (.ref C) (.ref NA) = some false
  kst : PySem.W.kitOne K (.ref C) (.ref ST) = some false
  knl : PySem.W.kitOne K (.ref C) (.ref C) = some true
  kve : PySem.W.kitOne K (.ref C) (.type "ValueError") = some true
def sp_refused : Sp := fun vs H Q _ => ∃ (c : Int) (x : V) (ls : List Str), vs = [.int c, x] ∧ Dh H x (.list (ls.map .str)) ∧ ls.length ≤ 900 ∧ (∀ l ∈ ls, lnOk l) ∧ rd c [] ls = none ∧ ∀ H', Same H H' → Q (.bl true) H'
theorem sc__law_refused : FnScope ["_law_count", "_law_lines"] ["_law_count", "_law_lines"] (defScope (top 23)) := ⟨rfl, rfl, rfl, by decide +kernel, rfl, by decide +kernel, by decide +kernel⟩
theorem ok_refused {f : Addr} {fd : FuncData} {C FE ND NT NC NA ST : Addr} (N : Nl K mg C FE ND NT NC NA ST) (d_read : Def1 P w K mg base "read" 4 ["count", "lines"] (sp_read C)) (F : Fun K "_law_refused" "_law_refused" (top 23) f fd) : FnOk P w K mg base CX0 5 f fd ["_law_count", "_law_lines"] sp_refused := by
  refine F.ok sc__law_refused (fun vs H Q E h => ?_) (fun cdv A outer s H vs Q E hr h => ?_)
  · obtain ⟨c, x, ls, rfl, _⟩ := h
    rfl
  · obtain ⟨c, x, ls, rfl, hx, hl, ho, hn, q⟩ := h
    refine ⟨_, (pss_cons (ps_try rfl rfl (fun pins XE => (pss_one (ps_expr (pe_def1 d_read passT (hr.mono (by omega)) rfl (pa_cons (pv 0) (pa_cons (pv 1) pa_nil)))))))  (pss_one (ps_ret pe_bl))), ?_⟩
    walk_at "wp tTry"
    refine ⟨c, x, ls, rfl, hx, hl, ho, (fun ts e => by rw [hn] at e; cases e), fun _ H' s' => ?_⟩
    exact ⟨_, ph_hit rfl N.er.mg N.xh fun x E => (pss_one (ps_ret pe_bl)), fun σ' => q H' s'⟩
theorem sc__law_under_base : FnScope ["_law_count", "_law_lines", "e", "_law_kinds"] ["_law_count", "_law_lines"] (defScope (top 24)) := ⟨rfl, rfl, rfl, by decide +kernel, rfl, by decide +kernel, by decide +kernel⟩
theorem ok_under {f : Addr} {fd : FuncData} {C_NoLine C_FreshError C_NoDesk C_NoThing C_NoClock C_NoAnswer C_Stopped : Addr} (N : Nl K mg C_NoLine C_FreshError C_NoDesk C_NoThing C_NoClock C_NoAnswer C_Stopped) (mg_isinstance : mg "isinstance" = none) (mg_ValueError : mg "ValueError" = none) (d_read : Def1 P w K mg base "read" 4 ["count", "lines"] (sp_read C_NoLine)) (F : Fun K "_law_under_base" "_law_under_base" (top 24) f fd) : FnOk P w K mg base CX0 5 f fd ["_law_count", "_law_lines"] sp_refused := by
  refine F.ok sc__law_under_base (fun vs H Q E h => ?_) (fun cdv A outer s H vs Q E hr h => ?_)
  · obtain ⟨c, x, ls, rfl, _⟩ := h
    rfl
  · obtain ⟨c, x, ls, rfl, hx, hl, ho, hn, q⟩ := h
    have mg_NoLine := N.er.mg
    have mg_NoDesk := N.nd
    have mg_NoThing := N.nt
    have mg_NoClock := N.nc
    have mg_NoAnswer := N.na
    have mg_Stopped := N.st
    refine ⟨_, (pss_cons (ps_try rfl rfl (fun pins XE => (pss_one (ps_expr (pe_def1 d_read passT (hr.mono (by omega)) rfl (pa_cons (pv 0) (pa_cons (pv 1) pa_nil)))))))  (pss_one (ps_ret pe_bl))), ?_⟩
    walk_at "wp tTry"
    refine ⟨c, x, ls, rfl, hx, hl, ho, (fun ts e => by rw [hn] at e; cases e), fun _ H' s' => ?_⟩
    refine ⟨_, PH.len (ph_as (t := fun x D σ H => (∃ a b d, σ = [a, b, some (.ref x), d]) ∧ ∀ H', Same H H' → D.rt (.bl true) H') (i := 2) rfl N.fe N.xf sc__law_under_base.nd rfl rfl rfl (fun pins x oe E hcl => ?_)), fun σ' hs x hx => ?_⟩
    · refine PSs.mono (pss_cons (ps_set (i := 3) sc__law_under_base.nd rfl (Or.inl rfl) (pe_lst (pa_cons (pe_callB (call_isx (List.mem_append_right _ (List.mem_singleton.mpr rfl)) hcl N.ec) rfl mg_isinstance (by decide +kernel) (pa_cons (pv 2) (pa_cons (pe_glob (v := .ref C_NoDesk) rfl mg_NoDesk rfl) pa_nil))) (pa_cons (pe_callB (call_isx (List.mem_append_right _ (List.mem_singleton.mpr rfl)) hcl N.ec) rfl mg_isinstance (by decide +kernel) (pa_cons (pv 2) (pa_cons (pe_glob (v := .ref C_NoThing) rfl mg_NoThing rfl) pa_nil))) (pa_cons (pe_callB (call_isx (List.mem_append_right _ (List.mem_singleton.mpr rfl)) hcl N.ec) rfl mg_isinstance (by decide +kernel) (pa_cons (pv 2) (pa_cons (pe_glob (v := .ref C_NoClock) rfl mg_NoClock rfl) pa_nil))) pa_nil)))))  (pss_cons (ps_set (i := 3) sc__law_under_base.nd rfl (Or.inl rfl) (pe_op op_cat (pv 3) (pe_lst (pa_cons (pe_callB (call_isx (List.mem_append_right _ (List.mem_singleton.mpr rfl)) hcl N.ec) rfl mg_isinstance (by decide +kernel) (pa_cons (pv 2) (pa_cons (pe_glob (v := .ref C_NoAnswer) rfl mg_NoAnswer rfl) pa_nil))) (pa_cons (pe_callB (call_isx (List.mem_append_right _ (List.mem_singleton.mpr rfl)) hcl N.ec) rfl mg_isinstance (by decide +kernel) (pa_cons (pv 2) (pa_cons (pe_glob (v := .ref C_Stopped) rfl mg_Stopped rfl) pa_nil))) (pa_cons (pe_callB (call_isx (List.mem_append_right _ (List.mem_singleton.mpr rfl)) hcl N.ec) rfl mg_isinstance (by decide +kernel) (pa_cons (pv 2) (pa_cons (pe_glob (v := .ref C_NoLine) rfl mg_NoLine rfl) pa_nil))) pa_nil))))))  (pss_one (ps_ret (pe_and (pe_callB (call_isx (List.mem_append_right _ (List.mem_singleton.mpr rfl)) hcl N.ec) rfl mg_isinstance (by decide +kernel) (pa_cons (pv 2) (pa_cons (pe_bltn (v := .ty "ValueError") rfl mg_ValueError (by decide +kernel) rfl) pa_nil))) (pe_one (pe_cmpR op_eq (pe_bm PySem.F.plainAttrs_list PySem.F.slot_list_count PySem.F.type_list_count mt_count (pv 3) (pa_cons pe_bl pa_nil)) pe_int (nomark _)))))))) (fun D σ H g => ?_)
      obtain ⟨⟨a, b, d, rfl⟩, g⟩ := g
      walk_at "wp"
      refine ⟨_, N.knd, _, N.knt, _, N.knc, fun p hp => ⟨_, N.kna, _, N.kst, _, N.knl, fun r hr2 => ?_⟩⟩
      have nr : r ≠ p := fun z => by rw [z, upd_same] at hr2; cases hr2
      have s2 := ((Same.refl H).new (o := HO.lst [V.bl false, V.bl false, V.bl false]) hp).new (o := HO.lst [V.bl false, V.bl false, V.bl true]) hr2
      refine ⟨p, r, _, _, rfl, rfl, by rw [upd_ne (Ne.symm nr), upd_same], upd_same, small_of (by decide), fun z hz => ⟨_, N.kve, iteT ?_⟩⟩
      refine ⟨Or.inl ⟨rfl, _, SqL.of upd_same⟩, z, [false, false, false, false, false, true], true, rfl, rfl, SqL.of upd_same, rfl, ?_⟩
      have e1 : Spec.countIn (.bool true) ([false, false, false, false, false, true].map PyData.bool) = 1 := by decide +kernel
      rw [e1, decide_eq_true rfl]
      exact g _ (s2.new hz)
    · match σ', hs with
      | [a, b, e, d], _ => exact ⟨⟨a, b, d, rfl⟩, fun H2 s2 => q H2 (s'.trans s2)⟩

end
end Fb

end

section
set_option maxHeartbeats 4000000
namespace Fb
open PySem L2
local macro_rules | `(tactic| walk_at $x:str) => do
  let ws := x.getString.splitOn " "
  if ws.head! != "wp" then Lean.Macro.throwUnsupported
  let mut hs : Array (Lean.TSyntax `Lean.Parser.Tactic.simpLemma) := #[]
  for z in ws.tail! do
    let ps := z.splitOn ":"
    let mut t : Lean.TSyntax `term := Lean.mkIdent ps.head!.toName
    for p in ps.tail! do
      let a : Lean.TSyntax `term := Lean.mkIdent p.toName
      t ← `($t $a)
    hs := hs.push (← `(Lean.Parser.Tactic.simpLemma| $t:term))
  `(tactic| simp only [cxOf_K, cxOf_A, cxComp_K, cxComp_A, tSeq, tNext, tForG, iRng1, iList, tLst, tAsg, gName, tRet, tRetN, tOp, tVar, tC, rI0, rI, rU, tUn, tChain, tTest, tB, tIfS, tAnd, tOr, tNot, tAndV, tOrV, tNotV, tIsN, tNotN, tCB, tCons, tNil, tCall, rEq, rNe, L2.start, List.map_cons, List.map_nil, List.cons_append, List.nil_append, List.append_nil, List.length_cons, List.length_nil, List.replicate, List.getElem?_cons_zero, List.getElem?_cons_succ, List.set_cons_zero, List.set_cons_succ, Option.some.injEq, V.int.injEq, V.bl.injEq, V.ref.injEq, V.str.injEq, V.ty.injEq, List.cons.injEq, exists_eq_left', exists_and_left, exists_eq_left, and_true, true_and, exists_eq_right, exists_eq_right', Nat.zero_add, Nat.reduceAdd, Nat.reduceSub, and_assoc, ↓reduceIte, Bool.not_true, Bool.not_false, Bool.false_eq_true, Bool.true_and, Bool.false_and, cmul_2, cmul_4, cmul_h, known_bool, known_int, known_str, known_list, known_tuple, known_dict, sT_NoneType_bool, sT_NoneType_int, sT_NoneType_str, sT_NoneType_list, sT_NoneType_tuple, sT_NoneType_dict, sT_bool_bool, sT_bool_int, sT_bool_str, sT_bool_list, sT_bool_tuple, sT_bool_dict, sT_int_bool, sT_int_int, sT_int_str, sT_int_list, sT_int_tuple, sT_int_dict, sT_str_bool, sT_str_int, sT_str_str, sT_str_list, sT_str_tuple, sT_str_dict, sT_list_bool, sT_list_int, sT_list_str, sT_list_list, sT_list_tuple, sT_list_dict, sT_tuple_bool, sT_tuple_int, sT_tuple_str, sT_tuple_list, sT_tuple_tuple, sT_tuple_dict, sT_dict_bool, sT_dict_int, sT_dict_str, sT_dict_list, sT_dict_tuple, sT_dict_dict, tyN_non, tyN_bl, tyN_int, tyN_str, Int.reduceLT, small_of, Nat.reduceLeDiff, scal, not_true_eq_false, not_false_eq_true, reduceCtorEq, decide_true, decide_false, Bool.or_true, Bool.true_or, Bool.or_false, Bool.false_or, Bool.and_true, Bool.and_false, HO.tup.injEq, HO.lst.injEq, tYes, false_and, false_or, or_false, and_false, exists_false, tDNewK, tDrop, sDPut, tDGet, tDIn, tDNotIn, tTup, tBM, tBM0, upd_same, upd_upd, iTup, iStr, tLc, tLcR, gTup, gCons, gNil, Option.isSome_some, Option.isSome_none, Option.getD_some, Option.getD_none, tSl, rSlS, rStarts, rFind, tIf, tFmt, tJoin, tRaise, rIxS, $hs,*])

-- WPMORE tDNewK, tDrop, sDPut, tDGet, tDIn, tDNotIn, tTup, tBM, tBM0, upd_same, upd_upd, iTup, iStr, tLc, tLcR, gTup, gCons, gNil, Option.isSome_some, Option.isSome_none, Option.getD_some, Option.getD_none, tSl, rSlS, rStarts, rFind, tIf, tFmt, tJoin, tRaise, rIxS

seal L2.PE L2.PS L2.PSs L2.PT L2.PW L2.PA L2.PC L2.PG L2.PGs L2.PI L2.PO L2.PPs
section
variable {P : Program} {w : World} {K : PySem.W.Frag} {mg : Str → Option Value} {base : Heap} {C : Addr}
theorem rd_at {σ : St} {H0 : Hp} {i k : Nat} {a : Addr} {ns : List Int} (hi : σ[i]? = some (some (.ref a))) (hS : SqL K H0 a (ns.map V.int)) : Rd1 (tCall (sp_at K) [] E0 (tCons (tVar i) (tCons (tC (.int (k : Int))) tNil))) σ H0 (.int (ns.getD k 0)) := fun H Q s q =>
  ⟨_, hi, a, ns, k, rfl, s.seq hS, q _ H (.int _) (Same.refl H)⟩
/-! what the law draws -/
def cnt12 (ns : List Int) : Int := 1 + ns.getD 0 0 * 48271 % 1013 % 12
def j4 (x : Int) : Nat := (x * 48271 % 1039 % 4).toNat
def some12 (x : Int) : List Int := [0, -1, 10, x % 10 ^ 60, 0 - x % 10 ^ 60, x * 48271 % 1021 % 999]
def val12 (x : Int) : Int := (some12 x).getD (x * 48271 % 1019 % 6).toNat 0
def th12 (ns : List Int) (k : Nat) : Th := (mkS (nm k (j4 (ns.getD k 0))), ns.getD k 0 * 48271 % 1031 % cnt12 ns, val12 (ns.getD k 0))
theorem cnt_pos (ns : List Int) : 0 < cnt12 ns ∧ cnt12 ns ≤ 12 := by unfold cnt12; omega
theorem j4_lt (x : Int) : j4 x < 4 := by unfold j4; omega
theorem small_val (x : Int) : ∀ v ∈ some12 x, v.natAbs < 10 ^ 100 := by
  have h1 := Int.emod_nonneg x (show (10 : Int) ^ 60 ≠ 0 by decide)
  have h2 := Int.emod_lt_of_pos x (show (0 : Int) < 10 ^ 60 by decide)
  have h3 : (10 : Int) ^ 60 < 10 ^ 100 := by decide
  have h4 : (999 : Int) < 10 ^ 100 := by decide
  intro v hv
  unfold some12 at hv
  simp only [List.mem_cons, List.not_mem_nil, or_false] at hv
  generalize (10 : Int) ^ 60 = b at *
  have hb : ((10 ^ 100 : Nat) : Int) = (10 : Int) ^ 100 := by decide
  generalize (10 : Int) ^ 100 = B at *
  generalize 10 ^ 100 = N at *
  rcases hv with rfl | rfl | rfl | rfl | rfl | rfl <;> omega
theorem val_small (x : Int) : (val12 x).natAbs < 10 ^ 100 := by
  unfold val12
  rw [List.getD_eq_getElem?_getD, List.getElem?_eq_getElem (show (x * 48271 % 1019 % 6).toNat < (some12 x).length by show _ < 6; omega)]
  exact small_val x _ (List.getElem_mem _)
theorem th_ok (ns : List Int) {k : Nat} (hk : k < 63) : thOk (th12 ns k) := by
  have h := cnt_pos ns
  refine ⟨_, rfl, nm_lets ⟨k, hk⟩ ⟨_, j4_lt _⟩, Nat.le_trans (nm_len ⟨k, hk⟩ ⟨_, j4_lt _⟩) (by decide), ?_, val_small _⟩
  have h1 := Int.emod_nonneg (ns.getD k 0 * 48271 % 1031) (show cnt12 ns ≠ 0 by omega)
  have h2 := Int.emod_lt_of_pos (ns.getD k 0 * 48271 % 1031) h.1
  show (ns.getD k 0 * 48271 % 1031 % cnt12 ns).natAbs < 10 ^ 100
  refine Nat.lt_of_le_of_lt (show _ ≤ 12 by omega) (by decide)
theorem th_read (ns : List Int) {k : Nat} (hk : k < 63) : thOf (cnt12 ns) (lineT (th12 ns k)) = some (th12 ns k) := by
  have h := cnt_pos ns
  unfold lineT
  exact th_line (nm_lets ⟨k, hk⟩ ⟨_, j4_lt _⟩) (Int.emod_nonneg _ (by omega)) (Int.emod_lt_of_pos _ h.1)
def ths (ns : List Int) : List Th := (List.range (ns.length - 1)).map fun i => th12 ns (i + 1)
theorem ths_len (ns : List Int) : (ths ns).length = ns.length - 1 := by simp [ths]
theorem ths_mem {ns : List Int} (hl : ns.length ≤ 63) {t : Th} (h : t ∈ ths ns) : ∃ k, k < 63 ∧ t = th12 ns k := by
  obtain ⟨i, hi, rfl⟩ := List.mem_map.mp h
  rw [List.mem_range] at hi
  exact ⟨i + 1, by omega, rfl⟩
theorem ths_rd {ns : List Int} (hl : ns.length ≤ 63) : rd (cnt12 ns) [] ((ths ns).map lineT) = some (ths ns) := by
  refine rd_make ?_ ?_ (fun _ _ z => nomatch z)
  · rw [List.map_map]
    refine List.map_congr_left fun t ht => ?_
    obtain ⟨k, hk, rfl⟩ := ths_mem hl ht
    exact th_read ns hk
  · unfold ths
    rw [List.map_map]
    refine List.Pairwise.map _ (R := fun a b : Nat => a < b ∧ b < 62) (fun a b h z => ?_) ?_
    · have z : mkS (nm (a + 1) (j4 (ns.getD (a + 1) 0))) = mkS (nm (b + 1) (j4 (ns.getD (b + 1) 0))) := z
      have z := congrArg (fun s : Str => s.cps.toList) z
      have := nm_ne (k := a + 1) (k' := b + 1) (by omega) (by omega) (j4_lt _) (j4_lt _) z
      omega
    · have h1 := List.pairwise_lt_range (n := ns.length - 1)
      rw [List.pairwise_iff_getElem] at h1 ⊢
      intro i j hi hj hij
      refine ⟨h1 i j hi hj hij, ?_⟩
      rw [List.getElem_range]
      rw [List.length_range] at hj
      omega
/-! texts of the law -/
theorem mul_rep {c : Nat} {n : Int} (h : n = 1 ∨ n = 2 ∨ n = 3) : Txt.mul ⟨#[c]⟩ n = mkS (List.replicate n.toNat c) := by
  rcases h with rfl | rfl | rfl <;> rfl
theorem mul_ok1 {c : Nat} {n : Int} (h : n = 1 ∨ n = 2 ∨ n = 3) : MulOk ⟨#[c]⟩ n := by
  unfold MulOk
  rw [show (⟨#[c]⟩ : Str).length = 1 from rfl]
  rcases h with rfl | rfl | rfl <;> decide
theorem mul_zbc : Txt.mul (Str.ofString "zbc") 12 = mkS (sfx 3) := by decide +kernel
theorem mul_zbc_ok : MulOk (Str.ofString "zbc") 12 := by unfold MulOk; decide +kernel
theorem mul_0_ok : MulOk (Str.ofString "0") 60 := by unfold MulOk; decide +kernel
theorem ten60 : intText? (Str.ofString "1" ++ Txt.mul (Str.ofString "0") 60) = some (10 ^ 60) := by decide +kernel
theorem ten60_len : (Str.ofString "1" ++ Txt.mul (Str.ofString "0") 60).length ≤ 640 := by decide +kernel
theorem ten60_add : (Str.ofString "1").length + (Txt.mul (Str.ofString "0") 60).length ≤ sizeLine := by decide +kernel
theorem abc_at {k : Nat} : atI (Str.ofString "abcdefghijklmnopqrstuvwxyz").cps.toList ((k % 26 : Nat) : Int) = some (97 + k % 26) := by
  have : ∀ m : Fin 26, atI (Str.ofString "abcdefghijklmnopqrstuvwxyz").cps.toList ((m.val : Nat) : Int) = some (97 + m.val) := by decide +kernel
  exact this ⟨k % 26, Nat.mod_lt _ (by decide)⟩
def sp_law (K : PySem.W.Frag) : Sp := fun vs H Q _ => ∃ (a : Addr) (ns : List Int), vs = [.ref a] ∧ SqL K H a (ns.map V.int) ∧ ns.length ≤ 63 ∧ ∀ H', Q (.bl true) H'
theorem sc_law : FnScope ["_law_script", "_law_count", "_law_things", "_law_lines", "_law_k", "_law_cell", "_law_name", "_law_large", "_law_some", "_law_value", "_law_found", "_law_back", "_law_one", "_law_bad", "_law_spot", "_law_text"] ["_law_script"] (defScope (top 25)) := ⟨rfl, rfl, rfl, by decide +kernel, rfl, by decide +kernel, by decide +kernel⟩
theorem seq_rng2 {σ : St} {H : Hp} {ta : TA} {g : TG} {tb rest : TS} {D : Ends} {i j : Int} (ha : RdA ta σ H [.int i, .int j]) (hb : -(2 ^ 62) ≤ i ∧ i < 2 ^ 62 ∧ -(2 ^ 62) ≤ j ∧ j < 2 ^ 62) (q : ∀ H', Same H H' → ForW (Itr i (j - i).toNat) g tb { D with nx := rest D } σ H') : tSeq (tForG (iRng2 ta) g tb) rest D σ H :=
  ha H _ (Same.refl H) fun vs H1 hv s1 => by
    obtain ⟨x, y, rfl, h1, h2⟩ := dhs2 hv
    obtain rfl := dh_int h1
    obtain rfl := dh_int h2
    exact ⟨i, j, rfl, hb, q H1 s1⟩
theorem seq_rng1 {σ : St} {H : Hp} {ta : TA} {g : TG} {tb rest : TS} {D : Ends} {m : Nat} (ha : RdA ta σ H [.int (m : Int)]) (hb : m ≤ 1000) (q : ∀ H', Same H H' → ForW (Itr 0 m) g tb { D with nx := rest D } σ H') : tSeq (tForG (iRng1 ta) g tb) rest D σ H :=
  ha H _ (Same.refl H) fun vs H1 hv s1 => by
    obtain ⟨w, r, rfl, g1, hv⟩ := Dhs.one hv
    obtain rfl := Dhs.none hv
    obtain rfl := dh_int g1
    refine ⟨m, rfl, by omega, by omega, ?_⟩
    rw [Int.toNat_natCast]
    exact q H1 s1
def tD (ns : List Int) (i : Nat) : List PyData := (List.range i).map fun j => thD (th12 ns (j + 1))
def lD (ns : List Int) (i : Nat) : List PyData := (List.range i).map fun j => .str (lineT (th12 ns (j + 1)))
theorem tD_len (ns : List Int) (i : Nat) : (tD ns i).length = i := by simp [tD]
theorem lD_len (ns : List Int) (i : Nat) : (lD ns i).length = i := by simp [lD]
theorem tD_succ (ns : List Int) (i : Nat) : tD ns (i + 1) = tD ns i ++ [thD (th12 ns (i + 1))] := by simp [tD, List.range_succ]
theorem lD_succ (ns : List Int) (i : Nat) : lD ns (i + 1) = lD ns i ++ [.str (lineT (th12 ns (i + 1)))] := by simp [lD, List.range_succ]
/-- the name, put together -/
theorem nm_put (k j : Nat) : mkS (List.replicate (1 + k / 26) (97 + k % 26)) ++ mkS (sfx j) = mkS (nm k j) := S_eq (by rw [PyProof.Rows.cps_toList_append]; rfl)
theorem mkS_len (l : List Nat) : (mkS l).length = l.length := by rw [S_len]; rfl
theorem sfx_len (j : Nat) : (sfx j).length ≤ 36 := by
  match j with
  | 0 => decide
  | 1 => decide
  | 2 => decide
  | j + 3 => exact (show (sfx 3).length ≤ 36 by decide)
theorem rep_len {k : Nat} (hk : k < 63) : (List.replicate (1 + k / 26) (97 + k % 26)).length ≤ 3 := by rw [List.length_replicate]; omega
theorem sfx_at (j : Nat) (h : j < 4) : ([PyData.str (Str.ofString ""), .str (Str.ofString "zy"), .str (Str.ofString "yoats"), .str (mkS (sfx 3))] : List PyData)[j]? = some (.str (mkS (sfx j))) := by
  have : ∀ j : Fin 4, [Str.ofString "", Str.ofString "zy", Str.ofString "yoats", mkS (sfx 3)][j.val]? = some (mkS (sfx j.val)) := by decide +kernel
  have e := this ⟨j, h⟩
  have e2 := congrArg (Option.map PyData.str) e
  rw [← List.getElem?_map] at e2
  exact e2
/-! looks -/
def tyD : PyData → Option String
  | .none => some "NoneType"
  | .bool _ => some "bool"
  | .int _ => some "int"
  | .str _ => some "str"
  | .list _ => some "list"
  | .tuple _ => some "tuple"
  | _ => none
theorem tyN_dh {H : Hp} {v : V} {d : PyData} {tn : String} (h : Dh H v d) (e : tyD d = some tn) : tyN H v = some tn := by
  cases h with
  | non => exact e
  | bl b => exact e
  | int i => exact e
  | str z => exact e
  | lst h1 _ => rw [tyN_lst h1]; exact e
  | tup h1 _ => rw [tyN_tup h1]; exact e
theorem rd_isi {σ : St} {H0 : Hp} {ta : TE} {d : PyData} {tn n : String} (h : Rd1 ta σ H0 d) (e : tyD d = some tn) (hn : n ∈ knownT) : Rd1 (tCB (fun xs H Q => ∃ x n tn, xs = [x, V.ty n] ∧ tyN H x = some tn ∧ n ∈ knownT ∧ Q (.bl (subT tn n)) H) (tCons ta (tCons (tC (.ty n)) tNil))) σ H0 (.bool (subT tn n)) := fun H Q s q =>
  h H _ s fun v H1 hv s1 => ⟨v, n, tn, rfl, tyN_dh hv e, hn, q _ H1 (.bl _) s1⟩
theorem rd_neI {σ : St} {H0 : Hp} {ta tb : TE} {i j : Int} (ha : Rd1 ta σ H0 (.int i)) (hb : Rd1 tb σ H0 (.int j)) : Rd1 (tOp rNe ta tb) σ H0 (.bool (!decide (i = j))) := fun H Q s q =>
  ha H _ s fun v H1 hv s1 => hb H1 _ (s.trans s1) fun u H2 hu s2 => by
    obtain rfl := dh_int hv
    obtain rfl := dh_int hu
    refine ⟨rfl, ?_⟩
    rw [show decide (V.int i = V.int j) = decide (i = j) from by simp]
    exact q _ H2 (.bl _) (s1.trans s2)
theorem rd_neS {σ : St} {H0 : Hp} {ta tb : TE} {i j : Str} (ha : Rd1 ta σ H0 (.str i)) (hb : Rd1 tb σ H0 (.str j)) : Rd1 (tOp rNe ta tb) σ H0 (.bool (!decide (i = j))) := fun H Q s q =>
  ha H _ s fun v H1 hv s1 => hb H1 _ (s.trans s1) fun u H2 hu s2 => by
    obtain rfl := dh_str hv
    obtain rfl := dh_str hu
    refine ⟨rfl, ?_⟩
    rw [show decide (V.str i = V.str j) = decide (i = j) from by simp]
    exact q _ H2 (.bl _) (s1.trans s2)
theorem rd_whole {σ : St} {H0 : Hp} {te : TE} {i : Int} (h : Rd1 te σ H0 (.int i)) : Rd1 (tCall sp_whole [] E0 (tCons te tNil)) σ H0 (.bool true) := fun H Q s q =>
  h H _ s fun v H1 hv s1 => by
    obtain rfl := dh_int hv
    exact ⟨_, "int", rfl, rfl, q _ H1 (.bl _) s1⟩
theorem rd_so {σ : St} {H0 : Hp} {ta : TA} {n : Nat} {d : PyData} (ha : RdA ta σ H0 [d, d]) (hd : d.depth ≤ n) (hl : lenOk d) : Rd1 (tCall (sp_so K n) [] E0 ta) σ H0 (.bool true) := rd_sp _ ha fun vs H Q hv q => by
  obtain ⟨x, y, rfl, g1, g2⟩ := dhs2 hv
  exact ⟨x, y, d, rfl, g1, g2, hd, hl, fun H' s => q _ H' (.bl true) s⟩
theorem rd_lenT {σ : St} {H0 : Hp} {te : TE} {ds : List PyData} (he : Rd1 te σ H0 (.tuple ds)) : Rd1 (tCB (fun xs H Q => ∃ p ys, xs = [V.ref p] ∧ (SqL K H p ys ∨ SqT K H p ys) ∧ Q (.int ys.length) H) (tCons te tNil)) σ H0 (.int ds.length) := fun H Q s q =>
  he H _ s fun v H1 hv s1 => by
    obtain ⟨A, xs, rfl, h2, h3⟩ : ∃ A xs, v = .ref A ∧ H1 A = some (.tup xs) ∧ Dhs H1 xs ds := by cases hv with | tup h1 h2 => exact ⟨_, _, rfl, h1, h2⟩
    refine ⟨A, xs, rfl, Or.inr (SqT.of h2), ?_⟩
    rw [h3.length]
    exact q _ H1 (.int _) s1
theorem rd_shown {σ : St} {H0 : Hp} {ta : TA} {ts : List Th} (ha : RdA ta σ H0 [.list (ts.map thD)]) (hl : ts.length ≤ 900) (ht : ∀ t ∈ ts, thOk t) : Rd1 (tCall sp_shown [] E0 ta) σ H0 (.list ((ts.map lineT).map .str)) := rd_sp _ ha fun vs H Q hv q => by
  obtain ⟨x, r, rfl, g1, hv⟩ := Dhs.one hv
  obtain rfl := Dhs.none hv
  refine ⟨x, ts, rfl, g1, hl, ht, fun v H' h s => q v H' ?_ s⟩
  rw [List.map_map]
  exact h
theorem rd_readS {σ : St} {H0 : Hp} {C : Addr} {ta : TA} {c : Int} {ls : List Str} {ts : List Th} (ha : RdA ta σ H0 [.int c, .list (ls.map .str)]) (hl : ls.length ≤ 900) (ho : ∀ l ∈ ls, lnOk l) (h : rd c [] ls = some ts) : Rd1 (tCall (sp_read C) [] (fun _ _ _ => False) ta) σ H0 (.list (ts.map thD)) := rd_sp _ ha fun vs H Q hv q => by
  obtain ⟨x, y, rfl, g1, g2⟩ := dhs2 hv
  obtain rfl := dh_int g1
  refine ⟨c, y, ls, rfl, g2, hl, ho, fun us e v H' hv s => q v H' ?_ s, fun e => ?_⟩
  · rw [h] at e
    obtain rfl := Option.some.inj e
    exact hv
  · rw [h] at e; cases e
theorem rd_refused {σ : St} {H0 : Hp} {ta : TA} {c : Int} {ls : List Str} (ha : RdA ta σ H0 [.int c, .list (ls.map .str)]) (hl : ls.length ≤ 900) (ho : ∀ l ∈ ls, lnOk l) (h : rd c [] ls = none) : Rd1 (tCall sp_refused [] E0 ta) σ H0 (.bool true) := rd_sp _ ha fun vs H Q hv q => by
  obtain ⟨x, y, rfl, g1, g2⟩ := dhs2 hv
  obtain rfl := dh_int g1
  exact ⟨c, y, ls, rfl, g2, hl, ho, h, fun H' s => q _ H' (.bl true) s⟩
/-- a cut of a list -/
theorem Dhs.drop {H : Hp} : ∀ {xs : List V} {ds : List PyData} (n : Nat), Dhs H xs ds → Dhs H (xs.drop n) (ds.drop n)
  | _, _, 0, h => by simpa using h
  | _, _, n + 1, .nil => by simpa using Dhs.nil
  | _, _, n + 1, .cons _ h => by simpa using Dhs.drop n h
theorem cut_drop (xs : List V) {k : Nat} (h : k ≤ xs.length) : cutV xs (some (k : Int)) none = xs.drop k := by
  unfold cutV HT.sIx
  have : ¬ (k : Int) < 0 := by omega
  simp only [this, if_false]
  rw [show min ((k : Int).toNat) xs.length = k by omega]
  exact List.take_of_length_le (by rw [List.length_drop]; omega)
theorem rd_takeV {σ : St} {H0 : Hp} {i j k : Nat} {A : Addr} {xs : List V} {ds : List PyData} (hi : σ[i]? = some (some (.ref A))) (hj : σ[j]? = some (some (.int (k : Int)))) (hA : H0 A = some (.lst xs)) (hx : Dhs H0 xs ds) : Rd1 (tSl (rSlL K) (tVar i) tNoPart (tPart (tVar j))) σ H0 (.list (ds.take k)) := fun H Q s q => by
  refine ⟨_, hi, ?_⟩
  refine ⟨_, hj, _, rfl, A, xs, rfl, SqL.of (s _ _ hA), fun p hp => ?_⟩
  rw [cut_take]
  exact q _ _ (.lst upd_same ((Dhs.take k (hx.same s.d)).same ((Same.refl H).new hp).d)) ((Same.refl H).new hp)
theorem rd_dropV {σ : St} {H0 : Hp} {i j k : Nat} {A : Addr} {xs : List V} {ds : List PyData} (hi : σ[i]? = some (some (.ref A))) (hj : σ[j]? = some (some (.int (k : Int)))) (hA : H0 A = some (.lst xs)) (hx : Dhs H0 xs ds) (hk : k ≤ ds.length) : Rd1 (tSl (rSlL K) (tVar i) (tPart (tVar j)) tNoPart) σ H0 (.list (ds.drop k)) := fun H Q s q => by
  refine ⟨_, hi, ?_⟩
  refine ⟨_, hj, _, rfl, A, xs, rfl, SqL.of (s _ _ hA), fun p hp => ?_⟩
  rw [cut_drop _ (by rw [hx.length]; exact hk)]
  exact q _ _ (.lst upd_same ((Dhs.drop k (hx.same s.d)).same ((Same.refl H).new hp).d)) ((Same.refl H).new hp)
theorem th_depth (t : Th) : (thD t).depth ≤ 1 := Nat.le_refl 1
theorem th_lenOk (t : Th) : lenOk (thD t) := ⟨by show 3 ≤ 100000; decide, trivial, trivial, trivial, trivial⟩
/-! the lines, good and bad -/
theorem asc_of {l : List Nat} (h : ∀ c ∈ l, c < 128) : asc (mkS l) := by
  unfold asc
  rw [← Array.all_toList, List.all_eq_true]
  exact fun c hc => decide_eq_true (h c hc)
theorem tx_asc {i : Int} {c : Nat} (h : c ∈ tx i) : c < 128 := by
  rcases tx_mem h with h | h <;> omega
theorem line_asc {n : List Nat} {k v : Int} (hn : lets n = true) : ∀ c ∈ lineL n k v, c < 128 := by
  intro c hc
  have h0 : ∀ c ∈ n, c < 128 := fun c hc => by
    unfold lets at hn
    rw [Bool.and_eq_true] at hn
    have := of_decide_eq_true (List.all_eq_true.mp hn.2 c hc)
    omega
  unfold lineL at hc
  simp only [jl, List.mem_append, List.mem_cons] at hc
  rcases hc with h | rfl | h | rfl | h | rfl | h | rfl | h
  · exact h0 c h
  · decide
  · have : ∀ c ∈ AT, c < 128 := by decide
    exact this c h
  · decide
  · exact tx_asc h
  · decide
  · have : ∀ c ∈ IS, c < 128 := by decide
    exact this c h
  · decide
  · exact tx_asc h
theorem line_ok {n : List Nat} {k v : Int} (hn : lets n = true) (hl : n.length ≤ 300) (hk : k.natAbs < 10 ^ 100) (hv : v.natAbs < 10 ^ 100) : lnOk (mkS (lineL n k v)) :=
  ⟨asc_of (line_asc hn), by show (lineL n k v).toArray.size ≤ 900; rw [List.size_toArray]; exact Nat.le_trans (line_len hl hk hv) (by decide)⟩
theorem lineT_ok {t : Th} (h : thOk t) : lnOk (lineT t) := by
  obtain ⟨n, e1, e2, e3, e4, e5⟩ := h
  unfold lineT
  rw [e1, mkS_list]
  exact line_ok e2 e3 e4 e5
theorem bad_ok : ∀ p ∈ badP ++ badP2, (∀ c ∈ jl 32 p, c < 128) ∧ (jl 32 p).length ≤ 900 := by decide +kernel
theorem bad_lnOk {p : List (List Nat)} (h : p ∈ badP ++ badP2) : lnOk (mkS (jl 32 p)) :=
  ⟨asc_of (bad_ok p h).1, by show (jl 32 p).toArray.size ≤ 900; rw [List.size_toArray]; exact (bad_ok p h).2⟩
def bads (c : Int) (lines : List Str) : List Str := (badP.map fun p => mkS (jl 32 p)) ++ [mkS (lineL OATS c 1)] ++ (badP2.map fun p => mkS (jl 32 p)) ++ lines.take 1
theorem bad_lits : [Str.ofString "", Str.ofString "oats", Str.ofString "oats at 0 is", Str.ofString "oats at 0 is ", Str.ofString " oats at 0 is 1", Str.ofString "oats at 0 is 1 ", Str.ofString "oats  at 0 is 1", Str.ofString "Oats at 0 is 1", Str.ofString "oats1 at 0 is 1", Str.ofString "oats is 0 at 1",
    Str.ofString "oats at 00 is 1", Str.ofString "oats at -1 is 1", Str.ofString "oats at 0 is 01", Str.ofString "oats at 0 is -0", Str.ofString "oats at 0 is +1", Str.ofString "oats at x is 1", Str.ofString "oats at 0 is --1", Str.ofString "oats at 0 is 1 2"] = badP.map fun p => mkS (jl 32 p) := by decide +kernel
theorem bad_lits2 : [Str.ofString " at 0 is 1", Str.ofString "oats at 0 at 1", Str.ofString "oats is 0 is 1"] = badP2.map fun p => mkS (jl 32 p) := by decide +kernel
theorem oats_line (c : Int) : Str.ofString "oats at " ++ mkS (tx c) ++ Str.ofString " is 1" = mkS (lineL OATS c 1) := by
  apply S_eq
  rw [PyProof.Rows.cps_toList_append, PyProof.Rows.cps_toList_append, mkS_list, mkS_list, show (Str.ofString "oats at ").cps.toList = [111, 97, 116, 115, 32, 97, 116, 32] from by decide +kernel, show (Str.ofString " is 1").cps.toList = [32, 105, 115, 32, 49] from by decide +kernel]
  unfold lineL
  rw [show tx 1 = [49] from dg_small (by decide)]
  simp [jl, AT, IS, OATS]
theorem bads_ok {c : Int} {lines : List Str} (hc : c.natAbs < 10 ^ 100) (ho : ∀ l ∈ lines, lnOk l) : ∀ b ∈ bads c lines, lnOk b := by
  intro b hb
  unfold bads at hb
  simp only [List.mem_append, List.mem_map, List.mem_singleton] at hb
  rcases hb with ((⟨p, hp, rfl⟩ | rfl) | ⟨p, hp, rfl⟩) | h
  · exact bad_lnOk (List.mem_append_left _ hp)
  · exact line_ok (by decide) (by decide) hc (by decide)
  · exact bad_lnOk (List.mem_append_right _ hp)
  · exact ho b (List.mem_of_mem_take h)
theorem bads_no {c : Int} {lines : List Str} {k : Nat} {b : Str} (hb : b ∈ bads c lines) : rd c [] (lines.take k ++ [b] ++ lines.drop k) = none := by
  unfold bads at hb
  simp only [List.mem_append, List.mem_map, List.mem_singleton] at hb
  have hm : b ∈ lines.take k ++ [b] ++ lines.drop k := by simp
  rcases hb with ((⟨p, hp, rfl⟩ | rfl) | ⟨p, hp, rfl⟩) | h
  · exact rd_bad hm (th_bad (List.mem_append_left _ hp))
  · exact rd_bad hm th_count
  · exact rd_bad hm (th_bad (List.mem_append_right _ hp))
  · refine rd_dup ?_
    rw [List.take_append_drop]
    exact List.mem_of_mem_take h
theorem bads_len (c : Int) (lines : List Str) : (bads c lines).length ≤ 23 := by
  unfold bads
  simp only [List.length_append, List.length_map, List.length_take, List.length_cons, List.length_nil]
  have : badP.length = 18 := rfl
  have : badP2.length = 3 := rfl
  omega
theorem bads_first (c : Int) (lines : List Str) : (bads c lines).take 1 = [mkS (jl 32 [[]])] := rfl
theorem under_no {c : Int} {lines : List Str} : rd c [] (lines ++ [mkS (jl 32 [[]])]) = none := rd_bad (l := mkS (jl 32 [[]])) (by simp) (th_bad (by decide))

end
end Fb

end

section
set_option maxHeartbeats 4000000
namespace Fb
open PySem L2
local macro_rules | `(tactic| walk_at $x:str) => do
  let ws := x.getString.splitOn " "
  if ws.head! != "wp" then Lean.Macro.throwUnsupported
  let mut hs : Array (Lean.TSyntax `Lean.Parser.Tactic.simpLemma) := #[]
  for z in ws.tail! do
    let ps := z.splitOn ":"
    let mut t : Lean.TSyntax `term := Lean.mkIdent ps.head!.toName
    for p in ps.tail! do
      let a : Lean.TSyntax `term := Lean.mkIdent p.toName
      t ← `($t $a)
    hs := hs.push (← `(Lean.Parser.Tactic.simpLemma| $t:term))
  `(tactic| simp only [cxOf_K, cxOf_A, cxComp_K, cxComp_A, tSeq, tNext, tForG, iRng1, iList, tLst, tAsg, gName, tRet, tRetN, tOp, tVar, tC, rI0, rI, rU, tUn, tChain, tTest, tB, tIfS, tAnd, tOr, tNot, tAndV, tOrV, tNotV, tIsN, tNotN, tCB, tCons, tNil, tCall, rEq, rNe, L2.start, List.map_cons, List.map_nil, List.cons_append, List.nil_append, List.append_nil, List.length_cons, List.length_nil, List.replicate, List.getElem?_cons_zero, List.getElem?_cons_succ, List.set_cons_zero, List.set_cons_succ, Option.some.injEq, V.int.injEq, V.bl.injEq, V.ref.injEq, V.str.injEq, V.ty.injEq, List.cons.injEq, exists_eq_left', exists_and_left, exists_eq_left, and_true, true_and, exists_eq_right, exists_eq_right', Nat.zero_add, Nat.reduceAdd, Nat.reduceSub, and_assoc, ↓reduceIte, Bool.not_true, Bool.not_false, Bool.false_eq_true, Bool.true_and, Bool.false_and, cmul_2, cmul_4, cmul_h, known_bool, known_int, known_str, known_list, known_tuple, known_dict, sT_NoneType_bool, sT_NoneType_int, sT_NoneType_str, sT_NoneType_list, sT_NoneType_tuple, sT_NoneType_dict, sT_bool_bool, sT_bool_int, sT_bool_str, sT_bool_list, sT_bool_tuple, sT_bool_dict, sT_int_bool, sT_int_int, sT_int_str, sT_int_list, sT_int_tuple, sT_int_dict, sT_str_bool, sT_str_int, sT_str_str, sT_str_list, sT_str_tuple, sT_str_dict, sT_list_bool, sT_list_int, sT_list_str, sT_list_list, sT_list_tuple, sT_list_dict, sT_tuple_bool, sT_tuple_int, sT_tuple_str, sT_tuple_list, sT_tuple_tuple, sT_tuple_dict, sT_dict_bool, sT_dict_int, sT_dict_str, sT_dict_list, sT_dict_tuple, sT_dict_dict, tyN_non, tyN_bl, tyN_int, tyN_str, Int.reduceLT, small_of, Nat.reduceLeDiff, scal, not_true_eq_false, not_false_eq_true, reduceCtorEq, decide_true, decide_false, Bool.or_true, Bool.true_or, Bool.or_false, Bool.false_or, Bool.and_true, Bool.and_false, HO.tup.injEq, HO.lst.injEq, tYes, false_and, false_or, or_false, and_false, exists_false, tDNewK, tDrop, sDPut, tDGet, tDIn, tDNotIn, tTup, tBM, tBM0, upd_same, upd_upd, iTup, iStr, tLc, tLcR, gTup, gCons, gNil, Option.isSome_some, Option.isSome_none, Option.getD_some, Option.getD_none, tSl, rSlS, rStarts, rFind, tIf, tFmt, tJoin, tRaise, rIxS, $hs,*])

-- WPMORE tDNewK, tDrop, sDPut, tDGet, tDIn, tDNotIn, tTup, tBM, tBM0, upd_same, upd_upd, iTup, iStr, tLc, tLcR, gTup, gCons, gNil, Option.isSome_some, Option.isSome_none, Option.getD_some, Option.getD_none, tSl, rSlS, rStarts, rFind, tIf, tFmt, tJoin, tRaise, rIxS

seal L2.PE L2.PS L2.PSs L2.PT L2.PW L2.PA L2.PC L2.PG L2.PGs L2.PI L2.PO L2.PPs
section
variable {P : Program} {w : World} {K : PySem.W.Frag} {mg : Str → Option Value} {base : Heap} {C : Addr}
theorem ok_law {f : Addr} {fd : FuncData} {C FE ND NT NC NA ST : Addr} (N : Nl K mg C FE ND NT NC NA ST) (mg_range : mg "range" = none) (mg_len : mg "len" = none) (mg_list : mg "list" = none) (mg_min : mg "min" = none) (mg_int : mg "int" = none) (mg_str : mg "str" = none) (mg_tuple : mg "tuple" = none) (mg_isinstance : mg "isinstance" = none)
    (d__law_at : Def P w K mg base "_law_at" 1 ["_law_script", "_law_k"] (sp_at K)) (d__law_whole : Def P w K mg base "_law_whole" 1 ["_law_found"] sp_whole) (d__law_so : Def P w K mg base "_law_so" 2 ["_law_found", "_law_meant"] (sp_so K 1)) (d_shown : Def P w K mg base "shown" 4 ["things"] sp_shown) (d_read : Def1 P w K mg base "read" 4 ["count", "lines"] (sp_read C))
    (d__law_refused : Def P w K mg base "_law_refused" 5 ["_law_count", "_law_lines"] sp_refused) (d__law_under_base : Def P w K mg base "_law_under_base" 5 ["_law_count", "_law_lines"] sp_refused)
    (F : Fun K "law" "law" (top 25) f fd) : FnOk P w K mg base CX0 6 f fd ["_law_script"] (sp_law K) := by
  refine F.ok sc_law (fun vs H Q E h => ?_) (fun cdv A outer s H vs Q E hr h => ?_)
  · obtain ⟨a, ns, rfl, _⟩ := h
    rfl
  · obtain ⟨a, ns, rfl, hS, hl, q⟩ := h
    have hc := cnt_pos ns
    refine ⟨_, (pss_cons (ps_set (i := 1) sc_law.nd rfl (Or.inl rfl) (pe_op op_add pe_int (pe_op op_mod (pe_op op_mod (pe_op op_mul (pe_def d__law_at (hr.mono (by omega)) rfl (pa_cons (pv 0) (pa_cons pe_int pa_nil))) pe_int) pe_int) pe_int)))  (pss_cons (ps_set (i := 2) sc_law.nd rfl (Or.inl rfl) (pe_lst pa_nil))  (pss_cons (ps_set (i := 3) sc_law.nd rfl (Or.inl rfl) (pe_lst pa_nil))  (pss_cons (ps_forG PassesOwn.never rfl (pi_range2 rfl mg_range (pa_cons pe_int (pa_cons (pe_callB (call_min2 rfl) rfl mg_min (by decide +kernel) (pa_cons pe_int (pa_cons (pe_callB call_len_seq rfl mg_len (by decide +kernel) (pa_cons (pv 0) pa_nil)) pa_nil))) pa_nil))) (pg_name (i := 4) sc_law.nd rfl (Or.inl rfl))  (pss_cons (ps_set (i := 5) sc_law.nd rfl (Or.inl rfl) (pe_ix ix_list (pv 0) (pv 4) (fun _ _ => rfl)))  (pss_cons (ps_set (i := 6) sc_law.nd rfl (Or.inl rfl) (pe_op op_mul_str (pe_ix ix_str pe_str (pe_op op_mod (pv 4) pe_int) (fun _ _ => rfl)) (pe_op op_add pe_int (pe_op op_fdiv (pv 4) pe_int))))  (pss_cons (ps_set (i := 6) sc_law.nd rfl (Or.inl rfl) (pe_op op_add_str (pv 6) (pe_ix ix_list (pe_lst (pa_cons pe_str (pa_cons pe_str (pa_cons pe_str (pa_cons (pe_op op_mul_str pe_str pe_int) pa_nil))))) (pe_op op_mod (pe_op op_mod (pe_op op_mul (pv 5) pe_int) pe_int) pe_int) (fun _ _ => rfl))))  (pss_cons (ps_set (i := 7) sc_law.nd rfl (Or.inl rfl) (pe_op op_mod (pv 5) (pe_callTy call_int_text rfl mg_int (by decide +kernel) (pa_cons (pe_op op_add_str pe_str (pe_op op_mul_str pe_str pe_int)) pa_nil))))  (pss_cons (ps_set (i := 8) sc_law.nd rfl (Or.inl rfl) (pe_lst (pa_cons pe_int (pa_cons (pe_un un_neg pe_int) (pa_cons pe_int (pa_cons (pv 7) (pa_cons (pe_op op_sub pe_int (pv 7)) (pa_cons (pe_op op_mod (pe_op op_mod (pe_op op_mul (pv 5) pe_int) pe_int) pe_int) pa_nil))))))))  (pss_cons (ps_set (i := 9) sc_law.nd rfl (Or.inl rfl) (pe_ix ix_list (pv 8) (pe_op op_mod (pe_op op_mod (pe_op op_mul (pv 5) pe_int) pe_int) pe_int) (fun _ _ => rfl)))  (pss_cons (ps_expr (pe_bm PySem.F.plainAttrs_list PySem.F.slot_list_append PySem.F.type_list_append mt_append (pv 2) (pa_cons (pe_tup (pa_cons (pv 6) (pa_cons (pe_op op_mod (pe_op op_mod (pe_op op_mul (pv 5) pe_int) pe_int) (pv 1)) (pa_cons (pv 9) pa_nil)))) pa_nil)))  (pss_one (ps_expr (pe_bm PySem.F.plainAttrs_list PySem.F.slot_list_append PySem.F.type_list_append mt_append (pv 3) (pa_cons (pe_op op_add_str (pe_op op_add_str (pe_op op_add_str (pe_op op_add_str (pv 6) pe_str) (pe_callTy call_str_int rfl mg_str (by decide +kernel) (pa_cons (pe_op op_mod (pe_op op_mod (pe_op op_mul (pv 5) pe_int) pe_int) (pv 1)) pa_nil))) pe_str) (pe_callTy call_str_int rfl mg_str (by decide +kernel) (pa_cons (pv 9) pa_nil))) pa_nil))))))))))))  (pss_cons (ps_set (i := 10) sc_law.nd rfl (Or.inl rfl) (pe_def d_shown (hr.mono (by omega)) rfl (pa_cons (pe_callTy call_list_of rfl mg_list (by decide +kernel) (pa_cons (pv 2) pa_nil)) pa_nil)))  (pss_cons (ps_if (PW.pt (pw_or (pt_not (pt_val (pe_callB call_isi rfl mg_isinstance (by decide +kernel) (pa_cons (pv 10) (pa_cons (pe_bltn (v := .ty "list") rfl mg_list (by decide +kernel) rfl) pa_nil))))) (pw_or1 (pt_cmpR op_ne (pe_callB call_len_seq rfl mg_len (by decide +kernel) (pa_cons (pv 10) pa_nil)) (pe_callB call_len_seq rfl mg_len (by decide +kernel) (pa_cons (pv 3) pa_nil)) (nomark _))))) (pss_one (ps_ret pe_bl)) pss_nil)  (pss_cons (ps_forG PassesOwn.never rfl (pi_range1 rfl mg_range (pa_cons (pe_callB call_len_seq rfl mg_len (by decide +kernel) (pa_cons (pv 3) pa_nil)) pa_nil)) (pg_name (i := 4) sc_law.nd rfl (Or.inl rfl))  (pss_one (ps_if (PW.pt (pw_or (pt_not (pt_val (pe_callB call_isi rfl mg_isinstance (by decide +kernel) (pa_cons (pe_ix ix_list (pv 10) (pv 4) (fun _ _ => rfl)) (pa_cons (pe_bltn (v := .ty "str") rfl mg_str (by decide +kernel) rfl) pa_nil))))) (pw_or1 (pt_cmpR op_ne (pe_ix ix_list (pv 10) (pv 4) (fun _ _ => rfl)) (pe_ix ix_list (pv 3) (pv 4) (fun _ _ => rfl)) (nomark _))))) (pss_one (ps_ret pe_bl)) pss_nil)))  (pss_cons (ps_set (i := 11) sc_law.nd rfl (Or.inl rfl) (pe_def1 d_read passN (hr.mono (by omega)) rfl (pa_cons (pv 1) (pa_cons (pe_callTy call_list_of rfl mg_list (by decide +kernel) (pa_cons (pv 3) pa_nil)) pa_nil))))  (pss_cons (ps_if (PW.pt (pw_or (pt_not (pt_val (pe_callB call_isi rfl mg_isinstance (by decide +kernel) (pa_cons (pv 11) (pa_cons (pe_bltn (v := .ty "list") rfl mg_list (by decide +kernel) rfl) pa_nil))))) (pw_or1 (pt_cmpR op_ne (pe_callB call_len_seq rfl mg_len (by decide +kernel) (pa_cons (pv 11) pa_nil)) (pe_callB call_len_seq rfl mg_len (by decide +kernel) (pa_cons (pv 2) pa_nil)) (nomark _))))) (pss_one (ps_ret pe_bl)) pss_nil)  (pss_cons (ps_forG PassesOwn.never rfl (pi_range1 rfl mg_range (pa_cons (pe_callB call_len_seq rfl mg_len (by decide +kernel) (pa_cons (pv 2) pa_nil)) pa_nil)) (pg_name (i := 4) sc_law.nd rfl (Or.inl rfl))  (pss_cons (ps_set (i := 12) sc_law.nd rfl (Or.inl rfl) (pe_ix ix_list (pv 11) (pv 4) (fun _ _ => rfl)))  (pss_cons (ps_if (PW.pt (pw_or (pt_not (pt_val (pe_callB call_isi rfl mg_isinstance (by decide +kernel) (pa_cons (pv 12) (pa_cons (pe_bltn (v := .ty "tuple") rfl mg_tuple (by decide +kernel) rfl) pa_nil))))) (pw_or (pt_cmpR op_ne (pe_callB call_len_seq rfl mg_len (by decide +kernel) (pa_cons (pv 12) pa_nil)) pe_int (nomark _)) (pw_or1 (pt_not (pt_val (pe_callB call_isi rfl mg_isinstance (by decide +kernel) (pa_cons (pe_ix ix_tup (pv 12) pe_int (fun _ _ => rfl)) (pa_cons (pe_bltn (v := .ty "str") rfl mg_str (by decide +kernel) rfl) pa_nil))))))))) (pss_one (ps_ret pe_bl)) pss_nil)  (pss_one (ps_if (PW.pt (pw_or (pt_not (pt_val (pe_def d__law_whole (hr.mono (by omega)) rfl (pa_cons (pe_ix ix_tup (pv 12) pe_int (fun _ _ => rfl)) pa_nil)))) (pw_or (pt_not (pt_val (pe_def d__law_whole (hr.mono (by omega)) rfl (pa_cons (pe_ix ix_tup (pv 12) pe_int (fun _ _ => rfl)) pa_nil)))) (pw_or1 (pt_not (pt_val (pe_def d__law_so (hr.mono (by omega)) rfl (pa_cons (pv 12) (pa_cons (pe_ix ix_list (pv 2) (pv 4) (fun _ _ => rfl)) pa_nil))))))))) (pss_one (ps_ret pe_bl)) pss_nil)))))  (pss_cons (ps_set (i := 13) sc_law.nd rfl (Or.inl rfl) (pe_lst (pa_cons pe_str (pa_cons pe_str (pa_cons pe_str (pa_cons pe_str (pa_cons pe_str (pa_cons pe_str pa_nil))))))))  (pss_cons (ps_set (i := 13) sc_law.nd rfl (Or.inl rfl) (pe_op op_cat (pv 13) (pe_lst (pa_cons pe_str (pa_cons pe_str (pa_cons pe_str (pa_cons pe_str pa_nil)))))))  (pss_cons (ps_set (i := 13) sc_law.nd rfl (Or.inl rfl) (pe_op op_cat (pv 13) (pe_lst (pa_cons pe_str (pa_cons pe_str (pa_cons pe_str (pa_cons pe_str pa_nil)))))))  (pss_cons (ps_set (i := 13) sc_law.nd rfl (Or.inl rfl) (pe_op op_cat (pv 13) (pe_lst (pa_cons pe_str (pa_cons pe_str (pa_cons pe_str (pa_cons pe_str pa_nil)))))))  (pss_cons (ps_set (i := 13) sc_law.nd rfl (Or.inl rfl) (pe_op op_cat (pv 13) (pe_lst (pa_cons (pe_op op_add_str (pe_op op_add_str pe_str (pe_callTy call_str_int rfl mg_str (by decide +kernel) (pa_cons (pv 1) pa_nil))) pe_str) (pa_cons pe_str (pa_cons pe_str pa_nil))))))  (pss_cons (ps_set (i := 13) sc_law.nd rfl (Or.inl rfl) (pe_op op_cat (pe_op op_cat (pv 13) (pe_lst (pa_cons pe_str pa_nil))) (pe_slice sl_list (pv 3) po_none (po_some pe_int))))  (pss_cons (ps_set (i := 14) sc_law.nd rfl (Or.inl rfl) (pe_op op_mod (pe_op op_mod (pe_op op_mul (pe_def d__law_at (hr.mono (by omega)) rfl (pa_cons (pv 0) (pa_cons pe_int pa_nil))) pe_int) pe_int) (pe_op op_add (pe_callB call_len_seq rfl mg_len (by decide +kernel) (pa_cons (pv 3) pa_nil)) pe_int)))  (pss_cons (ps_forG PassesOwn.never rfl (pi_list (pv 13)) (pg_name (i := 15) sc_law.nd rfl (Or.inl rfl))  (pss_one (ps_if (pt_not (pt_val (pe_def d__law_refused (hr.mono (by omega)) rfl (pa_cons (pv 1) (pa_cons (pe_op op_cat (pe_op op_cat (pe_slice sl_list (pv 3) po_none (po_some (pv 14))) (pe_lst (pa_cons (pv 15) pa_nil))) (pe_slice sl_list (pv 3) (po_some (pv 14)) po_none)) pa_nil))))) (pss_one (ps_ret pe_bl)) pss_nil)))  (pss_one (ps_ret (pe_def d__law_under_base (hr.mono (by omega)) rfl (pa_cons (pv 1) (pa_cons (pe_op op_cat (pv 3) (pe_slice sl_list (pv 13) po_none (po_some pe_int))) pa_nil))))))))))))))))))))))), ?_⟩
    simp only [cxOf_K, cxOf_A, tSeq, L2.start, List.map_cons, List.map_nil, List.length_cons, List.length_nil, Nat.reduceAdd, Nat.reduceSub, List.replicate, List.cons_append, List.nil_append]
    refine rd_set (d := .int (cnt12 ns)) (rd_add rd_int (rd_mod (rd_mod (rd_mul (rd_at (k := 0) rfl hS) rd_int (cmul_h _)) rd_int (by decide)) rd_int (by decide))) fun v1 H1 hv1 s1 => ?_
    obtain rfl := dh_int hv1
    simp only [List.set_cons_zero, List.set_cons_succ]
    refine rd_setL [] rda_nil (by decide) fun A1 xs1 H2 hA0 hA1 hx1 s2 => ?_
    simp only [List.set_cons_zero, List.set_cons_succ]
    refine rd_setL [] rda_nil (by decide) fun B1 ys1 H3 hB0 hB1 hy1 s3 => ?_
    simp only [List.set_cons_zero, List.set_cons_succ]
    have T : Two H H3 A1 B1 [] [] := ⟨⟨xs1, s3 _ _ hA1, hx1.same s3.d⟩, ⟨ys1, hB1, hy1⟩, rfl, rfl, ne_of_none hA1 hB0, s1.free hA0, (s1.trans s2).free hB0, s1.trans (s2.trans s3)⟩
    refine seq_rng2 (i := 1) (j := (ns.length : Int)) (rda_cons rd_int (rda_cons ((rd_min rd_int (rd_lenS rfl (T.all.seq hS))).to (by rw [List.length_map, if_pos (by omega)])) rda_nil)) (by omega) fun H4 s4 => ?_
    have T := T.same s4
    have hn : ((ns.length : Int) - 1).toNat = ns.length - 1 := by omega
    rw [hn]
    refine for_gen (xs := rngV 1 (ns.length - 1)) (fun i σ H' => ∃ x4 x5 x6 x7 x8 x9, σ = [some (.ref a), some (.int (cnt12 ns)), some (.ref A1), some (.ref B1), x4, x5, x6, x7, x8, x9, none, none, none, none, none, none] ∧ Two H H' A1 B1 (tD ns i) (lD ns i))
      ⟨_, _, _, _, _, _, rfl, T⟩ (fun _ _ _ _ _ => Yields.range) ?_ ?_
    · rintro i v σ H5 hv ⟨x4, x5, x6, x7, x8, x9, rfl, T⟩
      obtain ⟨hi, rfl⟩ := rngV_at hv
      rw [show (1 : Int) + (i : Int) = ((i + 1 : Nat) : Int) by omega]
      have hk : i + 1 < 63 := by omega
      have hk2 : i + 1 < ns.length := by omega
      show tSeq _ _ _ _ _
      simp only [tSeq, List.set_cons_zero, List.set_cons_succ]
      refine rd_set (rd_ixSq rfl rfl (T.all.seq hS) hk2) fun v5 H6 hv5 s5 => ?_
      obtain rfl := dh_int hv5
      have T := T.same s5
      generalize hx : ns.getD (i + 1) 0 = x at *
      simp only [List.set_cons_zero, List.set_cons_succ]
      have h123 : (1 : Int) + ((i + 1 : Nat) : Int) / 26 = 1 ∨ (1 : Int) + ((i + 1 : Nat) : Int) / 26 = 2 ∨ (1 : Int) + ((i + 1 : Nat) : Int) / 26 = 3 := by omega
      refine rd_set (rd_mulS (rd_ixS (c := 97 + (i + 1) % 26) rd_str (rd_mod (rd_var rfl (.int _)) rd_int (by decide)) (small_of (by decide +kernel)) abc_at) (rd_add rd_int (rd_fdiv (rd_var rfl (.int _)) rd_int ⟨by decide, by decide⟩)) (mul_ok1 h123)) fun v6 H7 hv6 s6 => ?_
      rw [mul_rep h123, show ((1 : Int) + ((i + 1 : Nat) : Int) / 26).toNat = 1 + (i + 1) / 26 by omega] at hv6
      obtain rfl := dh_str hv6
      have T := T.same s6
      simp only [List.set_cons_zero, List.set_cons_succ]
      have hj : x * 48271 % 1039 % 4 = ((j4 x : Nat) : Int) := by unfold j4; omega
      refine rd_set (d := .str (mkS (nm (i + 1) (j4 x)))) ((rd_addS (rd_var rfl (.str _)) (rd_dispN [.str (Str.ofString ""), .str (Str.ofString "zy"), .str (Str.ofString "yoats"), .str (mkS (sfx 3))] (rda_cons rd_str (rda_cons rd_str (rda_cons rd_str (rda_cons ((rd_mulS rd_str rd_int mul_zbc_ok).to (by rw [mul_zbc])) rda_nil)))) (by decide)
        ((rd_mod (rd_mod (rd_mul (rd_var rfl (.int x)) rd_int (cmul_h _)) rd_int (by decide)) rd_int (by decide)).to (by rw [hj])) (sfx_at (j4 x) (j4_lt x))) (by rw [mkS_len, mkS_len]; have h1 := rep_len hk; have h2 := sfx_len (j4 x); exact small_of (by omega))).to (by rw [nm_put])) fun v7 H8 hv7 s7 => ?_
      obtain rfl := dh_str hv7
      have T := T.same s7
      simp only [List.set_cons_zero, List.set_cons_succ]
      refine rd_set (rd_mod (rd_var rfl (.int x)) (rd_intS (rd_addS rd_str (rd_mulS rd_str rd_int mul_0_ok) ten60_add) ten60 ten60_len) (by decide)) fun v8 H9 hv8 s8 => ?_
      obtain rfl := dh_int hv8
      have T := T.same s8
      simp only [List.set_cons_zero, List.set_cons_succ]
      refine rd_set (d := .list ((some12 x).map .int)) (rd_lst (rda_cons rd_int (rda_cons (rd_neg rd_int) (rda_cons rd_int (rda_cons (rd_var rfl (.int _)) (rda_cons (rd_sub rd_int (rd_var rfl (.int _))) (rda_cons (rd_mod (rd_mod (rd_mul (rd_var rfl (.int x)) rd_int (cmul_h _)) rd_int (by decide)) rd_int (by decide)) rda_nil)))))) (by show 6 ≤ 1000; decide)) fun v9 H10 hv9 s9 => ?_
      have T := T.same s9
      simp only [List.set_cons_zero, List.set_cons_succ]
      refine rd_set (d := .int (val12 x)) (rd_ixv (some12 x) (rd_var rfl hv9) (rd_mod (rd_mod (rd_mul (rd_var rfl (.int x)) rd_int (cmul_h _)) rd_int (by decide)) rd_int (by decide)) (by omega) (by show _ < (6 : Int); omega)) fun v10 H11 hv10 s10 => ?_
      obtain rfl := dh_int hv10
      have T := T.same s10
      simp only [List.set_cons_zero, List.set_cons_succ]
      have kp : ∀ {σ : St} {H0 : Hp}, σ[5]? = some (some (.int x)) → σ[1]? = some (some (.int (cnt12 ns))) → Rd1 (tOp (rI (fun x j => 0 < j) fun i j => V.int (i % j)) (tOp (rI (fun x j => 0 < j) fun i j => V.int (i % j)) (tOp (rI CMul fun i j => V.int (i * j)) (tVar 5) (tC (V.int 48271))) (tC (V.int 1031))) (tVar 1)) σ H0 (.int (x * 48271 % 1031 % cnt12 ns)) := fun h5 h1 => rd_mod (rd_mod (rd_mul (rd_var h5 (.int x)) rd_int (cmul_h _)) rd_int (by decide)) (rd_var h1 (.int _)) hc.1
      have et : th12 ns (i + 1) = (mkS (nm (i + 1) (j4 x)), x * 48271 % 1031 % cnt12 ns, val12 x) := by unfold th12; rw [hx]
      refine T.app (thD (th12 ns (i + 1))) rfl (by rw [tD_len]; omega) (by rw [et]; exact rd_tup (rda_cons (rd_var rfl (.str _)) (rda_cons (kp rfl rfl) (rda_cons (rd_var rfl (.int _)) rda_nil))) (by show 3 ≤ 1000; decide)) rfl fun H12 T => ?_
      dsimp only
      have ln : (nm (i + 1) (j4 x)).length ≤ 39 := nm_len ⟨i + 1, hk⟩ ⟨_, j4_lt x⟩
      have ok := th_ok ns hk
      rw [et] at ok
      obtain ⟨_, _, _, _, okk, okv⟩ := ok
      have okk : (x * 48271 % 1031 % cnt12 ns).natAbs < 10 ^ 100 := okk
      have okv : (val12 x).natAbs < 10 ^ 100 := okv
      have lk := tx_len okk
      have lv := tx_len okv
      have la : (Str.ofString " at ").length = 4 := by decide +kernel
      have li : (Str.ofString " is ").length = 4 := by decide +kernel
      refine T.swap.app (.str (lineT (th12 ns (i + 1)))) rfl (by rw [lD_len]; omega) ((rd_addS (rd_addS (rd_addS (rd_addS (rd_var rfl (.str (mkS (nm (i + 1) (j4 x))))) rd_str (small_of ?_)) (rd_strI (kp rfl rfl) (log_small okk)) (small_of ?_)) rd_str (small_of ?_)) (rd_strI (rd_var rfl (.int (val12 x))) (log_small okv)) (small_of ?_)).to ?_) rfl fun H13 T => ?_
      · rw [mkS_len]; omega
      · simp only [Str.length_append, mkS_len]; omega
      · simp only [Str.length_append, mkS_len]; omega
      · simp only [Str.length_append, mkS_len]; omega
      · rw [line_eq, et]; rfl
      · exact ⟨_, _, _, _, _, _, rfl, by rw [tD_succ, lD_succ]; exact T.swap⟩
    · rintro σ H5 ⟨x4, x5, x6, x7, x8, x9, rfl, T⟩
      rw [rngV_len] at T
      rw [show tD ns (ns.length - 1) = (ths ns).map thD by unfold tD ths; rw [List.map_map]; rfl, show lD ns (ns.length - 1) = ((ths ns).map lineT).map PyData.str by unfold lD ths; rw [List.map_map, List.map_map]; rfl] at T
      have okt : ∀ t ∈ ths ns, thOk t := fun t h => by
        obtain ⟨k, hk, rfl⟩ := ths_mem hl h
        exact th_ok ns hk
      have tl : (ths ns).length ≤ 62 := by rw [ths_len]; omega
      obtain ⟨xsA, hA5, hxA⟩ := T.a
      obtain ⟨xsB, hB5, hxB⟩ := T.b
      have S5 := T.all
      clear T
      refine rd_set (rd_shown (rda_cons (rd_list (rd_var rfl (.lst hA5 hxA))) rda_nil) (by omega) okt) fun v10 H6 hv10 s6 => ?_
      simp only [List.set_cons_zero, List.set_cons_succ]
      have dA6 : Dh H6 (.ref A1) (.list ((ths ns).map thD)) := (Dh.lst hA5 hxA).same s6.d
      have dB6 : Dh H6 (.ref B1) (.list (((ths ns).map lineT).map .str)) := (Dh.lst hB5 hxB).same s6.d
      refine rds_no (RdT.to (rdt_or (rdt_not (rdt_b (rd_isi (n := "list") (rd_var rfl hv10) rfl known_list))) (fun _ => rdt_test (rd_neI (rd_len (rd_var rfl hv10)) (rd_len (rd_var rfl dB6))))) (by rw [sT_list_list]; simp)) fun H7 s7 => ?_
      have dA7 := dA6.same s7.d
      have dB7 := dB6.same s7.d
      have dF7 := hv10.same s7.d
      refine seq_rng1 (m := (ths ns).length) (rda_cons ((rd_len (rd_var rfl dB7)).to (by simp)) rda_nil) (by omega) fun H8 s8 => ?_
      refine for_chk rfl (fun i H9 D' hi s9 hrt nx => ?_) fun x4' H9 s9 => ?_
      · have hk : (((ths ns).map lineT).map PyData.str)[i]? = some (.str (((ths ns).map lineT)[i]'(by rw [List.length_map]; exact hi))) := by rw [List.getElem?_map, List.getElem?_eq_getElem (by rw [List.length_map]; exact hi)]; rfl
        have S9 := s7.trans (s8.trans s9)
        have dB9 := dB6.same S9.d
        have dF9 := hv10.same S9.d
        exact rds_no (RdT.to (rdt_or (rdt_not (rdt_b (rd_isi (n := "str") (rd_item (rd_var rfl dF9) (rd_var rfl (.int _)) hk) rfl known_str))) (fun _ => rdt_test (rd_neS (rd_item (rd_var rfl dF9) (rd_var rfl (.int _)) hk) (rd_item (rd_var rfl dB9) (rd_var rfl (.int _)) hk)))) (by rw [sT_str_str]; simp)) fun H10 s10 => nx H10 s10
      · have S9 := s7.trans (s8.trans s9)
        have dA9 := dA6.same S9.d
        have dB9 := dB6.same S9.d
        have hS9 := (S5.trans (s6.trans S9)).seq hS
        have ho : ∀ l ∈ (ths ns).map lineT, lnOk l := fun l h => by
          obtain ⟨t, ht, rfl⟩ := List.mem_map.mp h
          exact lineT_ok (okt t ht)
        generalize hLs : (ths ns).map lineT = lines at *
        have ll : lines.length = (ths ns).length := by rw [← hLs, List.length_map]
        clear dA6 dB6 dA7 dB7 dF7 hA5 hxA hB5 hxB
        simp only [List.set_cons_zero, List.set_cons_succ]
        refine rd_set (rd_readS (rda_cons (rd_var rfl (.int _)) (rda_cons (rd_list (rd_var rfl dB9)) rda_nil)) (by omega) ho (by rw [← hLs]; exact ths_rd hl)) fun v11 H10 hv11 s10 => ?_
        simp only [List.set_cons_zero, List.set_cons_succ]
        have dA10 := dA9.same s10.d
        refine rds_no (RdT.to (rdt_or (rdt_not (rdt_b (rd_isi (n := "list") (rd_var rfl hv11) rfl known_list))) (fun _ => rdt_test (rd_neI (rd_len (rd_var rfl hv11)) (rd_len (rd_var rfl dA10))))) (by rw [sT_list_list]; simp)) fun H11 s11 => ?_
        refine seq_rng1 (m := (ths ns).length) (rda_cons ((rd_len (rd_var rfl (dA10.same s11.d))).to (by simp)) rda_nil) (by omega) fun H12 s12 => ?_
        have S12 := s11.trans s12
        refine for_gen (xs := rngV 0 (ths ns).length) (fun i σ H' => ∃ y4 y12, σ = [some (.ref a), some (.int (cnt12 ns)), some (.ref A1), some (.ref B1), y4, x5, x6, x7, x8, x9, some v10, some v11, y12, none, none, none] ∧ Same H12 H') ⟨_, _, rfl, Same.refl _⟩ (fun _ _ _ _ _ => Yields.range) ?_ ?_
        · rintro i v σ H13 hv ⟨y4, y12, rfl, s13⟩
          obtain ⟨hi, rfl⟩ := rngV_at hv
          rw [show (0 : Int) + (i : Int) = (i : Int) by omega]
          have S13 := S12.trans s13
          have hk : ((ths ns).map thD)[i]? = some (thD ((ths ns)[i]'hi)) := by rw [List.getElem?_map, List.getElem?_eq_getElem hi]; rfl
          generalize (ths ns)[i]'hi = t at hk
          show tSeq _ _ _ _ _
          simp only [tSeq, List.set_cons_zero, List.set_cons_succ]
          refine rd_set (rd_item (rd_var rfl (hv11.same S13.d)) (rd_var rfl (.int _)) hk) fun v12 H14 hv12 s14 => ?_
          simp only [List.set_cons_zero, List.set_cons_succ]
          refine rds_no (RdT.to (rdt_or (rdt_not (rdt_b (rd_isi (n := "tuple") (rd_var rfl hv12) rfl known_tuple))) (fun _ => rdt_or (rdt_test (rd_neI (rd_lenT (rd_var rfl hv12)) rd_int)) (fun _ => rdt_not (rdt_b (rd_isi (n := "str") (rd_itemT (k := 0) (rd_var rfl hv12) rd_int rfl) rfl known_str))))) (by rw [sT_tuple_tuple, sT_str_str]; simp)) fun H15 s15 => ?_
          have h15 := hv12.same s15.d
          refine rds_no (RdT.to (rdt_or (rdt_not (rdt_b (rd_whole (rd_itemT (k := 1) (rd_var rfl h15) rd_int rfl)))) (fun _ => rdt_or (rdt_not (rdt_b (rd_whole (rd_itemT (k := 2) (rd_var rfl h15) rd_int rfl)))) (fun _ => rdt_not (rdt_b (rd_so (n := 1) (rda_cons (rd_var rfl h15) (rda_cons (rd_item (rd_var rfl ((dA10.same S13.d).same (s14.trans s15).d)) (rd_var rfl (.int _)) hk) rda_nil)) (th_depth t) (th_lenOk t)))))) (by simp)) fun H16 s16 => ?_
          exact ⟨_, _, rfl, s13.trans (s14.trans (s15.trans s16))⟩
        · rintro σ H13 ⟨y4, y12, rfl, s13⟩
          have S13 := s10.trans (S12.trans s13)
          have dB13 := dB9.same S13.d
          have hS13 := S13.seq hS9
          refine rd_set (rd_lst (rda_cons rd_str (rda_cons rd_str (rda_cons rd_str (rda_cons rd_str (rda_cons rd_str (rda_cons rd_str rda_nil)))))) (by show 6 ≤ 1000; decide)) fun w1 H14 hw1 t1 => ?_
          simp only [List.set_cons_zero, List.set_cons_succ]
          refine rd_set (rd_cat (rd_var rfl hw1) (rd_lst (rda_cons rd_str (rda_cons rd_str (rda_cons rd_str (rda_cons rd_str rda_nil)))) (by show 4 ≤ 1000; decide)) (by show 10 ≤ 1000; decide)) fun w2 H15 hw2 t2 => ?_
          simp only [List.set_cons_zero, List.set_cons_succ]
          refine rd_set (rd_cat (rd_var rfl hw2) (rd_lst (rda_cons rd_str (rda_cons rd_str (rda_cons rd_str (rda_cons rd_str rda_nil)))) (by show 4 ≤ 1000; decide)) (by show 14 ≤ 1000; decide)) fun w3 H16 hw3 t3 => ?_
          simp only [List.set_cons_zero, List.set_cons_succ]
          refine rd_set (rd_cat (rd_var rfl hw3) (rd_lst (rda_cons rd_str (rda_cons rd_str (rda_cons rd_str (rda_cons rd_str rda_nil)))) (by show 4 ≤ 1000; decide)) (by show 18 ≤ 1000; decide)) fun w4 H17 hw4 t4 => ?_
          simp only [List.set_cons_zero, List.set_cons_succ]
          have hc100 : (cnt12 ns).natAbs < 10 ^ 100 := Nat.lt_of_le_of_lt (show _ ≤ 12 by omega) (by decide)
          have lc := tx_len hc100
          have l1 : (Str.ofString "oats at ").length = 8 := by decide +kernel
          have l2 : (Str.ofString " is 1").length = 5 := by decide +kernel
          refine rd_set (rd_cat (rd_var rfl hw4) (rd_lst (rda_cons ((rd_addS (rd_addS rd_str (rd_strI (rd_var rfl (.int _)) (log_small hc100)) (small_of (by rw [mkS_len]; omega))) rd_str (small_of (by simp only [Str.length_append, mkS_len]; omega))).to (by rw [oats_line])) (rda_cons rd_str (rda_cons rd_str rda_nil))) (by show 3 ≤ 1000; decide)) (by show 21 ≤ 1000; decide)) fun w5 H18 hw5 t5 => ?_
          simp only [List.set_cons_zero, List.set_cons_succ]
          have T5 := t1.trans (t2.trans (t3.trans (t4.trans t5)))
          have dB18 := dB13.same T5.d
          obtain ⟨A2, xsB, eB, hB18, hxB⟩ := dh_list dB18
          obtain rfl := V.ref.inj eB
          refine rd_set (d := .list ((bads (cnt12 ns) lines).map .str)) ((rd_cat (rd_cat (rd_var rfl hw5) (rd_lst (rda_cons rd_str rda_nil) (by show 1 ≤ 1000; decide)) (by show 22 ≤ 1000; decide)) (rd_take (k := 1) rfl hB18 hxB) (by rw [List.length_take]; show 22 + _ ≤ 1000; omega)).to (by
            unfold bads
            rw [← bad_lits, ← bad_lits2]
            simp only [List.map_append, List.map_cons, List.map_nil, List.map_take, List.cons_append, List.nil_append, List.append_assoc])) fun w6 H19 hw6 t6 => ?_
          simp only [List.set_cons_zero, List.set_cons_succ]
          have dB19 := dB18.same t6.d
          have hS19 := (T5.trans t6).seq hS13
          refine rd_set (rd_mod (rd_mod (rd_mul (rd_at (k := 0) rfl hS19) rd_int (cmul_h _)) rd_int (by decide)) (rd_add (rd_len (rd_var rfl dB19)) rd_int) (by omega)) fun w7 H20 hw7 t7 => ?_
          obtain ⟨sp, hsp, rfl⟩ : ∃ sp : Nat, sp ≤ lines.length ∧ w7 = .int (sp : Int) := by
            refine ⟨(ns.getD 0 0 * 48271 % 1009 % (((lines.map PyData.str).length : Int) + 1)).toNat, ?_, ?_⟩
            · have h1 := Int.emod_lt_of_pos (ns.getD 0 0 * 48271 % 1009) (show (0 : Int) < ((lines.map PyData.str).length : Int) + 1 by omega)
              rw [List.length_map] at h1 ⊢
              omega
            · rw [dh_int hw7]
              congr 1
              have h1 := Int.emod_nonneg (ns.getD 0 0 * 48271 % 1009) (show ((lines.map PyData.str).length : Int) + 1 ≠ 0 by omega)
              omega
          simp only [List.set_cons_zero, List.set_cons_succ]
          have dB20 := dB19.same t7.d
          have dW20 := hw6.same t7.d
          obtain ⟨AW, xsW, rfl, hW20, hxW⟩ := dh_list dW20
          have eW : xsW = (bads (cnt12 ns) lines).map V.str := by
            have := dhs_flat hxW (by simp [isSc])
            rw [this, List.map_map]
            rfl
          subst eW
          obtain ⟨A3, xsB3, eB3, hB20, hxB20⟩ := dh_list dB20
          obtain rfl := V.ref.inj eB3
          have lb := bads_len (cnt12 ns) lines
          have hbo := bads_ok (lines := lines) hc100 ho
          refine ⟨_, rfl, AW, rfl, ⟨_, SqL.of hW20⟩, ?_⟩
          refine for_gen (xs := (bads (cnt12 ns) lines).map V.str) (fun i σ H' => ∃ y15, σ = [some (.ref a), some (.int (cnt12 ns)), some (.ref A1), some (.ref B1), y4, x5, x6, x7, x8, x9, some v10, some v11, y12, some (.ref AW), some (.int (sp : Int)), y15] ∧ Same H20 H') ⟨_, rfl, Same.refl _⟩ (fun i σ H' _ h => ?_) ?_ ?_
          · obtain ⟨y15, rfl, u⟩ := h
            exact Yields.list (SqL.of (u _ _ hW20))
          · rintro i v σ H21 hv ⟨y15, rfl, u⟩
            rw [List.getElem?_map] at hv
            obtain ⟨b, hb, rfl⟩ := Option.map_eq_some_iff.mp hv
            have hbm := List.mem_of_getElem? hb
            show tIfS _ _ _ _ _ _
            simp only [List.set_cons_zero, List.set_cons_succ]
            have hB21 := u _ _ hB20
            have hxB21 := hxB20.same u.d
            refine rds_no (RdT.to (rdt_not (rdt_b (rd_refused (ls := lines.take sp ++ [b] ++ lines.drop sp) (rda_cons (rd_var rfl (.int _)) (rda_cons ((rd_cat (rd_cat (rd_takeV (k := sp) rfl rfl hB21 hxB21) (rd_lst (rda_cons (rd_var rfl (.str b)) rda_nil) (by show 1 ≤ 1000; decide)) ?_) (rd_dropV (k := sp) rfl rfl hB21 hxB21 ?_) ?_).to ?_) rda_nil)) ?_ ?_ (bads_no hbm)))) rfl) fun H22 u2 => ⟨_, rfl, u.trans u2⟩
            · rw [List.length_take, List.length_map]; show _ + 1 ≤ 1000; omega
            · rw [List.length_map]; exact hsp
            · rw [List.length_append, List.length_take, List.length_drop, List.length_map]; show _ + 1 + _ ≤ 1000; omega
            · rw [List.map_append, List.map_append, List.map_take, List.map_drop]; rfl
            · rw [List.length_append, List.length_append, List.length_take, List.length_drop]; show _ + 1 + _ ≤ 900; omega
            · intro l hl2
              rcases List.mem_append.mp hl2 with h | h
              · rcases List.mem_append.mp h with h | h
                · exact ho l (List.mem_of_mem_take h)
                · rw [List.mem_singleton.mp h]; exact hbo b hbm
              · exact ho l (List.mem_of_mem_drop h)
          · rintro σ H21 ⟨y15, rfl, u⟩
            refine rd_ret (rd_refused (c := cnt12 ns) (ls := lines ++ [mkS (jl 32 [[]])]) (rda_cons (rd_var rfl (.int _)) (rda_cons ((rd_cat (rd_var rfl (dB20.same u.d)) (rd_take (k := 1) rfl (u _ _ hW20) (hxW.same u.d)) ?_).to ?_) rda_nil)) ?_ ?_ under_no) fun v H22 hv22 u2 => ?_
            · rw [List.length_map, List.length_take, List.length_map]; omega
            · rw [← List.map_take, bads_first, List.map_append]
            · rw [List.length_append]; show _ + 1 ≤ 900; omega
            · intro l hl2
              rcases List.mem_append.mp hl2 with h | h
              · exact ho l h
              · rw [List.mem_singleton.mp h]
                exact bad_lnOk (p := [[]]) (by decide)
            · rw [dh_bl hv22]
              exact q H22

end
end Fb

end

section
/-! names that are taken: the twins of the head's own objects are not laid, and the compiled text stays small -/
namespace PySem.W.Fast
def tw11020377540303148260 : Unit := ()
def tw905871584448398317 : Unit := ()
def tw11900340247533237812 : Unit := ()
def tw13999927171755065791 : Unit := ()
def tw13123311711094133154 : Unit := ()
def tw4992000048855920074 : Unit := ()
def tw15365942928728297917 : Unit := ()
def tw12698485354680706921 : Unit := ()
def tw6811277591610177452 : Unit := ()
def tw6460900589490679108 : Unit := ()
def tw2179784083484136632 : Unit := ()
def tw13241990194878432268 : Unit := ()
def tw16624001845120951121 : Unit := ()
def tw10736772769396336453 : Unit := ()
def tw5884432020349351102 : Unit := ()
def tw16727498578094585144 : Unit := ()
def tw6649584547972698090 : Unit := ()
def tw9685845269505710535 : Unit := ()
def tw13015461420685417481 : Unit := ()
def tw429797172713591732 : Unit := ()
def tw11660165795679991527 : Unit := ()
def tw12749254706644832180 : Unit := ()
def tw14206631886951610384 : Unit := ()
def tw2731837022996624396 : Unit := ()
def tw16031938893851112969 : Unit := ()
def tw6947286091797241983 : Unit := ()
def tw13522781036133525372 : Unit := ()
def tw12643782445685281429 : Unit := ()
def tw2047389246175903538 : Unit := ()
def tw6048313936394724642 : Unit := ()
def tw17005806365380966594 : Unit := ()
def tw15643982568843389452 : Unit := ()
def tw14432396521874673700 : Unit := ()
def tw12321724417004494500 : Unit := ()
def tw3749468404823764007 : Unit := ()
def tw7167009933790177117 : Unit := ()
def tw14739366664101614985 : Unit := ()
def tw2976267182747230756 : Unit := ()
def tw11040579467444640304 : Unit := ()
def tw14386400416618136921 : Unit := ()
def tw7798422625243046992 : Unit := ()
def tw12673741209782008002 : Unit := ()
def tw4422120142554101239 : Unit := ()
def tw4897110437620905675 : Unit := ()
def tw4252383968955709893 : Unit := ()
def tw16499608307752319899 : Unit := ()
def tw3472795296794905602 : Unit := ()
def tw2755539734772339604 : Unit := ()
def tw11258095605089683793 : Unit := ()
def tw4831851690183802351 : Unit := ()
def tw12231577880255057078 : Unit := ()
def tw12611506613778183310 : Unit := ()
def tw16508970554136004418 : Unit := ()
def tw6428543076998973913 : Unit := ()
def tw10613155105875980760 : Unit := ()
def tw3165646673522459063 : Unit := ()
def tw9295823870032438625 : Unit := ()
def tw17528667337526544182 : Unit := ()
def tw13411107828108314072 : Unit := ()
def tw10175452449230017418 : Unit := ()
def tw3007196147360660407 : Unit := ()
def tw9332473002990335532 : Unit := ()
def tw197278839279469779 : Unit := ()
def tw15007697262581964233 : Unit := ()
def tw1707054949445044810 : Unit := ()
def tw8557363327303343927 : Unit := ()
def tw9165090779993287348 : Unit := ()
def tw2484224079093030640 : Unit := ()
def tw5805983629924312506 : Unit := ()
def tw11185478058361659922 : Unit := ()
def tw15495661506464687965 : Unit := ()
def tw15084494351434467421 : Unit := ()
def tw5917937521001353215 : Unit := ()
def tw9126554306796553983 : Unit := ()
def tw18175111446407386616 : Unit := ()
def tw17028285814003639859 : Unit := ()
def tw660855292463872389 : Unit := ()
def tw2421911662039078786 : Unit := ()
def tw15186120376242800791 : Unit := ()
def tw9138908745251888894 : Unit := ()
def tw16010985134186780860 : Unit := ()
def tw15764532081116715086 : Unit := ()
def tw13239115194936198654 : Unit := ()
def tw4227430842685403757 : Unit := ()
def tw17945082609475946480 : Unit := ()
def tw15162601447889492124 : Unit := ()
def tw3771923584254723794 : Unit := ()
def tw11459513862813106340 : Unit := ()
def tw18300051329224238622 : Unit := ()
def tw1001473676094709930 : Unit := ()
def tw3462227252982831281 : Unit := ()
def tw13565745394399342063 : Unit := ()
def tw10507373684077063194 : Unit := ()
def tw15208957480006144363 : Unit := ()
def tw1197670043865240169 : Unit := ()
def tw10488689204735711847 : Unit := ()
def tw11567844474091945860 : Unit := ()
def tw8906972682012159163 : Unit := ()
def tw10872866539358706408 : Unit := ()
def tw15707365496495430430 : Unit := ()
def tw9067101661052984850 : Unit := ()
def tw966716313048608699 : Unit := ()
def tw14434667771540093208 : Unit := ()
def tw16616556379905121169 : Unit := ()
def tw10904821749695451534 : Unit := ()
def tw14446522224522707170 : Unit := ()
def tw18011075327946584813 : Unit := ()
def tw11340025414055376722 : Unit := ()
def tw11794405572485906259 : Unit := ()
def tw2508651274729005114 : Unit := ()
def tw2388168717043854389 : Unit := ()
def tw1709947681371809443 : Unit := ()
def tw12253983955829517703 : Unit := ()
def tw7837059850590712463 : Unit := ()
def tw16908245227733346526 : Unit := ()
def tw5002248763319357396 : Unit := ()
def tw8116869930217488011 : Unit := ()
def tw3112080559971708461 : Unit := ()
def tw8600106820298133171 : Unit := ()
def tw5744186121538207092 : Unit := ()
def tw10093706406299312323 : Unit := ()
def tw17106266945225613017 : Unit := ()
def tw8628161352130728173 : Unit := ()
def tw17587795829351316378 : Unit := ()
def tw10931815382566841114 : Unit := ()
def tw10563722816560274667 : Unit := ()
def tw6683502134774723034 : Unit := ()
def tw14153951156406637033 : Unit := ()
def tw14975666061633537544 : Unit := ()
def tw10370181959769290450 : Unit := ()
def tw15931276215717343433 : Unit := ()
def tw12566673040851715732 : Unit := ()
def tw5315827994163580723 : Unit := ()
def tw14123962586434862843 : Unit := ()
def tw3468756470342658995 : Unit := ()
def tw11885858181397801963 : Unit := ()
def tw8204213698207904751 : Unit := ()
def tw8542998376331924326 : Unit := ()
def tw451991525199740898 : Unit := ()
def tw16774054648521373115 : Unit := ()
def tw3376120139225872712 : Unit := ()
def tw3568306393588029478 : Unit := ()
def tw12694550714944199121 : Unit := ()
def tw14636225651008298230 : Unit := ()
def tw776971125405417087 : Unit := ()
def tw9697018215187888671 : Unit := ()
def tw5056192000780631012 : Unit := ()
def tw888166446365085645 : Unit := ()
def tw1325704794548386634 : Unit := ()
def tw17426956454365447982 : Unit := ()
def tw6538817373267565642 : Unit := ()
def tw4685394789450831224 : Unit := ()
def tw9122242090364645743 : Unit := ()
def tw2583931491038315890 : Unit := ()
def tw14464286902335554802 : Unit := ()
def tw6563136633472732907 : Unit := ()
def tw10900552807904078090 : Unit := ()
def tw9682281976783966287 : Unit := ()
def tw6877607291386777435 : Unit := ()
def tw18319622137269416143 : Unit := ()
def tw591705199265717477 : Unit := ()
def tw7934711480654382672 : Unit := ()
def tw18327912381657574142 : Unit := ()
def tw14654026222283669553 : Unit := ()
def tw17666314514062217240 : Unit := ()
def tw1681756188715214249 : Unit := ()
def tw3687927285362919797 : Unit := ()
def tw13991113272668245278 : Unit := ()
def tw1739793259120928120 : Unit := ()
def tw13264986201121754911 : Unit := ()
def tw11138381176353143412 : Unit := ()
def tw12085167235105747968 : Unit := ()
def tw507013108764263481 : Unit := ()
def tw2353294636474083872 : Unit := ()
def tw7010920323652183053 : Unit := ()
def tw4578911958361542589 : Unit := ()
def tw5496434045736777446 : Unit := ()
def tw13027620544719381551 : Unit := ()
def tw7398887842339384828 : Unit := ()
def tw11474788638389879853 : Unit := ()
def tw1547703173245795305 : Unit := ()
def tw10180843593596194596 : Unit := ()
def tw11458433357825546059 : Unit := ()
def tw17022149473779506339 : Unit := ()
def tw7421102090903594977 : Unit := ()
def tw4465396686863679865 : Unit := ()
def tw6903320123427287146 : Unit := ()
end PySem.W.Fast

end

section
set_option maxHeartbeats 4000000
namespace Fb
open PySem L2
local macro_rules | `(tactic| walk_at $x:str) => do
  let ws := x.getString.splitOn " "
  if ws.head! != "wp" then Lean.Macro.throwUnsupported
  let mut hs : Array (Lean.TSyntax `Lean.Parser.Tactic.simpLemma) := #[]
  for z in ws.tail! do
    let ps := z.splitOn ":"
    let mut t : Lean.TSyntax `term := Lean.mkIdent ps.head!.toName
    for p in ps.tail! do
      let a : Lean.TSyntax `term := Lean.mkIdent p.toName
      t ← `($t $a)
    hs := hs.push (← `(Lean.Parser.Tactic.simpLemma| $t:term))
  `(tactic| simp only [cxOf_K, cxOf_A, cxComp_K, cxComp_A, tSeq, tNext, tForG, iRng1, iList, tLst, tAsg, gName, tRet, tRetN, tOp, tVar, tC, rI0, rI, rU, tUn, tChain, tTest, tB, tIfS, tAnd, tOr, tNot, tAndV, tOrV, tNotV, tIsN, tNotN, tCB, tCons, tNil, tCall, rEq, rNe, L2.start, List.map_cons, List.map_nil, List.cons_append, List.nil_append, List.append_nil, List.length_cons, List.length_nil, List.replicate, List.getElem?_cons_zero, List.getElem?_cons_succ, List.set_cons_zero, List.set_cons_succ, Option.some.injEq, V.int.injEq, V.bl.injEq, V.ref.injEq, V.str.injEq, V.ty.injEq, List.cons.injEq, exists_eq_left', exists_and_left, exists_eq_left, and_true, true_and, exists_eq_right, exists_eq_right', Nat.zero_add, Nat.reduceAdd, Nat.reduceSub, and_assoc, ↓reduceIte, Bool.not_true, Bool.not_false, Bool.false_eq_true, Bool.true_and, Bool.false_and, cmul_2, cmul_4, cmul_h, known_bool, known_int, known_str, known_list, known_tuple, known_dict, sT_NoneType_bool, sT_NoneType_int, sT_NoneType_str, sT_NoneType_list, sT_NoneType_tuple, sT_NoneType_dict, sT_bool_bool, sT_bool_int, sT_bool_str, sT_bool_list, sT_bool_tuple, sT_bool_dict, sT_int_bool, sT_int_int, sT_int_str, sT_int_list, sT_int_tuple, sT_int_dict, sT_str_bool, sT_str_int, sT_str_str, sT_str_list, sT_str_tuple, sT_str_dict, sT_list_bool, sT_list_int, sT_list_str, sT_list_list, sT_list_tuple, sT_list_dict, sT_tuple_bool, sT_tuple_int, sT_tuple_str, sT_tuple_list, sT_tuple_tuple, sT_tuple_dict, sT_dict_bool, sT_dict_int, sT_dict_str, sT_dict_list, sT_dict_tuple, sT_dict_dict, tyN_non, tyN_bl, tyN_int, tyN_str, Int.reduceLT, small_of, Nat.reduceLeDiff, scal, not_true_eq_false, not_false_eq_true, reduceCtorEq, decide_true, decide_false, Bool.or_true, Bool.true_or, Bool.or_false, Bool.false_or, Bool.and_true, Bool.and_false, HO.tup.injEq, HO.lst.injEq, tYes, false_and, false_or, or_false, and_false, exists_false, tDNewK, tDrop, sDPut, tDGet, tDIn, tDNotIn, tTup, tBM, tBM0, upd_same, upd_upd, iTup, iStr, tLc, tLcR, gTup, gCons, gNil, Option.isSome_some, Option.isSome_none, Option.getD_some, Option.getD_none, tSl, rSlS, rStarts, rFind, tIf, tFmt, tJoin, tRaise, rIxS, $hs,*])

-- WPMORE tDNewK, tDrop, sDPut, tDGet, tDIn, tDNotIn, tTup, tBM, tBM0, upd_same, upd_upd, iTup, iStr, tLc, tLcR, gTup, gCons, gNil, Option.isSome_some, Option.isSome_none, Option.getD_some, Option.getD_none, tSl, rSlS, rStarts, rFind, tIf, tFmt, tJoin, tRaise, rIxS

seal L2.PE L2.PS L2.PSs L2.PT L2.PW L2.PA L2.PC L2.PG L2.PGs L2.PI L2.PO L2.PPs
section
variable {P : Program} {w : World} {K : PySem.W.Frag} {mg : Str → Option Value} {base : Heap} {C : Addr}
/-! what the top has written, and the law's own head -/
theorem all_mk {l : PySem.W.OpenLaw} {h : Heap} {fa f_shown f_read f_line_of f_thing_of f_check_name f_number_of f_size_of f_made_of f__law_so f__law_whole f__law_at f__law_refused f__law_under_base f_law C_FreshError C_NoDesk C_NoThing C_NoClock C_NoAnswer C_Stopped C_NoLine : Addr} (X : K.In h) (G : h.Ns mainGlobals mg) (hfa : mg "law" = some (.ref fa))
    {od_shown an_shown od_read an_read od_line_of an_line_of od_thing_of an_thing_of od_check_name an_check_name od_number_of an_number_of od_size_of an_size_of od_made_of an_made_of od__law_so an__law_so od__law_whole an__law_whole od__law_at an__law_at od__law_refused an__law_refused od__law_under_base an__law_under_base od_law an_law : Option Addr} {sl_shown sl_read sl_line_of sl_thing_of sl_check_name sl_number_of sl_size_of sl_made_of sl__law_so sl__law_whole sl__law_at sl__law_refused sl__law_under_base sl_law : Array (Option Value)} {oc_shown kV_shown dc_shown pm_shown cd_shown ct_shown oc_read kV_read dc_read pm_read cd_read ct_read oc_line_of kV_line_of dc_line_of pm_line_of cd_line_of ct_line_of oc_thing_of kV_thing_of dc_thing_of pm_thing_of cd_thing_of ct_thing_of oc_check_name kV_check_name dc_check_name pm_check_name cd_check_name ct_check_name oc_number_of kV_number_of dc_number_of pm_number_of cd_number_of ct_number_of oc_size_of kV_size_of dc_size_of pm_size_of cd_size_of ct_size_of oc_made_of kV_made_of dc_made_of pm_made_of cd_made_of ct_made_of oc__law_so kV__law_so dc__law_so pm__law_so cd__law_so ct__law_so oc__law_whole kV__law_whole dc__law_whole pm__law_whole cd__law_whole ct__law_whole oc__law_at kV__law_at dc__law_at pm__law_at cd__law_at ct__law_at oc__law_refused kV__law_refused dc__law_refused pm__law_refused cd__law_refused ct__law_refused oc__law_under_base kV__law_under_base dc__law_under_base pm__law_under_base cd__law_under_base ct__law_under_base oc_law kV_law dc_law pm_law cd_law ct_law : Value} {tk_LETTERS tk_FIGURES : Tok}
    (a_FreshError : PySem.W.nsIn K mainGlobals "FreshError" = some (some (.ref C_FreshError)))
    (a_NoDesk : PySem.W.nsIn K mainGlobals "NoDesk" = some (some (.ref C_NoDesk)))
    (a_NoThing : PySem.W.nsIn K mainGlobals "NoThing" = some (some (.ref C_NoThing)))
    (a_NoClock : PySem.W.nsIn K mainGlobals "NoClock" = some (some (.ref C_NoClock)))
    (a_NoAnswer : PySem.W.nsIn K mainGlobals "NoAnswer" = some (some (.ref C_NoAnswer)))
    (a_Stopped : PySem.W.nsIn K mainGlobals "Stopped" = some (some (.ref C_Stopped)))
    (a_NoLine : PySem.W.nsIn K mainGlobals "NoLine" = some (some (.ref C_NoLine)))
    (x_NoLine : PySem.W.excIn K C_NoLine valMro "ValueError.__new__" = true)
    (xm_1 : PySem.W.exmOne K (.ref C_NoLine) (.ref C_NoLine) = some true)
    (xm_2 : PySem.W.exmOne K (.ref C_NoLine) (.ref C_FreshError) = some true)
    (e_ga : PySem.W.findIn K (.ref C_NoLine) "__getattribute__" = some (some (.builtin "BaseException.__getattribute__")))
    (e_gh : PySem.W.findIn K (.ref C_NoLine) "__getattr__" = some none)
    (e_mb : PySem.W.mroIn K C_NoLine (.type "BaseException") = some true)
    (e_c : (PySem.W.clsIn K C_NoLine).isSome = true)
    (e_a : PySem.W.findIn K (.ref C_NoLine) "__class__" = some (some (.builtin "object.__class__")))
    (e_n : PySem.W.specialIn K (.builtin "object.__class__") "__get__" = some (some (.builtin "getset_descriptor.__get__")))
    (e_t : PySem.W.takesIn K (.builtin "object.__class__") = some true)
    (e_m : PySem.W.mroIn K C_NoLine (.type "object") = some true)
    (kt_NoDesk : PySem.W.kitOne K (.ref C_NoLine) (.ref C_NoDesk) = some false)
    (kt_NoThing : PySem.W.kitOne K (.ref C_NoLine) (.ref C_NoThing) = some false)
    (kt_NoClock : PySem.W.kitOne K (.ref C_NoLine) (.ref C_NoClock) = some false)
    (kt_NoAnswer : PySem.W.kitOne K (.ref C_NoLine) (.ref C_NoAnswer) = some false)
    (kt_Stopped : PySem.W.kitOne K (.ref C_NoLine) (.ref C_Stopped) = some false)
    (kt_NoLine : PySem.W.kitOne K (.ref C_NoLine) (.ref C_NoLine) = some true)
    (kt_ValueError : PySem.W.kitOne K (.ref C_NoLine) (.type "ValueError") = some true)
    (a_LETTERS : PySem.W.nsIn K mainGlobals "LETTERS" = some (some (.str LET tk_LETTERS)))
    (a_FIGURES : PySem.W.nsIn K mainGlobals "FIGURES" = some (some (.str FIG tk_FIGURES)))
    (a_shown : PySem.W.nsIn K mainGlobals "shown" = some (some (.ref f_shown)))
    (l_shown : K.lookup f_shown = some ⟨oc_shown, od_shown, .func (PySem.W.fnOf "shown" "shown" (defArgs (top 11)) (defBody (top 11)) (defScope (top 11)) .none kV_shown dc_shown pm_shown an_shown cd_shown ct_shown), sl_shown⟩)
    (c_shown : PySem.W.codeIn K cd_shown "shown" = true)
    (k_shown : PySem.W.keepIn K (.ref f_shown) = true)
    (a_read : PySem.W.nsIn K mainGlobals "read" = some (some (.ref f_read)))
    (l_read : K.lookup f_read = some ⟨oc_read, od_read, .func (PySem.W.fnOf "read" "read" (defArgs (top 12)) (defBody (top 12)) (defScope (top 12)) .none kV_read dc_read pm_read an_read cd_read ct_read), sl_read⟩)
    (c_read : PySem.W.codeIn K cd_read "read" = true)
    (k_read : PySem.W.keepIn K (.ref f_read) = true)
    (a_line_of : PySem.W.nsIn K mainGlobals "line_of" = some (some (.ref f_line_of)))
    (l_line_of : K.lookup f_line_of = some ⟨oc_line_of, od_line_of, .func (PySem.W.fnOf "line_of" "line_of" (defArgs (top 13)) (defBody (top 13)) (defScope (top 13)) .none kV_line_of dc_line_of pm_line_of an_line_of cd_line_of ct_line_of), sl_line_of⟩)
    (c_line_of : PySem.W.codeIn K cd_line_of "line_of" = true)
    (k_line_of : PySem.W.keepIn K (.ref f_line_of) = true)
    (a_thing_of : PySem.W.nsIn K mainGlobals "thing_of" = some (some (.ref f_thing_of)))
    (l_thing_of : K.lookup f_thing_of = some ⟨oc_thing_of, od_thing_of, .func (PySem.W.fnOf "thing_of" "thing_of" (defArgs (top 14)) (defBody (top 14)) (defScope (top 14)) .none kV_thing_of dc_thing_of pm_thing_of an_thing_of cd_thing_of ct_thing_of), sl_thing_of⟩)
    (c_thing_of : PySem.W.codeIn K cd_thing_of "thing_of" = true)
    (k_thing_of : PySem.W.keepIn K (.ref f_thing_of) = true)
    (a_check_name : PySem.W.nsIn K mainGlobals "check_name" = some (some (.ref f_check_name)))
    (l_check_name : K.lookup f_check_name = some ⟨oc_check_name, od_check_name, .func (PySem.W.fnOf "check_name" "check_name" (defArgs (top 15)) (defBody (top 15)) (defScope (top 15)) .none kV_check_name dc_check_name pm_check_name an_check_name cd_check_name ct_check_name), sl_check_name⟩)
    (c_check_name : PySem.W.codeIn K cd_check_name "check_name" = true)
    (k_check_name : PySem.W.keepIn K (.ref f_check_name) = true)
    (a_number_of : PySem.W.nsIn K mainGlobals "number_of" = some (some (.ref f_number_of)))
    (l_number_of : K.lookup f_number_of = some ⟨oc_number_of, od_number_of, .func (PySem.W.fnOf "number_of" "number_of" (defArgs (top 16)) (defBody (top 16)) (defScope (top 16)) .none kV_number_of dc_number_of pm_number_of an_number_of cd_number_of ct_number_of), sl_number_of⟩)
    (c_number_of : PySem.W.codeIn K cd_number_of "number_of" = true)
    (k_number_of : PySem.W.keepIn K (.ref f_number_of) = true)
    (a_size_of : PySem.W.nsIn K mainGlobals "size_of" = some (some (.ref f_size_of)))
    (l_size_of : K.lookup f_size_of = some ⟨oc_size_of, od_size_of, .func (PySem.W.fnOf "size_of" "size_of" (defArgs (top 17)) (defBody (top 17)) (defScope (top 17)) .none kV_size_of dc_size_of pm_size_of an_size_of cd_size_of ct_size_of), sl_size_of⟩)
    (c_size_of : PySem.W.codeIn K cd_size_of "size_of" = true)
    (k_size_of : PySem.W.keepIn K (.ref f_size_of) = true)
    (a_made_of : PySem.W.nsIn K mainGlobals "made_of" = some (some (.ref f_made_of)))
    (l_made_of : K.lookup f_made_of = some ⟨oc_made_of, od_made_of, .func (PySem.W.fnOf "made_of" "made_of" (defArgs (top 18)) (defBody (top 18)) (defScope (top 18)) .none kV_made_of dc_made_of pm_made_of an_made_of cd_made_of ct_made_of), sl_made_of⟩)
    (c_made_of : PySem.W.codeIn K cd_made_of "made_of" = true)
    (k_made_of : PySem.W.keepIn K (.ref f_made_of) = true)
    (a__law_so : PySem.W.nsIn K mainGlobals "_law_so" = some (some (.ref f__law_so)))
    (l__law_so : K.lookup f__law_so = some ⟨oc__law_so, od__law_so, .func (PySem.W.fnOf "_law_so" "_law_so" (defArgs (top 20)) (defBody (top 20)) (defScope (top 20)) .none kV__law_so dc__law_so pm__law_so an__law_so cd__law_so ct__law_so), sl__law_so⟩)
    (c__law_so : PySem.W.codeIn K cd__law_so "_law_so" = true)
    (k__law_so : PySem.W.keepIn K (.ref f__law_so) = true)
    (a__law_whole : PySem.W.nsIn K mainGlobals "_law_whole" = some (some (.ref f__law_whole)))
    (l__law_whole : K.lookup f__law_whole = some ⟨oc__law_whole, od__law_whole, .func (PySem.W.fnOf "_law_whole" "_law_whole" (defArgs (top 21)) (defBody (top 21)) (defScope (top 21)) .none kV__law_whole dc__law_whole pm__law_whole an__law_whole cd__law_whole ct__law_whole), sl__law_whole⟩)
    (c__law_whole : PySem.W.codeIn K cd__law_whole "_law_whole" = true)
    (k__law_whole : PySem.W.keepIn K (.ref f__law_whole) = true)
    (a__law_at : PySem.W.nsIn K mainGlobals "_law_at" = some (some (.ref f__law_at)))
    (l__law_at : K.lookup f__law_at = some ⟨oc__law_at, od__law_at, .func (PySem.W.fnOf "_law_at" "_law_at" (defArgs (top 22)) (defBody (top 22)) (defScope (top 22)) .none kV__law_at dc__law_at pm__law_at an__law_at cd__law_at ct__law_at), sl__law_at⟩)
    (c__law_at : PySem.W.codeIn K cd__law_at "_law_at" = true)
    (k__law_at : PySem.W.keepIn K (.ref f__law_at) = true)
    (a__law_refused : PySem.W.nsIn K mainGlobals "_law_refused" = some (some (.ref f__law_refused)))
    (l__law_refused : K.lookup f__law_refused = some ⟨oc__law_refused, od__law_refused, .func (PySem.W.fnOf "_law_refused" "_law_refused" (defArgs (top 23)) (defBody (top 23)) (defScope (top 23)) .none kV__law_refused dc__law_refused pm__law_refused an__law_refused cd__law_refused ct__law_refused), sl__law_refused⟩)
    (c__law_refused : PySem.W.codeIn K cd__law_refused "_law_refused" = true)
    (k__law_refused : PySem.W.keepIn K (.ref f__law_refused) = true)
    (a__law_under_base : PySem.W.nsIn K mainGlobals "_law_under_base" = some (some (.ref f__law_under_base)))
    (l__law_under_base : K.lookup f__law_under_base = some ⟨oc__law_under_base, od__law_under_base, .func (PySem.W.fnOf "_law_under_base" "_law_under_base" (defArgs (top 24)) (defBody (top 24)) (defScope (top 24)) .none kV__law_under_base dc__law_under_base pm__law_under_base an__law_under_base cd__law_under_base ct__law_under_base), sl__law_under_base⟩)
    (c__law_under_base : PySem.W.codeIn K cd__law_under_base "_law_under_base" = true)
    (k__law_under_base : PySem.W.keepIn K (.ref f__law_under_base) = true)
    (a_law : PySem.W.nsIn K mainGlobals "law" = some (some (.ref f_law)))
    (l_law : K.lookup f_law = some ⟨oc_law, od_law, .func (PySem.W.fnOf "law" "law" (defArgs (top 25)) (defBody (top 25)) (defScope (top 25)) .none kV_law dc_law pm_law an_law cd_law ct_law), sl_law⟩)
    (c_law : PySem.W.codeIn K cd_law "law" = true)
    (k_law : PySem.W.keepIn K (.ref f_law) = true)
    (n_ValueError : PySem.W.nsIn K mainGlobals "ValueError" = some none)
    (n_all : PySem.W.nsIn K mainGlobals "all" = some none)
    (n_bool : PySem.W.nsIn K mainGlobals "bool" = some none)
    (n_dict : PySem.W.nsIn K mainGlobals "dict" = some none)
    (n_int : PySem.W.nsIn K mainGlobals "int" = some none)
    (n_isinstance : PySem.W.nsIn K mainGlobals "isinstance" = some none)
    (n_len : PySem.W.nsIn K mainGlobals "len" = some none)
    (n_list : PySem.W.nsIn K mainGlobals "list" = some none)
    (n_min : PySem.W.nsIn K mainGlobals "min" = some none)
    (n_range : PySem.W.nsIn K mainGlobals "range" = some none)
    (n_str : PySem.W.nsIn K mainGlobals "str" = some none)
    (n_tuple : PySem.W.nsIn K mainGlobals "tuple" = some none) :
    ∃ fd : FuncData, (∀ (s : Shared) (v : Value), BindsTo s fd ⟨[v], []⟩ [("_law_script", v)]) ∧ ∀ base : Heap, K.In base → base.Ns mainGlobals mg → FnOk l.prog w K mg base CX0 6 fa fd ["_law_script"] (sp_law K) := by
  have e := hfa.symm.trans (PySem.W.mg_of X G a_law)
  cases e
  have F_shown := fun_mk (st := top 11) l_shown c_shown k_shown
  have B_shown := F_shown.binds (ps := ["things"]) fun _ _ _ _ _ _ us hl => match us, hl with | [_], _ => rfl
  have F_read := fun_mk (st := top 12) l_read c_read k_read
  have B_read := F_read.binds (ps := ["count", "lines"]) fun _ _ _ _ _ _ us hl => match us, hl with | [_, _], _ => rfl
  have F_line_of := fun_mk (st := top 13) l_line_of c_line_of k_line_of
  have B_line_of := F_line_of.binds (ps := ["name", "keeper", "value"]) fun _ _ _ _ _ _ us hl => match us, hl with | [_, _, _], _ => rfl
  have F_thing_of := fun_mk (st := top 14) l_thing_of c_thing_of k_thing_of
  have B_thing_of := F_thing_of.binds (ps := ["count", "line"]) fun _ _ _ _ _ _ us hl => match us, hl with | [_, _], _ => rfl
  have F_check_name := fun_mk (st := top 15) l_check_name c_check_name k_check_name
  have B_check_name := F_check_name.binds (ps := ["name"]) fun _ _ _ _ _ _ us hl => match us, hl with | [_], _ => rfl
  have F_number_of := fun_mk (st := top 16) l_number_of c_number_of k_number_of
  have B_number_of := F_number_of.binds (ps := ["text"]) fun _ _ _ _ _ _ us hl => match us, hl with | [_], _ => rfl
  have F_size_of := fun_mk (st := top 17) l_size_of c_size_of k_size_of
  have B_size_of := F_size_of.binds (ps := ["figures"]) fun _ _ _ _ _ _ us hl => match us, hl with | [_], _ => rfl
  have F_made_of := fun_mk (st := top 18) l_made_of c_made_of k_made_of
  have B_made_of := F_made_of.binds (ps := ["text", "signs"]) fun _ _ _ _ _ _ us hl => match us, hl with | [_, _], _ => rfl
  have F__law_so := fun_mk (st := top 20) l__law_so c__law_so k__law_so
  have B__law_so := F__law_so.binds (ps := ["_law_found", "_law_meant"]) fun _ _ _ _ _ _ us hl => match us, hl with | [_, _], _ => rfl
  have F__law_whole := fun_mk (st := top 21) l__law_whole c__law_whole k__law_whole
  have B__law_whole := F__law_whole.binds (ps := ["_law_found"]) fun _ _ _ _ _ _ us hl => match us, hl with | [_], _ => rfl
  have F__law_at := fun_mk (st := top 22) l__law_at c__law_at k__law_at
  have B__law_at := F__law_at.binds (ps := ["_law_script", "_law_k"]) fun _ _ _ _ _ _ us hl => match us, hl with | [_, _], _ => rfl
  have F__law_refused := fun_mk (st := top 23) l__law_refused c__law_refused k__law_refused
  have B__law_refused := F__law_refused.binds (ps := ["_law_count", "_law_lines"]) fun _ _ _ _ _ _ us hl => match us, hl with | [_, _], _ => rfl
  have F__law_under_base := fun_mk (st := top 24) l__law_under_base c__law_under_base k__law_under_base
  have B__law_under_base := F__law_under_base.binds (ps := ["_law_count", "_law_lines"]) fun _ _ _ _ _ _ us hl => match us, hl with | [_, _], _ => rfl
  have F_law := fun_mk (st := top 25) l_law c_law k_law
  have B_law := F_law.binds (ps := ["_law_script"]) fun _ _ _ _ _ _ us hl => match us, hl with | [_], _ => rfl
  refine ⟨PySem.W.fnOf "law" "law" (defArgs (top 25)) (defBody (top 25)) (defScope (top 25)) .none kV_law dc_law pm_law an_law cd_law ct_law, fun s v => .of_eq rfl, fun base _ _ => ?_⟩
  have m_len := PySem.W.mg_none_of X G n_len
  have m_range := PySem.W.mg_none_of X G n_range
  have m_list := PySem.W.mg_none_of X G n_list
  have m_min := PySem.W.mg_none_of X G n_min
  have m_isinstance := PySem.W.mg_none_of X G n_isinstance
  have m_int := PySem.W.mg_none_of X G n_int
  have m_bool := PySem.W.mg_none_of X G n_bool
  have m_str := PySem.W.mg_none_of X G n_str
  have m_tuple := PySem.W.mg_none_of X G n_tuple
  have m_dict := PySem.W.mg_none_of X G n_dict
  have m_all := PySem.W.mg_none_of X G n_all
  have m_ValueError := PySem.W.mg_none_of X G n_ValueError
  have NL : Nl K mg C_NoLine C_FreshError C_NoDesk C_NoThing C_NoClock C_NoAnswer C_Stopped := ⟨⟨PySem.W.mg_of X G a_NoLine, x_NoLine⟩, PySem.W.mg_of X G a_FreshError, PySem.W.mg_of X G a_NoDesk, PySem.W.mg_of X G a_NoThing, PySem.W.mg_of X G a_NoClock, PySem.W.mg_of X G a_NoAnswer, PySem.W.mg_of X G a_Stopped, xm_1, xm_2, ⟨e_ga, e_gh, e_mb, e_c, e_a, e_n, e_t, e_m⟩, kt_NoDesk, kt_NoThing, kt_NoClock, kt_NoAnswer, kt_Stopped, kt_NoLine, kt_ValueError⟩
  have d_made_of : Def l.prog w K mg base "made_of" 1 ["text", "signs"] sp_made := ⟨_, _, PySem.W.mg_of X G a_made_of, k_made_of, B_made_of, ok_made m_all F_made_of⟩
  have d_size_of : Def l.prog w K mg base "size_of" 1 ["figures"] sp_size := ⟨_, _, PySem.W.mg_of X G a_size_of, k_size_of, B_size_of, ok_size (PySem.W.mg_of X G a_FIGURES) ⟨_, rfl⟩ F_size_of⟩
  have d_check_name : Def1 l.prog w K mg base "check_name" 2 ["name"] (sp_check C_NoLine) := ⟨_, _, PySem.W.mg_of X G a_check_name, k_check_name, B_check_name, ok_check (PySem.W.mg_of X G a_LETTERS) ⟨_, rfl⟩ NL.er d_made_of F_check_name⟩
  have d_number_of : Def1 l.prog w K mg base "number_of" 2 ["text"] (sp_number C_NoLine) := ⟨_, _, PySem.W.mg_of X G a_number_of, k_number_of, B_number_of, ok_number (PySem.W.mg_of X G a_FIGURES) ⟨_, rfl⟩ NL.er d_made_of d_size_of F_number_of⟩
  have d_line_of : Def1 l.prog w K mg base "line_of" 3 ["name", "keeper", "value"] sp_line := ⟨_, _, PySem.W.mg_of X G a_line_of, k_line_of, B_line_of, ok_line d_check_name F_line_of⟩
  have d_thing_of : Def1 l.prog w K mg base "thing_of" 3 ["count", "line"] (sp_thing C_NoLine) := ⟨_, _, PySem.W.mg_of X G a_thing_of, k_thing_of, B_thing_of, ok_thing m_len NL.er d_check_name d_number_of F_thing_of⟩
  have d_shown : Def l.prog w K mg base "shown" 4 ["things"] sp_shown := ⟨_, _, PySem.W.mg_of X G a_shown, k_shown, B_shown, ok_shown d_line_of F_shown⟩
  have d_read : Def1 l.prog w K mg base "read" 4 ["count", "lines"] (sp_read C_NoLine) := ⟨_, _, PySem.W.mg_of X G a_read, k_read, B_read, ok_read NL.er d_thing_of F_read⟩
  have d0 : Def l.prog w K mg base "_law_so" 0 ["_law_found", "_law_meant"] (sp_so' K 0) := ⟨_, _, PySem.W.mg_of X G a__law_so, k__law_so, B__law_so, ⟨fun _ _ _ _ z => z.elim, fun _ _ _ _ _ _ _ _ _ _ _ _ _ z => z.elim⟩⟩
  have d1 : Def l.prog w K mg base "_law_so" 1 ["_law_found", "_law_meant"] (sp_so' K 1) := ⟨_, _, PySem.W.mg_of X G a__law_so, k__law_so, B__law_so, ok_so m_isinstance m_int m_bool m_str m_dict m_tuple m_list m_len m_range d0 F__law_so⟩
  have d__law_so : Def l.prog w K mg base "_law_so" 2 ["_law_found", "_law_meant"] (sp_so K 1) := ⟨_, _, PySem.W.mg_of X G a__law_so, k__law_so, B__law_so, ok_so m_isinstance m_int m_bool m_str m_dict m_tuple m_list m_len m_range d1 F__law_so⟩
  have d__law_whole : Def l.prog w K mg base "_law_whole" 1 ["_law_found"] sp_whole := ⟨_, _, PySem.W.mg_of X G a__law_whole, k__law_whole, B__law_whole, ok_law_whole m_isinstance m_int m_bool F__law_whole⟩
  have d__law_at : Def l.prog w K mg base "_law_at" 1 ["_law_script", "_law_k"] (sp_at K) := ⟨_, _, PySem.W.mg_of X G a__law_at, k__law_at, B__law_at, ok_at m_len F__law_at⟩
  have d__law_refused : Def l.prog w K mg base "_law_refused" 5 ["_law_count", "_law_lines"] sp_refused := ⟨_, _, PySem.W.mg_of X G a__law_refused, k__law_refused, B__law_refused, ok_refused NL d_read F__law_refused⟩
  have d__law_under_base : Def l.prog w K mg base "_law_under_base" 5 ["_law_count", "_law_lines"] sp_refused := ⟨_, _, PySem.W.mg_of X G a__law_under_base, k__law_under_base, B__law_under_base, ok_under NL m_isinstance m_ValueError d_read F__law_under_base⟩
  exact ok_law NL m_range m_len m_list m_min m_int m_str m_tuple m_isinstance d__law_at d__law_whole d__law_so d_shown d_read d__law_refused d__law_under_base F_law
theorem walk {l : PySem.W.OpenLaw} {q : Program} {loose : List Str} {XP : (Str → Option Value) → Heap → Prop} {YP : World → Heap → Prop} {d : DefRec} {K : Params → PySem.W.Frag} (hn : l.most = some 63) (hdf : d.params.defaults = [])
    (hY : ∀ (w : World) (h : Heap), YP w h → (K w.params).In h)
    (F : ∀ (w : World) (mg : Str → Option Value) (fa : Addr) (h : Heap), (K w.params).In h → h.Ns mainGlobals mg → mg d.name = some (.ref fa) →
      ∃ fd : FuncData, (∀ (s : Shared) (u : Value), BindsTo s fd ⟨[u], []⟩ [("_law_script", u)]) ∧ ∀ base : Heap, (K w.params).In base → base.Ns mainGlobals mg → FnOk l.prog w (K w.params) mg base CX0 6 fa fd ["_law_script"] (sp_law (K w.params))) :
    PySem.W.WalkO q loose XP YP l.row.toRowW d [] (fun f vs => PySem.call f vs) :=
  L2.walk_of (n := 63) (k := 6) (x := "_law_script") (CX := fun _ => CX0) (sp := fun w => sp_law (K w.params)) hn (by decide) hdf ⟨rfl, by decide, by decide⟩ hY F (fun _ _ a ns hl _ hS => ⟨a, ns, rfl, hS, hl, fun _ => rfl⟩) fun _ _ _ _ _ z => z
end
end Fb
open PySem PySem.W PyProof.Rows
set_option maxRecDepth 100000 in
set_option maxHeartbeats 0 in
theorem PySem.Challenge.cw_freshbook_k12_things_on_lines_holds : PySem.Challenge.rw_freshbook_k12_things_on_lines.Holds := by
  w_on; o_law; k_head; (case hw => w_witness2)
  k_fill
  refine Fb.walk (l := PySem.Challenge.rw_freshbook_k12_things_on_lines) rfl rfl (fun w h Y => PySem.W.kIn_of Y) ?F
  case F =>
    intro w mg fa h KX G hmg
    refine' Fb.all_mk KX G hmg ?a_FreshError ?a_NoDesk ?a_NoThing ?a_NoClock ?a_NoAnswer ?a_Stopped ?a_NoLine ?x_NoLine ?xm_1 ?xm_2 ?e_ga ?e_gh ?e_mb ?e_c ?e_a ?e_n ?e_t ?e_m ?kt_NoDesk ?kt_NoThing ?kt_NoClock ?kt_NoAnswer ?kt_Stopped ?kt_NoLine ?kt_ValueError ?a_LETTERS ?a_FIGURES ?a_shown ?l_shown ?c_shown ?k_shown ?a_read ?l_read ?c_read ?k_read ?a_line_of ?l_line_of ?c_line_of ?k_line_of ?a_thing_of ?l_thing_of ?c_thing_of ?k_thing_of ?a_check_name ?l_check_name ?c_check_name ?k_check_name ?a_number_of ?l_number_of ?c_number_of ?k_number_of ?a_size_of ?l_size_of ?c_size_of ?k_size_of ?a_made_of ?l_made_of ?c_made_of ?k_made_of ?a__law_so ?l__law_so ?c__law_so ?k__law_so ?a__law_whole ?l__law_whole ?c__law_whole ?k__law_whole ?a__law_at ?l__law_at ?c__law_at ?k__law_at ?a__law_refused ?l__law_refused ?c__law_refused ?k__law_refused ?a__law_under_base ?l__law_under_base ?c__law_under_base ?k__law_under_base ?a_law ?l_law ?c_law ?k_law ?n_ValueError ?n_all ?n_bool ?n_dict ?n_int ?n_isinstance ?n_len ?n_list ?n_min ?n_range ?n_str ?n_tuple
    (case a_FreshError => k_is)
    (case a_NoDesk => k_is)
    (case a_NoThing => k_is)
    (case a_NoClock => k_is)
    (case a_NoAnswer => k_is)
    (case a_Stopped => k_is)
    (case a_NoLine => k_is)
    (case x_NoLine => k_exc)
    (case xm_1 => kts_exm)
    (case xm_2 => kts_exm)
    (case e_ga => (first | k_is | kit_is | rfl | kernel_rfl))
    (case e_gh => (first | k_is | kit_is | rfl | kernel_rfl))
    (case e_mb => (first | k_is | kit_is | rfl | kernel_rfl))
    (case e_c => (first | k_is | kit_is | rfl | kernel_rfl))
    (case e_a => (first | k_is | kit_is | rfl | kernel_rfl))
    (case e_n => (first | k_is | kit_is | rfl | kernel_rfl))
    (case e_t => (first | k_is | kit_is | rfl | kernel_rfl))
    (case e_m => (first | k_is | kit_is | rfl | kernel_rfl))
    (case kt_NoDesk => (first | k_is | kit_is | rfl | kernel_rfl))
    (case kt_NoThing => (first | k_is | kit_is | rfl | kernel_rfl))
    (case kt_NoClock => (first | k_is | kit_is | rfl | kernel_rfl))
    (case kt_NoAnswer => (first | k_is | kit_is | rfl | kernel_rfl))
    (case kt_Stopped => (first | k_is | kit_is | rfl | kernel_rfl))
    (case kt_NoLine => (first | k_is | kit_is | rfl | kernel_rfl))
    (case kt_ValueError => (first | k_is | kit_is | rfl | kernel_rfl))
    (case a_LETTERS => k_is)
    (case a_FIGURES => k_is)
    (case a_shown => k_is)
    (case l_shown => k_is)
    (case c_shown => k_is)
    (case k_shown => k_is)
    (case a_read => k_is)
    (case l_read => k_is)
    (case c_read => k_is)
    (case k_read => k_is)
    (case a_line_of => k_is)
    (case l_line_of => k_is)
    (case c_line_of => k_is)
    (case k_line_of => k_is)
    (case a_thing_of => k_is)
    (case l_thing_of => k_is)
    (case c_thing_of => k_is)
    (case k_thing_of => k_is)
    (case a_check_name => k_is)
    (case l_check_name => k_is)
    (case c_check_name => k_is)
    (case k_check_name => k_is)
    (case a_number_of => k_is)
    (case l_number_of => k_is)
    (case c_number_of => k_is)
    (case k_number_of => k_is)
    (case a_size_of => k_is)
    (case l_size_of => k_is)
    (case c_size_of => k_is)
    (case k_size_of => k_is)
    (case a_made_of => k_is)
    (case l_made_of => k_is)
    (case c_made_of => k_is)
    (case k_made_of => k_is)
    (case a__law_so => k_is)
    (case l__law_so => k_is)
    (case c__law_so => k_is)
    (case k__law_so => k_is)
    (case a__law_whole => k_is)
    (case l__law_whole => k_is)
    (case c__law_whole => k_is)
    (case k__law_whole => k_is)
    (case a__law_at => k_is)
    (case l__law_at => k_is)
    (case c__law_at => k_is)
    (case k__law_at => k_is)
    (case a__law_refused => k_is)
    (case l__law_refused => k_is)
    (case c__law_refused => k_is)
    (case k__law_refused => k_is)
    (case a__law_under_base => k_is)
    (case l__law_under_base => k_is)
    (case c__law_under_base => k_is)
    (case k__law_under_base => k_is)
    (case a_law => k_is)
    (case l_law => k_is)
    (case c_law => k_is)
    (case k_law => k_is)
    (case n_ValueError => k_is)
    (case n_all => k_is)
    (case n_bool => k_is)
    (case n_dict => k_is)
    (case n_int => k_is)
    (case n_isinstance => k_is)
    (case n_len => k_is)
    (case n_list => k_is)
    (case n_min => k_is)
    (case n_range => k_is)
    (case n_str => k_is)
    (case n_tuple => k_is)

end
