import PyProof.Rows.All
import Wide.All
import OpenK.AllK
import Wide.FinOn
import Lean
import PyProof.EqAt
import PyProof.EqKinds
import PyProof.TupleCall
import OpenK.KRaise
import OpenK.KOwn
import KE.KTryMore
import PyProof.ExcBaseAll.ValueError
import PyProof.DictWalks
import KE.KDictSum
import PyProof.Rows.SortStr
import KE.RegKTryMore
import PySem.Challenge.RW_freshbook_k05_plain_yard
set_option Elab.async false
set_option linter.all false
set_option maxRecDepth 100000
namespace L2
open PySem PySem.Spec PyProof.Rows
abbrev Key:=Sum Int Str
def ig:Key->Value->Bool
 | .inl k,v=>Value.isInt k v
 | .inr x,v=>Value.isStrOf x v
def C6(w:World):Key->Int
 | .inl k=>hashInt k
 | .inr x=>hashStr w x
theorem bS:∀{k:Key} {v:Value},ig k v=true->(∃i t,k=Sum.inl i/\v=Value.int i t)∨(∃x t,k=Sum.inr x/\v=Value.str x t)
 | .inl i,v,h=>by
  obtain⟨t,e⟩:=Value.isInt_shape (k:=i) (v:=v) h
  exact .inl ⟨i,t,rfl,e⟩
 | .inr x,v,h=>by
  obtain⟨t,e⟩:=Value.isStrOf_shape (x:=x) (v:=v) h
  exact .inr ⟨x,t,rfl,e⟩
theorem wn(i:Int)(t:Tok):ig (.inl i) (.int i t)=true:=by simp[ig,Value.isInt]
theorem wo(x:Str)(t:Tok):ig (.inr x) (.str x t)=true:=by simp[ig,Value.isStrOf]
theorem Bv(a b:Int):decide ((Sum.inl a:Key)=Sum.inl b)=(a==b):=by
 by_cases e:a=b
 ·subst e;simp
 ·have h:¬(Sum.inl a:Key)=Sum.inl b:=fun q=>e (Sum.inl.inj q)
  rw[decide_eq_false h]
  exact(beq_eq_false_iff_ne.mpr e).symm
theorem BA(a b:Str):decide ((Sum.inr a:Key)=Sum.inr b)=decide (a=b):=by
 by_cases e:a=b
 ·subst e;simp
 ·have h:¬(Sum.inr a:Key)=Sum.inr b:=fun q=>e (Sum.inr.inj q)
  rw[decide_eq_false h,decide_eq_false e]
theorem Bw(a:Int)(b:Str):decide ((Sum.inl a:Key)=Sum.inr b)=false:=decide_eq_false (fun q=>nomatch q)
theorem Bz(a:Str)(b:Int):decide ((Sum.inr a:Key)=Sum.inl b)=false:=decide_eq_false (fun q=>nomatch q)
def aQ(prog:Program)(w:World):PySem.KeyKind prog w Key where
 is:=ig
 hash:=C6 w
 inj:=fun v a b ha hb=>by
  rcases bS ha with ⟨i,t,rfl,rfl⟩ |⟨x,t,rfl,rfl⟩
  ·rcases bS hb with ⟨j,u,rfl,e⟩ |⟨y,u,rfl,e⟩
   ·injection e with e1 _;rw[e1]
   ·exact nomatch e
  ·rcases bS hb with ⟨j,u,rfl,e⟩ |⟨y,u,rfl,e⟩
   ·exact nomatch e
   ·injection e with e1 _;rw[e1]
 byValue:=fun k v h=>by
  rcases bS h with ⟨i,t,rfl,rfl⟩ |⟨x,t,rfl,rfl⟩<;>rfl
 pyHash:=fun hv h=>by
  rcases bS hv with ⟨i,t,rfl,rfl⟩ |⟨x,t,rfl,rfl⟩
  ·exact wpAny_pyHash_int h
  ·exact wpAny_pyHash_str h
 eqBool:=fun hu hv h=>by
  rcases bS hu with ⟨i,t,rfl,rfl⟩ |⟨x,t,rfl,rfl⟩
  ·rcases bS hv with ⟨j,u,rfl,rfl⟩ |⟨y,u,rfl,rfl⟩
   ·rw[Bv] at h;exact wpAny_eqBool_int h
   ·rw[Bw] at h;exact SeqAt.EqAt.int_str i t y u _ _ _ _ h
  ·rcases bS hv with ⟨j,u,rfl,rfl⟩ |⟨y,u,rfl,rfl⟩
   ·rw[Bz] at h;exact SeqAt.EqAt.str_int x t j u _ _ _ _ h
   ·rw[BA] at h;exact wpAny_eqBool_str h
 «strs» :=fun k x t v h=>by
  rcases bS h with ⟨i,u,rfl,e⟩ |⟨y,u,rfl,e⟩
  ·exact nomatch e
  ·injection e with e1 _
   subst e1
   cases v<;>rfl
theorem sH(prog:Program)(w:World)(i:Int)(t:Tok):(aQ prog w).is (.inl i) (.int i t)=true:=wn i t
theorem sI(prog:Program)(w:World)(x:Str)(t:Tok):(aQ prog w).is (.inr x) (.str x t)=true:=wo x t
end L2
namespace L2
open PySem PySem.Spec PyProof.Rows
inductive V where
 |non |bl (b:Bool) |int (i:Int) |str (x:Str) |byt (b:Array UInt8) |flt (b:UInt64) |ref (a:Addr) |ty (n:String)
 deriving DecidableEq
def RelV:V->Value->Prop
 | .non,u=>u=Value.none
 | .bl b,u=>u=Value.bool b
 | .int i,u=>∃t,u=Value.int i t
 | .str x,u=>∃t,u=Value.str x t
 | .byt b,u=>∃t,u=Value.bytes b t
 | .flt b,u=>∃t,u=Value.float b t
 | .ref a,u=>u=Value.ref a
 | .ty n,u=>u=Value.type n
abbrev Vals:List V->List Value->Prop:=Paired RelV
theorem Vals.length{xs:List V}{us:List Value}(r:Vals xs us):xs.length=us.length:=Paired.length r
theorem Vals.get:∀{xs:List V} {us:List Value} {i:Nat} {x:V},Vals xs us->xs[i]?=some x->∃u,us[i]?=some u/\RelV x u
 |_,_,_,_,.nil,e=>by simp at e
 |_,_,0,_,.cons r _,e=>by simp at e;subst e;exact⟨_,rfl,r⟩
 |_,_,i+1,x,.cons _ t,e=>by
  obtain⟨u,h1,h2⟩:=Vals.get (i:=i) (x:=x) t (by simpa using e)
  exact⟨u,by simpa using h1,h2⟩
theorem Vals.set{x:V}{u:Value}(r:RelV x u):∀{xs:List V} {us:List Value} (i:Nat),Vals xs us->Vals (xs.set i x) (us.set i u)
 |_,_,_,.nil=> .nil
 |_,_,0,.cons _ t=> .cons r t
 |_,_,i+1,.cons q t=> .cons q (Vals.set r i t)
theorem Vals.append:∀{xs ys:List V} {us ws:List Value},Vals xs us->Vals ys ws->Vals (xs++ys) (us++ws)
 |_,_,_,_,.nil,s=>s
 |_,_,_,_,.cons r t,s=> .cons r (Vals.append t s)
theorem Vals.take:∀{xs:List V} {us:List Value} (n:Nat),Vals xs us->Vals (xs.take n) (us.take n)
 |_,_,0,_=> .nil
 |_,_,_+1,.nil=> .nil
 |_,_,n+1,.cons r t=> .cons r (Vals.take n t)
theorem Vals.drop:∀{xs:List V} {us:List Value} (n:Nat),Vals xs us->Vals (xs.drop n) (us.drop n)
 |_,_,0,r=>r
 |_,_,_+1,.nil=> .nil
 |_,_,n+1,.cons _ t=>Vals.drop n t
def gz:Option V->Option Value->Prop
 |some v,some u=>RelV v u
 |none,none=>True
 |_,_=>False
def KV{κ:Type}:List (κ×V)->List (κ×Value)->Prop:=Paired fun(p:κ×V) (q:κ×Value)=>p.1=q.1/\RelV p.2 q.2
def kV:Key->V
 | .inl i=> .int i
 | .inr x=> .str x
inductive HO where
  /-- a list -/
  | lst (xs : List V)
  /-- a tuple (never changes) -/
  | tup (xs : List V)
  /-- a dict whose keys are ints and texts; one whose keys are tuples of ints and texts (the empty one is both) -/
  | dK (kvs : List (Key × V)) | dT (kvs : List (List Key × V))
  /-- a set of ints: its members, its size -/
  | set (S : Int -> Bool) (n : Nat)
  /-- an instance of the class at C, its dict at dx, its attributes -/
  | ins (C dx : Addr) (fs : List (Str × V))
  /-- the dict of the instance at x -/
  | own (x : Addr)
  /-- the dict of an exception -/
  | xd (fs : List (Str × V))
  /-- a bound method, f of x -/
  | met (f x : Addr)
  /-- a range object lo, lo + 1, .. below hi -/
  | rng (lo hi : Int)
  /-- a thing that is known to the object (the script; a dict while a loop walks it): read, never written while it is so -/
  | frz (o : Obj) (u : HO)
  /-- a code object's table -/
  | tbl (ps : Array Value)
  /-- any other thing, by what is true of its one object (a def of one's own: SetO a S n := HO.ext fun h => ..) -/
  | ext (φ : Heap -> Prop)
abbrev Hp:=Addr->Option HO
def upd(H:Hp)(a:Addr)(o:HO):Hp:=fun b=>if b=a then some o else H b
theorem upd_same{H:Hp}{a:Addr}{o:HO}:upd H a o a=some o:=by unfold upd;rw[if_pos rfl]
theorem aj{H:Hp}{a b:Addr}{o:HO}(h:b≠a):upd H a o b=H b:=by unfold upd;rw[if_neg h]
theorem upd_upd{H:Hp}{a:Addr}{o u:HO}:upd (upd H a o) a u=upd H a u:=by
 funext b;unfold upd;split<;>rfl
theorem cu{H:Hp}{a b:Addr}{o u:HO}(h:H a=some o)(h':H b=some u)(d:o≠u):a≠b:=by
 intro e;subst e;rw[h] at h';exact d (Option.some.inj h')
theorem aq{H:Hp}{a b:Addr}{o:HO}(h:H a=some o)(h':H b=none):a≠b:=by
 intro e;subst e;rw[h] at h';cases h'
section
variable (P : Program) (w : World)
def ba(H:Hp)(h:Heap)(a:Addr):HO->Prop
 | .lst xs=>xs.length<=sizeLine/\∃(its:List Value) (n:Nat),Vals xs its/\h.get? a=some {cls:= .type "list",data:= .seq its.toArray n}
 | .tup xs=>xs.length<=sizeLine/\∃its:List Value,Vals xs its/\IsTup h a its.toArray
 | .dK kvs=>kvs.length<=sizeLine/\(a==sysModules)=false/\∃vs,KV kvs vs/\h.DictOf (aQ P w) a vs
 | .dT kvs=>kvs.length<=sizeLine/\(a==sysModules)=false/\∃xs:List (List Key×Addr×Value),
   Paired (fun(p:List Key×V) (q:List Key×Addr×Value)=>p.1=q.1/\H q.2.1=some (.tup (p.1.map kV))/\RelV p.2 q.2.2) kvs xs/\
   ∃o es ep,h.get? a=some o/\o.ExactDict/\o.data= .dict es ep/\es.toList=xs.map (entryOfKey (tupleKind (aQ P w)))/\(xs.map (·.1)).Nodup
 | .set S n=>h.SetOf (intKind P w) a S n
 | .ins C dx fs=>H dx=some (.own a)/\fs.length<=1000/\dx≠a/\h.get? a=some (PySem.W.instObj C dx)/\
   ∃mA,h.Ns1 dx mA/\(∀f,gz (fs.lookup f) (mA f))/\PySem.Within mA (fs.map (·.1))
 | .own _=>∃o,h.get? a=some o
 | .xd fs=>∃mA,h.Ns1 a mA/\∀f,gz (fs.lookup f) (mA f)
 | .rng lo hi=>∃t u v,h.get? a=some {cls:= .type "range",data:= .fields #[.int lo t,.int hi u,.int 1 v]}
 | .frz o u=>h.get? a=some o/\ba H h a u
 | .tbl ps=>h.get? a=some {cls:= .none,data:= .fields ps}
 | .met f x=>h.get? a=some (PySem.W.methodObj (.ref f) (.ref x))
 | .ext φ=>φ h/\(∃o,h.get? a=some o)/\∀h1 h2:Heap,φ h1->(∀o,h1.get? a=some o->h2.get? a=some o)->φ h2
def HOk(H:Hp)(h:Heap):Prop:=∀a o,H a=some o->ba P w H h a o
end
section
variable {P : Program} {w : World} {H H' : Hp} {h h' : Heap} {a : Addr} {o : HO}
theorem ba.lt(x:ba P w H h a o):a<h.objs.size:=by
 cases o with
 |lst xs=>obtain⟨_,_,_,_,e⟩:=x;exact Heap.lt_size e
 |tup xs=>obtain⟨_,_,_,p⟩:=x;exact p.lt
 |dK kvs=>obtain⟨_,_,_,_,o,_,_,e,_⟩:=x;exact Heap.lt_size e
 |dT kvs=>obtain⟨_,_,_,_,o,_,_,e,_⟩:=x;exact Heap.lt_size e
 |set S n=>obtain⟨o,_,_,_,e,_⟩:=x;exact Heap.lt_size e
 |ins C dx fs=>obtain⟨_,_,_,e,_⟩:=x;exact Heap.lt_size e
 |own y=>obtain⟨_,e⟩:=x;exact Heap.lt_size e
 |xd fs=>obtain⟨_,⟨_,_,_,e,_⟩,_⟩:=x;exact Heap.lt_size e
 |rng lo hi=>obtain⟨_,_,_,e⟩:=x;exact Heap.lt_size e
 |frz ob u=>obtain⟨e,_⟩:=x;exact Heap.lt_size e
 |tbl ps=>exact Heap.lt_size (show h.get? a=some _ from x)
 |met f y=>exact Heap.lt_size (show h.get? a=some _ from x)
 |ext φ=>obtain⟨_,⟨_,e⟩,_⟩:=x;exact Heap.lt_size e
theorem Paired.mapP{α β:Type}{F G:α->β->Prop}:∀{l₁:List α} {l₂:List β},Paired F l₁ l₂->(∀a b,F a b->G a b)->Paired G l₁ l₂
 |_,_,.nil,_=> .nil
 |_,_,.cons r t,f=> .cons (f _ _ r) (Paired.mapP t f)
theorem ba.stay(x:ba P w H h a o)(k:∀b u,(b=a∨H b=some (.own a))->h.get? b=some u->h'.get? b=some u)
  (ho:∀b,H b=some (.own a)->H' b=some (.own a))(ht:∀b xs,H b=some (.tup xs)->H' b=some (.tup xs)):ba P w H' h' a o:=by
 induction o with
 |lst xs=>obtain⟨z,its,n,r,e⟩:=x;exact⟨z,its,n,r,k _ _ (.inl rfl) e⟩
 |tup xs=>obtain⟨z,its,r,ob,e,c⟩:=x;exact⟨z,its,r,ob,k _ _ (.inl rfl) e,c⟩
 |dK kvs=>obtain⟨z,y,vs,r,ob,es,ep,e,c⟩:=x;exact⟨z,y,vs,r,ob,es,ep,k _ _ (.inl rfl) e,c⟩
 |dT kvs=>
  obtain⟨z,y,xs,r,ob,es,ep,e,c⟩:=x
  exact⟨z,y,xs,Paired.mapP r fun p q z=>⟨z.1,ht _ _ z.2.1,z.2.2⟩,ob,es,ep,k _ _ (.inl rfl) e,c⟩
 |set S n=>obtain⟨ob,es,ep,t,e,c⟩:=x;exact⟨ob,es,ep,t,k _ _ (.inl rfl) e,c⟩
 |ins C dx fs=>
  obtain⟨d,z,ne,e,mA,⟨od,es,ep,e2,c⟩,r⟩:=x
  exact⟨ho _ d,z,ne,k _ _ (.inl rfl) e,mA,⟨od,es,ep,k _ _ (.inr d) e2,c⟩,r⟩
 |own y=>obtain⟨ob,e⟩:=x;exact⟨ob,k _ _ (.inl rfl) e⟩
 |xd fs=>obtain⟨mA,⟨od,es,ep,e,c⟩,r⟩:=x;exact⟨mA,⟨od,es,ep,k _ _ (.inl rfl) e,c⟩,r⟩
 |rng lo hi=>obtain⟨t,u,v,e⟩:=x;exact⟨t,u,v,k _ _ (.inl rfl) e⟩
 |frz ob u ih=>obtain⟨e,q⟩:=x;exact⟨k _ _ (.inl rfl) e,ih q⟩
 |tbl ps=>
  have e:h.get? a=some {cls:= .none,data:= .fields ps}:=x
  show h'.get? a=some {cls:= .none,data:= .fields ps}
  exact k a _ (.inl rfl) e
 |met f y=>
  have e:h.get? a=some (PySem.W.methodObj (.ref f) (.ref y)):=x
  show h'.get? a=some (PySem.W.methodObj (.ref f) (.ref y))
  exact k a _ (.inl rfl) e
 |ext φ=>obtain⟨p,⟨o,e⟩,st⟩:=x;exact⟨st _ _ p fun o q=>k _ _ (.inl rfl) q,⟨o,k _ _ (.inl rfl) e⟩,st⟩
theorem HOk.lt(x:HOk P w H h)(e:H a=some o):a<h.objs.size:=(x a o e).lt
theorem HOk.fresh(x:HOk P w H h)(e:h.objs.size<=a):H a=none:=by
 cases q:H a with
 |none=>rfl
 |some u=>exact absurd (Nat.lt_of_lt_of_le (x.lt q) e) (Nat.lt_irrefl _)
theorem HOk.kept(x:HOk P w H h)(k:∀b u,h.get? b=some u->h'.get? b=some u):HOk P w H h':=fun a o e=>
 (x a o e).stay (fun b u _ q=>k b u q) (fun _ q=>q) fun _ _ q=>q
theorem HOk.laid(x:HOk P w H h)(k:∀b u,h.get? b=some u->h'.get? b=some u)(hp:h.objs.size<=a)(new:ba P w (upd H a o) h' a o):HOk P w (upd H a o) h':=fun b u e=>by
 have hn:=x.fresh hp
 by_cases hb:b=a
 ·subst hb;rw[upd_same] at e;cases e;exact new
 ·rw[aj hb] at e
  exact(x b u e).stay (fun c v _ q=>k c v q) (fun c q=>by rw[aj (aq q hn)];exact q) fun c xs q=>by rw[aj (aq q hn)];exact q
end
def Rd(H:Hp)(a:Addr)(u:HO):Prop:=H a=some u∨∃o,H a=some (.frz o u)
theorem Rd.of{H:Hp}{a:Addr}{u:HO}(h:H a=some u):Rd H a u:= .inl h
theorem Rd.ok{P:Program}{w:World}{H:Hp}{h:Heap}{a:Addr}{u:HO}(r:Rd H a u)(x:HOk P w H h):ba P w H h a u:=by
 rcases r with r |⟨o,r⟩
 ·exact x a u r
 ·obtain⟨_,q⟩:=x a _ r
  exact q
def Mut:Option HO->Prop
 |some (.lst _)=>True
 |some (.dK _)=>True
 |some (.dT _)=>True
 |some (.set _ _)=>True
 |some (.ins _ _ _)=>True
 |some (.ext _)=>True
 |_=>False
section
variable {P : Program} {w : World} {H : Hp} {h h' : Heap} {x e : Addr} {o' : HO}
theorem HOk.write(ok:HOk P w H h)(mu:Mut (H x))(he:e=x∨H e=some (.own x))(k:∀b u,b≠e->h.get? b=some u->h'.get? b=some u)(heo:∃u,h'.get? e=some u)
  (new:ba P w (upd H x o') h' x o'):HOk P w (upd H x o') h':=fun b u q=>by
 have nown:∀c y,H c=some (.own y)->c≠x:=fun c y r z=>by subst z;rw[r] at mu;exact mu
 have ntup:∀c xs,H c=some (.tup xs)->c≠x:=fun c xs r z=>by subst z;rw[r] at mu;exact mu
 by_cases hb:b=x
 ·subst hb;rw[upd_same] at q;cases q;exact new
 ·rw[aj hb] at q
  by_cases hbe:b=e
  ·have q':H b=some (.own x):=by
    rcases he with z |z
    ·exact absurd (hbe.trans z) hb
    ·rw[hbe];exact z
   rw[q] at q';cases q'
   obtain⟨v,hv⟩:=heo
   exact⟨v,by rw[hbe];exact hv⟩
  ·refine(ok b u q).stay (fun c v hc r=>k c v ?_ r) (fun c r=>by rw[aj (nown c b r)];exact r) fun c xs r=>by rw[aj (ntup c xs r)];exact r
   rcases hc with rfl |hc
   ·exact hbe
   ·rintro rfl
    rcases he with z |z
    ·exact nown c b hc z
    ·rw[hc] at z;cases z;exact hb rfl
end
structure Un (fs ex:List Addr) (H H':Hp) (h h':Heap):Prop where
 keep:∀b o,h.get? b=some o->H b=none->b∉fs->b∉ex->h'.get? b=some o
 slot:∀b o,h.get? b=some o->H b=none->b∈fs->b∉ex->∃sl,h'.get? b=some {o with slots:=sl}
 free:∀b o,h.get? b=some o->H b=none->b∉ex->H' b=none
 there:∀b o,h.get? b=some o->b∉ex->∃o',h'.get? b=some o'
 tups:∀b xs,H b=some (.tup xs)->H' b=some (.tup xs)
 frzs:∀b o u,H b=some (.frz o u)->H' b=some (.frz o u)
 tbls:∀b ps,H b=some (.tbl ps)->∃more,H' b=some (.tbl (ps++more))
section
variable {fs fs' ex ex' : List Addr} {H H1 H2 : Hp} {h h1 h2 h' : Heap} {a x e : Addr} {o : HO}
theorem Un.any(u:Un fs ex H H1 h h1){b:Addr}{ob:Obj}(q:h.get? b=some ob)(n:H b=none)(hx:b∉ex):∃sl,h1.get? b=some {ob with slots:=sl}:=by
 by_cases hb:b∈fs
 ·exact u.slot b ob q n hb hx
 ·exact⟨ob.slots,u.keep b ob q n hb hx⟩
theorem Un.kept(k:∀b u,h.get? b=some u->h'.get? b=some u):Un fs ex H H h h':=
 ⟨fun b ob q _ _ _=>k b ob q,fun b ob q _ _ _=>⟨ob.slots,k b ob q⟩,fun _ _ _ n _=>n,fun b ob q _=>⟨ob,k b ob q⟩,fun _ _ q=>q,fun _ _ _ q=>q,fun _ ps q=>⟨#[],by rw[q];simp⟩⟩
theorem Un.refl:Un fs ex H H h h:=Un.kept fun _ _ q=>q
theorem Un.laid(k:∀b u,h.get? b=some u->h'.get? b=some u)(hp:h.objs.size<=a)(hn:H a=none):Un fs ex H (upd H a o) h h' where
 keep:=fun b u q _ _ _=>k b u q
 slot:=fun b u q _ _ _=>⟨u.slots,k b u q⟩
 free:=fun b u q n _=>by rw[aj (Nat.ne_of_lt (Nat.lt_of_lt_of_le (Heap.lt_size q) hp))];exact n
 there:=fun b u q _=>⟨u,k b u q⟩
 tups:=fun b xs q=>by rw[aj (aq q hn)];exact q
 frzs:=fun b u xs q=>by rw[aj (aq q hn)];exact q
 tbls:=fun b ps q=>⟨#[],by rw[aj (aq q hn),q];simp⟩
theorem Un.write(mu:Mut (H x))(he:e=x∨H e=some (.own x))(k:∀b u,b≠e->h.get? b=some u->h'.get? b=some u)(heo:∃u,h'.get? e=some u):Un fs ex H (upd H x o) h h':=by
 have hx:∀b,H b=none->b≠x:=fun b n z=>by subst z;rw[n] at mu;exact mu
 have hb:∀b,H b=none->b≠e:=fun b n z=>by
  subst z
  rcases he with r |r
  ·exact hx b n r
  ·rw[n] at r;cases r
 have hm:∀b u,H b=some u->¬Mut (some u)->b≠x:=fun b u q nm z=>by subst z;rw[q] at mu;exact nm mu
 refine⟨fun b u q n _ _=>k b u (hb b n) q,fun b u q n _ _=>⟨u.slots,k b u (hb b n) q⟩,fun b u q n _=>by rw[aj (hx b n)];exact n,fun b u q _=>?_,
  fun b xs q=>by rw[aj (hm b _ q fun z=>z)];exact q,fun b u xs q=>by rw[aj (hm b _ q fun z=>z)];exact q,fun b ps q=>⟨#[],by rw[aj (hm b _ q fun z=>z),q];simp⟩⟩
 by_cases hbe:b=e
 ·subst hbe;exact heo
 ·exact⟨u,k b u hbe q⟩
end
def trk(h:Heap)(H:Hp):List Addr:=(List.range h.objs.size).filter fun a=>(H a).isSome
def qA(h:Heap)(H:Hp):Heap:=PySem.W.hideAll h (trk h H)
theorem wj(h:Heap)(H:Hp):(qA h H).objs.size=h.objs.size:=PySem.W.hideAll_size _ _
theorem xz{h:Heap}{H:Hp}{b:Addr}{o:Obj}(e:h.get? b=some o)(n:H b=none):(qA h H).get? b=some o:=
 PySem.W.hideAll_get _ e fun hm=>by
  have q:(H b).isSome=true:=(List.mem_filter.mp hm).2
  rw[n] at q;simp at q
theorem Ag{h:Heap}{H:Hp}{b:Addr}{o:Obj}(e:(qA h H).get? b=some o):h.get? b=some o/\H b=none:=by
 have e':h.get? b=some o:=PySem.W.of_hideAll (trk h H) e
 refine⟨e',?_⟩
 cases q:H b with
 |none=>rfl
 |some x=>
  have hm:b∈trk h H:=List.mem_filter.mpr ⟨List.mem_range.mpr (Heap.lt_size e'),by simp[q]⟩
  have z:(qA h H).get? b=none:=PySem.W.hideAll_none (trk h H) hm
  rw[z] at e;cases e
def zA(g h:Heap)(L:Addr):List (Addr×Obj):=(List.range h.objs.size).filterMap fun a=>if a=L∨(g.get? a).isSome=true then none else(h.get? a).map fun o=>(a,o)
def rest(g h:Heap)(L d:Addr):List (Addr×Obj):=(zA g h L).filter fun p=>decide (p.1≠d)
end L2
namespace L2
open PySem PySem.Spec PyProof.Rows
structure Mod (K:PySem.W.Frag) (mg:Str->Option Value) (base:Heap):Prop where
 kin:K.In base
 glob:base.Ns mainGlobals mg
 blt:∃mb,base.Ns builtinsNs mb/\∀x:Str,x≠"__name__"->mb x=bootBuiltins x
 nolimit:base.NoLimit
structure Cx where
 prog:Program
 w:World
 K:PySem.W.Frag
 mg:Str->Option Value
 base:Heap
 A:Around
 N:List Str
 s₀:Shared
 H₀:Hp
 env:Env
 outer:List Env
 stack:List Env
 ex:List Addr
 fn:Str->Bool
 calm:Bool
 pn:List (Addr×Obj)
 xe:Value->Shared->Prop
def frs(l:List Env):List Addr:=l.filterMap (·.frame)
abbrev Cx.fs(X:Cx):List Addr:=frs X.outer
def Vis(sc:Scope)(x:Str):Prop:=sc.names.lookup x=some .local∨sc.names.lookup x=some .cell∨sc.names.lookup x=some .free
def Loc(sc:Scope)(x:Str):Prop:=sc.names.lookup x=some .local∨sc.names.lookup x=some .cell
def Look(env:Env)(h:Heap)(m:Str->Option Value)(x:Str)(u:Value):Prop:=
 (env.kindOf x=some .local/\m x=some u)∨((env.kindOf x=some .cell∨env.kindOf x=some .free)/\∃c,env.cells.lookup x=some c/\h.IsCell c (some u))
structure Cx.Ok (X:Cx):Prop where
 mod:Mod X.K X.mg X.base
 kind:X.env.scope.kind= .function
 glob:X.env.globals=mainGlobals
 blt:X.env.builtins=builtinsNs
 above:X.s₀.heap.objs.size<=X.env.locals
 inj:∀x y c,X.env.cells.lookup x=some c->X.env.cells.lookup y=some c->x=y
 has:∀x,(X.env.kindOf x=some .cell∨X.env.kindOf x=some .free)->∃c,X.env.cells.lookup x=some c
 cab:∀x c,X.fn x=true->X.env.cells.lookup x=some c->X.s₀.heap.objs.size<=c
 hd:X.calm=true->X.A.handled=none
 frames:X.A.frames=some X.stack
 stk:X.stack=X.outer∨(X.stack=X.env::X.outer/\X.env.frame=some X.env.locals)
 exf:∀b∈X.ex,b≠X.env.locals/\∀x c,X.env.cells.lookup x=some c->c≠b
 bs:∀b o,X.base.get? b=some o->X.s₀.heap.get? b=some o/\X.H₀ b=none
 bsz:X.base.objs.size<=X.s₀.heap.objs.size
 noex:∀b o,X.base.get? b=some o->b∉X.ex
 exfs:∀b∈X.ex,b∉X.fs
 funs:X.s₀.heap.FunFrames X.base X.outer
 frf:∀b∈X.fs,X.H₀ b=none
structure Inv (X:Cx) (pins:List (Addr×Obj)) (σ:List (Option V)) (H:Hp) (s:Shared):Prop where
 ok:X.Ok
 os:s.os=X.s₀.os
 bare:AllBare s.gens
 base:Un X.fs X.ex X.H₀ H X.s₀.heap s.heap
 loc:∃m,s.heap.Ns X.env.locals m/\∀(i:Nat) (x:Str) (v:V),X.N[i]?=some x->σ[i]?=some (some v)->Vis X.env.scope x->∃u,RelV v u/\Look X.env s.heap m x u
 cell:∀x c,X.env.cells.lookup x=some c->∃v,s.heap.IsCell c v
 free:H X.env.locals=none
 freeC:∀x c,X.env.cells.lookup x=some c->H c=none
 pin:∀p∈X.pn++pins,s.heap.get? p.1=some p.2/\H p.1=none/\p.1≠X.env.locals/\p.1∉X.fs/\∀v,p.2.data≠ .cell v
 hok:HOk X.prog X.w H s.heap
 len:σ.length=X.N.length
section
variable {X : Cx} {pins : List (Addr × Obj)} {σ : List (Option V)} {H H' : Hp} {s : Shared} {h' : Heap}
theorem Cx.Ok.nofr(ok:X.Ok){b:Addr}{o:Obj}(e:X.base.get? b=some o):b∉X.fs:=fun hb=>by
 have:=(ok.funs.mem hb).1
 rw[e] at this;cases this
theorem Inv.bs(I:Inv X pins σ H s):∀b o,X.base.get? b=some o->s.heap.get? b=some o/\H b=none:=fun b o e=>
 ⟨I.base.keep b o (I.ok.bs b o e).1 (I.ok.bs b o e).2 (I.ok.nofr e) (I.ok.noex b o e),I.base.free b o (I.ok.bs b o e).1 (I.ok.bs b o e).2 (I.ok.noex b o e)⟩
theorem Inv.bk(I:Inv X pins σ H s):∀b o,X.base.get? b=some o->s.heap.get? b=some o:=fun b o e=>(I.bs b o e).1
theorem Inv.mod(I:Inv X pins σ H s):Mod X.K X.mg X.base:=I.ok.mod
theorem Inv.kIn(I:Inv X pins σ H s):X.K.In s.heap:=I.ok.mod.kin.keeps I.bk
theorem Inv.fr(I:Inv X pins σ H s):∃m,Fr X.base X.env.locals s.heap m:=
 let ⟨m,hn,_⟩:=I.loc
 ⟨m,hn,I.bk,Nat.le_trans I.ok.bsz I.ok.above⟩
theorem Inv.lt(I:Inv X pins σ H s):X.env.locals<s.heap.objs.size:=let ⟨_,hn,_⟩:=I.loc;hn.lt
theorem Inv.sz(I:Inv X pins σ H s):X.s₀.heap.objs.size<=s.heap.objs.size:=Nat.le_trans I.ok.above (Nat.le_of_lt I.lt)
theorem Inv.nofs(I:Inv X pins σ H s){a:Addr}(h:s.heap.objs.size<=a):a∉X.fs:=fun hb=>by
 obtain⟨_,o,ho,_⟩:=I.ok.funs.mem hb
 exact absurd (Nat.lt_of_lt_of_le (Heap.lt_size ho) (Nat.le_trans I.sz h)) (Nat.lt_irrefl _)
theorem Inv.cne(I:Inv X pins σ H s):∀x c,X.env.cells.lookup x=some c->c≠X.env.locals:=fun x c e z=>by
 obtain⟨v,o,ho,hd⟩:=I.cell x c e
 obtain⟨m,⟨o',es,ep,ho',hd',_⟩,_⟩:=I.loc
 rw[z,ho'] at ho;cases ho;rw[hd'] at hd;cases hd
theorem Inv.funs(I:Inv X pins σ H s):s.heap.FunFrames X.base X.outer:=by
 have all:∀(l:List Env),(∀b∈frs l,b∈X.fs)->X.s₀.heap.FunFrames X.base l->s.heap.FunFrames X.base l:=by
  intro l
  induction l with
  |nil=>intro _ _;trivial
  |cons env r ih=>
   intro hs hl
   obtain⟨hk,⟨L,o,hf,hn,ho,hd⟩,hr⟩:=hl
   have hL:L∈X.fs:=hs L (by unfold frs;rw[List.filterMap_cons,hf];exact List.mem_cons_self)
   obtain⟨sl,e⟩:=I.base.slot L o ho (I.ok.frf L hL) hL fun z=>I.ok.exfs L z hL
   exact⟨hk,⟨L,_,hf,hn,e,hd⟩,ih (fun b hb=>hs b (by unfold frs;rw[List.filterMap_cons,hf];exact List.mem_cons_of_mem _ hb)) hr⟩
 exact all X.outer (fun _ hb=>hb) I.ok.funs
theorem Inv.stack(I:Inv X pins σ H s):s.heap.FunFrames X.base X.stack:=by
 rcases I.ok.stk with e |⟨e,hf⟩
 ·rw[e];exact I.funs
 ·rw[e]
  obtain⟨m,hn,_⟩:=I.loc
  refine .cons (by rw[I.ok.kind];decide) hf hn ?_ I.funs
  exact Heap.get?_none_of_le (Nat.le_trans I.ok.bsz I.ok.above)
theorem Inv.stkSub(I:Inv X pins σ H s):∀b∈frs X.stack,b∈X.env.locals::X.fs:=fun b hb=>by
 rcases I.ok.stk with e |⟨e,hf⟩
 ·rw[e] at hb;exact List.mem_cons_of_mem _ hb
 ·rw[e] at hb
  unfold frs at hb
  rw[List.filterMap_cons,hf] at hb
  exact hb
theorem Inv.stkFree(I:Inv X pins σ H s):∀b∈frs X.stack,H b=none:=fun b hb=>by
 rcases List.mem_cons.mp (I.stkSub b hb) with e |hb
 ·rw[e];exact I.free
 ·obtain⟨_,o,ho,_⟩:=I.ok.funs.mem hb
  exact I.base.free b o ho (I.ok.frf b hb) fun z=>I.ok.exfs b z hb
theorem Inv.step{g':Array GenState}{t':Nat}{d':Drawn}{ch:List Addr}(I:Inv X pins σ H s)
  (hch:∀b∈ch,(b∈X.ex∨X.s₀.heap.objs.size<=b)/\b≠X.env.locals/\(∀x c,X.env.cells.lookup x=some c->c≠b)/\∀p∈X.pn++pins,p.1≠b)
  (keep:∀b o,b≠X.env.locals->b∉X.fs->b∉ch->s.heap.get? b=some o->H b=none->h'.get? b=some o)
  (slot:∀b o,b≠X.env.locals->b∈X.fs->b∉ch->s.heap.get? b=some o->H b=none->∃sl,h'.get? b=some {o with slots:=sl})(free:∀b o,b∉ch->s.heap.get? b=some o->H b=none->H' b=none)
  (there:∀b o,b∉ch->s.heap.get? b=some o->∃o',h'.get? b=some o')
  (tups:∀b xs,H b=some (.tup xs)->H' b=some (.tup xs))(frzs:∀b o u,H b=some (.frz o u)->H' b=some (.frz o u))(tbls:∀b ps,H b=some (.tbl ps)->∃more,H' b=some (.tbl (ps++more)))
  (ns:∀m,s.heap.Ns X.env.locals m->h'.Ns X.env.locals m)(hok:HOk X.prog X.w H' h')(hg:AllBare g'):
  Inv X pins σ H' {s with heap:=h',gens:=g',drawn:=d',toks:=t'}:=by
 have neL:∀b o,X.s₀.heap.get? b=some o->b≠X.env.locals:=fun b o e=>Nat.ne_of_lt (Nat.lt_of_lt_of_le (Heap.lt_size e) I.ok.above)
 have neC:∀b o,X.s₀.heap.get? b=some o->b∉X.ex->b∉ch:=fun b o e hx hb=>by
  rcases(hch b hb).1 with z |z
  ·exact hx z
  ·exact absurd (Nat.lt_of_lt_of_le (Heap.lt_size e) z) (Nat.lt_irrefl _)
 have cellK:∀x c,X.env.cells.lookup x=some c->∀v,s.heap.IsCell c v->h'.IsCell c v:=fun x c e v ⟨o,ho,hd⟩=>by
  have nch:c∉ch:=fun z=>(hch c z).2.2.1 x c e rfl
  by_cases hc:c∈X.fs
  ·obtain⟨sl,q⟩:=slot c o (I.cne x c e) hc nch ho (I.freeC x c e)
   exact⟨_,q,hd⟩
  ·exact⟨o,keep c o (I.cne x c e) hc nch ho (I.freeC x c e),hd⟩
 refine⟨I.ok,I.os,hg,⟨fun b o e n hb hx=>?_,fun b o e n hb hx=>?_,fun b o e n hx=>?_,fun b o e hx=>?_,fun b xs e=>tups b xs (I.base.tups b xs e),fun b o xs e=>frzs b o xs (I.base.frzs b o xs e),fun b ps e=>?_⟩,?_,fun x c e=>?_,?_,fun x c e=>?_,fun p hp=>?_,hok,I.len⟩
 ·exact keep b o (neL b o e) hb (neC b o e hx) (I.base.keep b o e n hb hx) (I.base.free b o e n hx)
 ·obtain⟨sl,e1⟩:=I.base.slot b o e n hb hx
  obtain⟨sl',e2⟩:=slot b _ (neL b o e) hb (neC b o e hx) e1 (I.base.free b o e n hx)
  exact⟨sl',e2⟩
 ·obtain⟨o',e1⟩:=I.base.there b o e hx
  exact free b o' (neC b o e hx) e1 (I.base.free b o e n hx)
 ·obtain⟨o',e1⟩:=I.base.there b o e hx
  exact there b o' (neC b o e hx) e1
 ·obtain⟨m1,e1⟩:=I.base.tbls b ps e
  obtain⟨m2,e2⟩:=tbls b _ e1
  exact⟨m1++m2,by rw[e2,Array.append_assoc]⟩
 ·obtain⟨m,hn,hl⟩:=I.loc
  refine⟨m,ns m hn,fun i x v e1 e2 e3=>?_⟩
  obtain⟨u,r,l⟩:=hl i x v e1 e2 e3
  refine⟨u,r,?_⟩
  rcases l with l |⟨k,c,e,z⟩
  ·exact .inl l
  ·exact .inr ⟨k,c,e,cellK x c e _ z⟩
 ·obtain⟨v,z⟩:=I.cell x c e
  exact⟨v,cellK x c e v z⟩
 ·obtain⟨m,⟨o,_,_,ho,_⟩,_⟩:=I.loc
  exact free _ o (fun z=>(hch _ z).2.1 rfl) ho I.free
 ·obtain⟨v,o,ho,hd⟩:=I.cell x c e
  exact free c o (fun z=>(hch c z).2.2.1 x c e rfl) ho (I.freeC x c e)
 ·obtain⟨e,n,ne,nf,d⟩:=I.pin p hp
  have nch:p.1∉ch:=fun z=>(hch p.1 z).2.2.2 p hp rfl
  exact⟨keep p.1 p.2 ne nf nch e n,free p.1 p.2 nch e n,ne,nf,d⟩
theorem Inv.un{t':Nat}(I:Inv X pins σ H s)(u:Un X.fs [] H H' s.heap h')(hok:HOk X.prog X.w H' h'):Inv X pins σ H' {s with heap:=h',toks:=t'}:=by
 obtain⟨m,⟨o,es,ep,ho,r⟩,_⟩:=id I.loc
 obtain⟨sl,hL⟩:=u.any ho I.free (by simp)
 exact I.step (g':=s.gens) (d':=s.drawn) (ch:=[]) (fun _ z=>nomatch z) (fun b o _ hb _ e n=>u.keep b o e n hb (by simp)) (fun b o _ hb _ e n=>u.slot b o e n hb (by simp)) (fun b o _ e n=>u.free b o e n (by simp)) (fun b o _ e=>u.there b o e (by simp)) u.tups u.frzs u.tbls (fun m' hm=>by
  obtain⟨o',es',ep',ho',r'⟩:=hm
  rw[ho] at ho';cases ho'
  exact⟨_,es',ep',hL,r'⟩) hok I.bare
theorem Inv.call{g':Array GenState}{t':Nat}{d':Drawn}{ch:List Addr}(I:Inv X pins σ H s)(u:Un (frs X.stack) ch H H' s.heap h')(hok:HOk X.prog X.w H' h')(hg:AllBare g')
  (hch:∀b∈ch,(b∈X.ex∨X.s₀.heap.objs.size<=b)/\b≠X.env.locals/\(∀x c,X.env.cells.lookup x=some c->c≠b)/\∀p∈X.pn++pins,p.1≠b):
  Inv X pins σ H' {s with heap:=h',gens:=g',drawn:=d',toks:=t'}:=by
 obtain⟨m,⟨o,es,ep,ho,r⟩,_⟩:=id I.loc
 obtain⟨sl,hL⟩:=u.any ho I.free fun z=>(hch _ z).2.1 rfl
 exact I.step (ch:=ch) hch (fun b o hL hb hc e n=>u.keep b o e n (fun z=>(List.mem_cons.mp (I.stkSub b z)).elim hL hb) hc) (fun b o _ _ hc e n=>u.any e n hc) (fun b o hc e n=>u.free b o e n hc) (fun b o hc e=>u.there b o e hc) u.tups u.frzs u.tbls (fun m' hm=>by
  obtain⟨o',es',ep',ho',r'⟩:=hm
  rw[ho] at ho';cases ho'
  exact⟨_,es',ep',hL,r'⟩) hok hg
theorem Inv.turned{t':Nat}{it:Addr}(I:Inv X pins σ H s)(k:∀b o,b≠it->s.heap.get? b=some o->h'.get? b=some o)(hn:H it=none)(hL:it≠X.env.locals)
  (h1:it∈X.ex∨X.s₀.heap.objs.size<=it)(h2:∀x c,X.env.cells.lookup x=some c->c≠it)(h3:∀p∈X.pn++pins,p.1≠it):Inv X pins σ H {s with heap:=h',toks:=t'}:=by
 have nit:∀b u,H b=some u->b≠it:=fun b u e z=>by rw[z,hn] at e;cases e
 refine I.step (g':=s.gens) (d':=s.drawn) (ch:=[it]) (fun b hb=>?_) (fun b o _ _ hc e _=>k b o (fun z=>hc (by simp[z])) e) (fun b o _ _ hc e _=>⟨o.slots,k b o (fun z=>hc (by simp[z])) e⟩) (fun _ _ _ _ n=>n)
  (fun b o hc e=>⟨o,k b o (fun z=>hc (by simp[z])) e⟩) (fun _ _ e=>e) (fun _ _ _ e=>e) (fun b ps e=>⟨#[],by rw[e];simp⟩) (fun m hm=>?_) (fun b u e=>?_) I.bare
 ·have e:b=it:=by simpa using hb
  subst e
  exact⟨h1,hL,h2,h3⟩
 ·obtain⟨o,es,ep,ho,r⟩:=hm
  exact⟨o,es,ep,k _ o (Ne.symm hL) ho,r⟩
 ·refine(I.hok b u e).stay (fun c v hc q=>k c v ?_ q) (fun _ q=>q) fun _ _ q=>q
  rcases hc with z |z
  ·rw[z];exact nit b u e
  ·exact nit c _ z
theorem Inv.tok(I:Inv X pins σ H s)(t:Nat):Inv X pins σ H {s with toks:=t}:=I.un (h':=s.heap) (t':=t) Un.refl I.hok
theorem Inv.kept{t':Nat}(I:Inv X pins σ H s)(k:∀b u,s.heap.get? b=some u->h'.get? b=some u):Inv X pins σ H {s with heap:=h',toks:=t'}:=I.un (Un.kept k) (I.hok.kept k)
theorem Inv.laid{a:Addr}{o:HO}{t':Nat}(I:Inv X pins σ H s)(k:∀b u,s.heap.get? b=some u->h'.get? b=some u)(hp:s.heap.objs.size<=a)(new:ba X.prog X.w (upd H a o) h' a o):
  Inv X pins σ (upd H a o) {s with heap:=h',toks:=t'}:=I.un (Un.laid k hp (I.hok.fresh hp)) (I.hok.laid k hp new)
theorem Inv.write{x e:Addr}{o:HO}{t':Nat}(I:Inv X pins σ H s)(mu:Mut (H x))(he:e=x∨H e=some (.own x))(k:∀b u,b≠e->s.heap.get? b=some u->h'.get? b=some u)(heo:∃u,h'.get? e=some u)
  (new:ba X.prog X.w (upd H x o) h' x o):Inv X pins σ (upd H x o) {s with heap:=h',toks:=t'}:=I.un (Un.write mu he k heo) (I.hok.write mu he k heo new)
theorem Inv.weak{σ':List (Option V)}(I:Inv X pins σ H s)(hl:σ'.length=σ.length)(w:∀(i:Nat) v,σ'[i]?=some (some v)->σ[i]?=some (some v)):Inv X pins σ' H s:=
 ⟨I.ok,I.os,I.bare,I.base,let ⟨m,hn,hl'⟩:=I.loc;⟨m,hn,fun i x v e1 e2 e3=>hl' i x v e1 (w i v e2) e3⟩,I.cell,I.free,I.freeC,I.pin,I.hok,hl.trans I.len⟩
theorem Inv.pins_of{pins':List (Addr×Obj)}(I:Inv X pins σ H s)(h:∀p∈pins',s.heap.get? p.1=some p.2/\H p.1=none/\p.1≠X.env.locals/\p.1∉X.fs/\∀v,p.2.data≠ .cell v):Inv X pins' σ H s:=
 ⟨I.ok,I.os,I.bare,I.base,I.loc,I.cell,I.free,I.freeC,fun p hp=>(List.mem_append.mp hp).elim (fun z=>I.pin p (List.mem_append_left _ z)) (h p),I.hok,I.len⟩
theorem sM{N:List Str}(hN:N.Nodup){i j:Nat}{x:Str}(a:N[i]?=some x)(b:N[j]?=some x):i=j:=by
 obtain⟨h1,e1⟩:=List.getElem?_eq_some_iff.mp a
 obtain⟨h2,e2⟩:=List.getElem?_eq_some_iff.mp b
 exact(List.getElem_inj hN).mp (e1.trans e2.symm)
theorem wS{M:Model}{A:Around}{E:Value->Shared->Prop}{i:Nat}{x:Str}{v:V}{u:Value}{Q:Unit->Shared->Prop}(I:Inv X pins σ H s)(hN:X.N.Nodup)(hi:X.N[i]?=some x)(hx:Loc X.env.scope x)(r:RelV v u)
  (h:∀s',Inv X pins (σ.set i (some v)) H s'->(∃a,Heap.SameBut a s.heap s'.heap/\(a=X.env.locals∨X.env.cells.lookup x=some a))->Q () s')(hf:X.fn x=true∨X.env.scope.names.lookup x=some .local:=by first |exact .inl rfl |exact .inr rfl |assumption):wpAny M A (storeName X.env x u) Q E s:=by
 obtain⟨m,hn,hl⟩:=id I.loc
 have hcls:(X.env.scope.kind== .class||(X.env.scope.kind== .module&&X.env.locals !=X.env.globals))=false:=by rw[I.ok.kind];rfl
 have hiσ:i<σ.length:=by rw[I.len];exact(List.getElem?_eq_some_iff.mp hi).1
 have cne:=I.cne
 have tracked:∀{a:Addr} {h':Heap},(∃o,s.heap.get? a=some o/\H a=none)->Heap.SameBut a s.heap h'->HOk X.prog X.w H h':=fun {a h'} ha hs b ob e=>by
  obtain⟨_,_,hfree⟩:=ha
  refine(I.hok b ob e).stay (fun c w' hc q=>(hs.2 c ?_).trans q) (fun _ q=>q) fun _ _ q=>q
  rintro rfl
  rcases hc with rfl |hc
  ·rw[hfree] at e;cases e
  ·rw[hfree] at hc;cases hc
 rcases hx with hk |hk
 ·refine wpAny_storeName_local hk hn (fun h' hn' hs=>?_) hcls
  obtain⟨oL,_,_,hoL,_⟩:=id hn
  refine h _ ⟨I.ok,I.os,I.bare,⟨fun b o e n hb hx=>?_,fun b o e n hb hx=>?_,I.base.free,fun b o e hx=>?_,I.base.tups,I.base.frzs,I.base.tbls⟩,⟨_,hn',fun j y v' e1 e2 e3=>?_⟩,fun y c e=>?_,I.free,I.freeC,fun p hp=>?_,tracked ⟨oL,hoL,I.free⟩ hs,by simpa using I.len⟩ ⟨_,hs,.inl rfl⟩
  ·exact(hs.2 b (Nat.ne_of_lt (Nat.lt_of_lt_of_le (Heap.lt_size e) I.ok.above))).trans (I.base.keep b o e n hb hx)
  ·obtain⟨sl,e1⟩:=I.base.slot b o e n hb hx
   exact⟨sl,(hs.2 b (Nat.ne_of_lt (Nat.lt_of_lt_of_le (Heap.lt_size e) I.ok.above))).trans e1⟩
  ·obtain⟨o',e1⟩:=I.base.there b o e hx
   exact⟨o',(hs.2 b (Nat.ne_of_lt (Nat.lt_of_lt_of_le (Heap.lt_size e) I.ok.above))).trans e1⟩
  ·by_cases hj:j=i
   ·subst hj
    rw[hi] at e1;cases e1
    rw[List.getElem?_set_self hiσ] at e2
    cases e2
    exact⟨u,r,.inl ⟨hk,by simp⟩⟩
   ·rw[List.getElem?_set_ne (Ne.symm hj)] at e2
    obtain⟨u',r',q⟩:=hl j y v' e1 e2 e3
    refine⟨u',r',?_⟩
    rcases q with ⟨k,e⟩ |⟨k,c,e,z⟩
    ·refine .inl ⟨k,?_⟩
     have:y≠x:=fun e=>hj (sM hN e1 (e▸hi))
     simp[this,e]
    ·exact .inr ⟨k,c,e,z.sameBut hs (cne y c e)⟩
  ·obtain⟨w',z⟩:=I.cell y c e
   exact⟨w',z.sameBut hs (cne y c e)⟩
  ·obtain⟨e,n,ne,nf,d⟩:=I.pin p hp
   exact⟨(hs.2 p.1 ne).trans e,n,ne,nf,d⟩
 ·have hfn:X.fn x=true:=by
   rcases hf with z |z
   ·exact z
   ·rw[z] at hk;cases hk
  obtain⟨c,hc⟩:=I.ok.has x (.inl hk)
  obtain⟨w',z⟩:=I.cell x c hc
  refine wpAny_storeName_cell I.ok.kind hk hc z (fun h' hc' hs=>?_)
  obtain⟨oc,hoc,hocd⟩:=id z
  refine h {s with heap:=h'} ⟨I.ok,I.os,I.bare,⟨fun b o e n hb hx=>?_,fun b o e n hb hx=>?_,I.base.free,fun b o e hx=>?_,I.base.tups,I.base.frzs,I.base.tbls⟩,⟨m,hn.sameBut hs (Ne.symm (cne x c hc)),fun j y v' e1 e2 e3=>?_⟩,fun y c' e=>?_,I.free,I.freeC,fun p hp=>?_,tracked ⟨oc,hoc,I.freeC x c hc⟩ hs,by simpa using I.len⟩ ⟨c,hs,.inr hc⟩
  ·exact(hs.2 b (Nat.ne_of_lt (Nat.lt_of_lt_of_le (Heap.lt_size e) (I.ok.cab x c hfn hc)))).trans (I.base.keep b o e n hb hx)
  ·obtain⟨sl,e1⟩:=I.base.slot b o e n hb hx
   exact⟨sl,(hs.2 b (Nat.ne_of_lt (Nat.lt_of_lt_of_le (Heap.lt_size e) (I.ok.cab x c hfn hc)))).trans e1⟩
  ·obtain⟨o',e1⟩:=I.base.there b o e hx
   exact⟨o',(hs.2 b (Nat.ne_of_lt (Nat.lt_of_lt_of_le (Heap.lt_size e) (I.ok.cab x c hfn hc)))).trans e1⟩
  ·by_cases hj:j=i
   ·subst hj
    rw[hi] at e1;cases e1
    rw[List.getElem?_set_self hiσ] at e2
    cases e2
    exact⟨u,r,.inr ⟨.inl hk,c,hc,hc'⟩⟩
   ·rw[List.getElem?_set_ne (Ne.symm hj)] at e2
    obtain⟨u',r',q⟩:=hl j y v' e1 e2 e3
    refine⟨u',r',?_⟩
    rcases q with q |⟨k,c',e,z'⟩
    ·exact .inl q
    ·refine .inr ⟨k,c',e,z'.sameBut hs ?_⟩
     rintro rfl
     exact hj (sM hN e1 (I.ok.inj _ _ _ e hc▸hi))
  ·by_cases hcc:c'=c
   ·subst hcc;exact⟨_,hc'⟩
   ·obtain⟨w2,z2⟩:=I.cell y c' e
    exact⟨w2,z2.sameBut hs hcc⟩
  ·obtain⟨e,n,ne,nf,d⟩:=I.pin p hp
   refine⟨(hs.2 p.1 ?_).trans e,n,ne,nf,d⟩
   intro q
   rw[q,hoc] at e
   have q':oc=p.2:=Option.some.inj e
   exact d w' (by rw[<-q'];exact hocd)
theorem tf{M:Model}{A:Around}{E:Value->Shared->Prop}{i:Nat}{x:Str}{v:V}{u:Value}{Q:Unit->Shared->Prop}(I:Inv X pins σ H s)(hN:X.N.Nodup)(hi:X.N[i]?=some x)(hx:Loc X.env.scope x)(r:RelV v u)
  (h:∀s',Inv X pins (σ.set i (some v)) H s'->Q () s')(hf:X.fn x=true∨X.env.scope.names.lookup x=some .local:=by first |exact .inl rfl |exact .inr rfl |assumption):wpAny M A (storeName X.env x u) Q E s:=
 wS I hN hi hx r (fun s' I' _=>h s' I') hf
theorem Inv.call'{s':Shared}{ch:List Addr}(I:Inv X pins σ H s)(ho:s'.os=s.os)(u:Un (frs X.stack) ch H H' s.heap s'.heap)(hok:HOk X.prog X.w H' s'.heap)(hg:AllBare s'.gens)
  (hch:∀b∈ch,(b∈X.ex∨X.s₀.heap.objs.size<=b)/\b≠X.env.locals/\(∀x c,X.env.cells.lookup x=some c->c≠b)/\∀p∈X.pn++pins,p.1≠b):Inv X pins σ H' s':=by
 obtain⟨h',g',d',t',o'⟩:=s'
 have e:o'=s.os:=ho
 subst e
 exact I.call (g':=g') (t':=t') (d':=d') u hok hg hch
end
abbrev XK:=Value->Option Addr->Hp->Prop
abbrev St:=List (Option V)
abbrev VK:=V->Hp->Prop
abbrev TE:=St->Hp->VK->Prop
abbrev TT:=St->Hp->(Bool->Hp->Prop)->Prop
abbrev TA:=St->Hp->(List V->Hp->Prop)->Prop
structure Ends where
 nx:St->Hp->Prop
 rt:VK
 bk:St->Hp->Prop:=fun _ _=>False
 ct:St->Hp->Prop:=fun _ _=>False
abbrev TS:=Ends->St->Hp->Prop
def EP(X:Cx)(pins:List (Addr×Obj))(σ:St)(Q:VK)(u:Value)(s':Shared):Prop:=∃v H',Inv X pins σ H' s'/\RelV v u/\Q v H'
def TP(X:Cx)(pins:List (Addr×Obj))(σ:St)(Q:Bool->Hp->Prop)(b:Bool)(s':Shared):Prop:=∃H',Inv X pins σ H' s'/\Q b H'
def AP(X:Cx)(pins:List (Addr×Obj))(σ:St)(Q:List V->Hp->Prop)(us:List Value)(s':Shared):Prop:=∃vs H',Inv X pins σ H' s'/\Vals vs us/\Q vs H'
def SP(X:Cx)(pins:List (Addr×Obj))(D:Ends)(f:Flow)(s':Shared):Prop:=
 match f with
 | .next=>∃σ' H',Inv X pins σ' H' s'/\D.nx σ' H'
 | .brk=>∃σ' H',Inv X pins σ' H' s'/\D.bk σ' H'
 | .cont=>∃σ' H',Inv X pins σ' H' s'/\D.ct σ' H'
 | .ret u=>∃v σ' H',Inv X pins σ' H' s'/\RelV v u/\D.rt v H'
def PE(X:Cx)(e:Expr)(t:TE):Prop:=
 ∀(pins:List (Addr×Obj)) (s:Shared) (σ:St) (H:Hp) (Q:VK),Inv X pins σ H s->t σ H Q->wpAny (model X.prog X.w) X.A (eval e X.env) (EP X pins σ Q) X.xe s
def PT(X:Cx)(e:Expr)(t:TT):Prop:=
 ∀(pins:List (Addr×Obj)) (s:Shared) (σ:St) (H:Hp) (Q:Bool->Hp->Prop),Inv X pins σ H s->t σ H Q->wpAny (model X.prog X.w) X.A (isTrue e X.env (eval e X.env)) (TP X pins σ Q) X.xe s
def PW(X:Cx)(e:Expr)(t:TT):Prop:=
 ∀(whole:Sem Value) (pins:List (Addr×Obj)) (s:Shared) (σ:St) (H:Hp) (Q:Bool->Hp->Prop),Inv X pins σ H s->t σ H Q->wpAny (model X.prog X.w) X.A (isTrue e X.env whole) (TP X pins σ Q) X.xe s
theorem PW.pt{X:Cx}{e:Expr}{t:TT}(h:PW X e t):PT X e t:=h _
def PA(X:Cx)(es:List Expr)(t:TA):Prop:=
 ∀(pos:Pos) (pins:List (Addr×Obj)) (s:Shared) (σ:St) (H:Hp) (Q:List V->Hp->Prop),Inv X pins σ H s->t σ H Q->wpAny (model X.prog X.w) X.A (spliced (backTo pos (starEach es X.env))) (AP X pins σ Q) X.xe s
def PS(X:Cx)(st:Stmt)(t:TS):Prop:=
 ∀(pins:List (Addr×Obj)) (s:Shared) (σ:St) (H:Hp) (D:Ends),Inv X pins σ H s->t D σ H->wpAny (model X.prog X.w) X.A (exec st X.env) (SP X pins D) X.xe s
def PSs(X:Cx)(st:List Stmt)(t:TS):Prop:=
 ∀(pins:List (Addr×Obj)) (s:Shared) (σ:St) (H:Hp) (D:Ends),Inv X pins σ H s->t D σ H->wpAny (model X.prog X.w) X.A (execs st X.env) (SP X pins D) X.xe s
theorem thn{α:Type}{t:Sem α}{Q Q':α->Shared->Prop}{M:Model}{A:Around}{E:Value->Shared->Prop}{s:Shared}(h:wpAny M A t Q E s)(hQ:∀a s,Q a s->Q' a s):wpAny M A t Q' E s:=wpAny_mono h hQ fun _ _ x=>x
end L2
namespace L2
open PySem PySem.Spec PyProof.Rows
section
variable {X : Cx}
def tVar(i:Nat):TE:=fun σ H Q=>∃v,σ[i]?=some (some v)/\Q v H
def tC(v:V):TE:=fun _ H Q=>Q v H
theorem BS{i:Nat}{x:Str}{pos:Pos}(hN:X.N[i]?=some x)(hv:Vis X.env.scope x)(hd:(x==("__debug__":Str))=false:=by decide)(hcd:(x==("__classdict__":Str))=false:=by decide):PE X (.Name x pos) (tVar i):=by
 intro pins s σ H Q I h
 obtain⟨v,e,h⟩:=h
 obtain⟨m,hn,hl⟩:=I.loc
 obtain⟨u,r,l⟩:=hl i x v hN e hv
 have fin:EP X pins σ Q u s:=⟨v,H,I,r,h⟩
 rcases l with ⟨hk,hm⟩ |⟨hk,c,hc,hcell⟩
 ·exact wpAny_Name (wpAny_loadName_local I.ok.kind hk hn hm fin) hd
 ·rcases hk with hk |hk
  ·exact wpAny_Name (wpAny_loadName_cell I.ok.kind hk hc hcell fin) hd
  ·exact wpAny_Name (wpAny_loadName_free I.ok.kind hk hc hcell fin hcd) hd
theorem ae{i j pos}:PE X (.Constant (.int i) j pos) (tC (.int i)):=fun _ _ _ H _ I h=>wpAny_Constant_int ⟨.int i,H,I.tok _,⟨_,rfl⟩,h⟩
theorem cb{b j pos}:PE X (.Constant (.bool b) j pos) (tC (.bl b)):=fun _ _ _ H _ I h=>Constant_bool ⟨.bl b,H,I,rfl,h⟩
theorem gX{j pos}:PE X (.Constant .none j pos) (tC .non):=fun _ _ _ H _ I h=>Constant_none ⟨.non,H,I,rfl,h⟩
theorem al{x j pos}:PE X (.Constant (.str x) j pos) (tC (.str x)):=fun _ _ _ H _ I h=>Calls.Constant_str ⟨.str x,H,I.tok _,⟨_,rfl⟩,h⟩
def Gl(X:Cx)(x:Str):Prop:=X.env.kindOf x=some .globalImplicit
theorem iV{E:Value->Shared->Prop}{pins:List (Addr×Obj)}{s:Shared}{σ:St}{H:Hp}{x:Str}{u:Value}{pos:Pos}{Q:Value->Shared->Prop}(I:Inv X pins σ H s)(hg:Gl X x)(hm:X.mg x=some u)(h:Q u s)
  (hd:(x==("__debug__":Str))=false:=by decide):wpAny (model X.prog X.w) X.A (eval (.Name x pos) X.env) Q E s:=
 Calls.Name_function_global I.ok.kind hg (Calls.loadGlobal_global (by rw[I.ok.glob];exact I.mod.glob.keeps I.bk) hm h) hd
theorem kM{E:Value->Shared->Prop}{pins:List (Addr×Obj)}{s:Shared}{σ:St}{H:Hp}{x:Str}{u:Value}{pos:Pos}{Q:Value->Shared->Prop}(I:Inv X pins σ H s)(hg:Gl X x)(hm:X.mg x=none)(hv:bootBuiltins x=some u)(h:Q u s)
  (hn:x≠"__name__":=by decide)(hd:(x==("__debug__":Str))=false:=by decide):wpAny (model X.prog X.w) X.A (eval (.Name x pos) X.env) Q E s:=by
 obtain⟨mb,h1,h2⟩:=I.mod.blt
 exact Calls.Name_function_global I.ok.kind hg (Calls.loadGlobal_builtin (by rw[I.ok.glob];exact I.mod.glob.keeps I.bk) hm (by rw[I.ok.blt];exact h1.keeps I.bk) ((h2 x hn).trans hv) h) hd
theorem bn{x:Str}{v:V}{u:Value}{pos:Pos}(hg:Gl X x)(hm:X.mg x=none)(hv:bootBuiltins x=some u)(r:RelV v u)(hn:x≠"__name__":=by decide)(hd:(x==("__debug__":Str))=false:=by decide):PE X (.Name x pos) (tC v):=
 fun _ _ _ H _ I h=>kM I hg hm hv ⟨v,H,I,r,h⟩ hn hd
variable {a b : Expr} {ta tb : TE} {pos : Pos}
def PC(X:Cx)(op:CmpOp)(a b:Expr)(t:TE):Prop:=
 ∀(pins:List (Addr×Obj)) (s:Shared) (σ:St) (H:Hp) (Q:VK),Inv X pins σ H s->t σ H Q->
  wpAny (model X.prog X.w) X.A (eval a X.env) (fun v s₁=>wpAny (model X.prog X.w) X.A (eval b X.env) (fun u s₂=>wpAny (model X.prog X.w) X.A (compareOp op v u) (EP X pins σ Q) X.xe s₂) X.xe s₁) X.xe s
theorem sL(b:Expr){op:CmpOp}(h:op≠ .In)(h2:op≠ .NotIn):behindInMarks op b=false:=by
 have e1:(op==CmpOp.In)=false:=by cases op<;>first |rfl |exact absurd rfl h
 have e2:(op==CmpOp.NotIn)=false:=by cases op<;>first |rfl |exact absurd rfl h2
 cases b<;>simp[behindInMarks,e1,e2]
def tIsN(ta:TE):TE:=fun σ H Q=>ta σ H fun x H1=>Q (.bl (decide (x= .non))) H1
def tNotN(ta:TE):TE:=fun σ H Q=>ta σ H fun x H1=>Q (.bl (!decide (x= .non))) H1
theorem RelV.none_iff{x:V}{v:Value}(r:RelV x v):(v==Value.none)=decide (x= .non):=by
 cases x with
 |non=>cases r;rfl
 |bl _=>cases r;rfl
 |int _=>obtain⟨t,rfl⟩:=r;rfl
 |str _=>obtain⟨t,rfl⟩:=r;rfl
 |byt _=>obtain⟨t,rfl⟩:=r;rfl
 |flt _=>obtain⟨t,rfl⟩:=r;rfl
 |ref _=>cases r;rfl
 |ty _=>cases r;rfl
theorem uw{j pos'}(ha:PE X a ta):PC X .Is a (.Constant .none j pos') (tIsN ta):=by
 intro pins s σ H Q I h
 refine thn (ha pins s σ H _ I h) fun v s1 ⟨x,H1,I1,r1,q1⟩=>?_
 exact Constant_none (is_none_gen ⟨.bl _,H1,I1,by rw[r1.none_iff];rfl,q1⟩)
theorem iW{j pos'}(ha:PE X a ta):PC X .IsNot a (.Constant .none j pos') (tNotN ta):=by
 intro pins s σ H Q I h
 refine thn (ha pins s σ H _ I h) fun v s1 ⟨x,H1,I1,r1,q1⟩=>?_
 exact Constant_none (isnot_none_gen ⟨.bl _,H1,I1,by rw[r1.none_iff];rfl,q1⟩)
def tB(t:TE):TT:=fun σ H Q=>t σ H fun x H1=>∃c,x= .bl c/\Q c H1
theorem ux{op:CmpOp}{t:TE}(h:PC X op a b t)(h1:behindInMarks op b=false:=by first |exact sL _ (by decide) (by decide) |rfl):PE X (.Compare a [op] [b] pos) t:=fun pins s σ H Q I hw=>wpAny_Compare1 (h pins s σ H Q I hw) h1
theorem fT{op:CmpOp}{t:TE}(h:PC X op a b t)(h1:behindInMarks op b=false:=by first |exact sL _ (by decide) (by decide) |rfl):PT X (.Compare a [op] [b] pos) (tB t):=by
 intro pins s σ H Q I hw
 refine wpAny_isTrue_Compare1 (thn (h pins s σ H _ I hw) fun v s1 h1=>thn h1 fun u s2 h2=>thn h2 fun c s3 ⟨x,H1,I1,r1,q1⟩=>?_) h1
 obtain⟨d,rfl,q⟩:=q1
 cases r1
 exact wpAny_truthy_bool ⟨H1,I1,q⟩
theorem bg{e:Expr}{t:TE}(h:PE X e t)(he:∀whole,isTrue e X.env whole=(do let v <-whole;standAt e.pos;holding [v] (truthy v)):=by intro _;rfl):PT X e (tB t):=by
 intro pins s σ H Q I hw
 refine isTrue_plain (thn (h pins s σ H _ I hw) fun v s1 ⟨x,H1,I1,r1,q1⟩=>?_) (he _)
 obtain⟨d,rfl,q⟩:=q1
 cases r1
 exact wpAny_truthy_bool ⟨H1,I1,q⟩
variable {tA tB' : TT} {rest : List Expr}
def tAnd(t u:TT):TT:=fun σ H Q=>t σ H fun c H1=>if c=true then u σ H1 Q else Q false H1
def tOr(t u:TT):TT:=fun σ H Q=>t σ H fun c H1=>if c=true then Q true H1 else u σ H1 Q
def tNot(t:TT):TT:=fun σ H Q=>t σ H fun c H1=>Q (!c) H1
theorem jU(ha:PT X a tA):PW X (.BoolOp .And [a] pos) tA:=by
 intro wh pins s σ H Q I h
 refine isTrue_and (thn (ha pins s σ H Q I h) fun c s1 e=>?_)
 cases c with
 |true=>exact isTrue_and_nil e
 |false=>exact e
theorem jo(ha:PT X a tA):PW X (.BoolOp .Or [a] pos) tA:=by
 intro wh pins s σ H Q I h
 refine isTrue_or (thn (ha pins s σ H Q I h) fun c s1 e=>?_)
 cases c with
 |false=>exact isTrue_or_nil e
 |true=>exact e
theorem kS(ha:PT X a tA)(hb:PW X (.BoolOp .And (b::rest) pos) tB'):PW X (.BoolOp .And (a::b::rest) pos) (tAnd tA tB'):=by
 intro wh pins s σ H Q I h
 refine isTrue_and (thn (ha pins s σ H _ I h) fun c s1 ⟨H1,I1,q1⟩=>?_)
 cases c with
 |true=>exact hb wh pins s1 σ H1 Q I1 q1
 |false=>exact⟨H1,I1,q1⟩
theorem jV(ha:PT X a tA)(hb:PW X (.BoolOp .Or (b::rest) pos) tB'):PW X (.BoolOp .Or (a::b::rest) pos) (tOr tA tB'):=by
 intro wh pins s σ H Q I h
 refine isTrue_or (thn (ha pins s σ H _ I h) fun c s1 ⟨H1,I1,q1⟩=>?_)
 cases c with
 |true=>exact⟨H1,I1,q1⟩
 |false=>exact hb wh pins s1 σ H1 Q I1 q1
theorem bZ(ha:PT X a tA):PT X (.UnaryOp .Not a pos) (tNot tA):=by
 intro pins s σ H Q I h
 exact isTrue_not (ha pins s σ H (fun c H1=>Q (!c) H1) I h)
def tAndV(ta tb:TE):TE:=fun σ H Q=>ta σ H fun x H1=>∃c,x= .bl c/\if c=true then tb σ H1 Q else Q (.bl false) H1
def tOrV(ta tb:TE):TE:=fun σ H Q=>ta σ H fun x H1=>∃c,x= .bl c/\if c=true then Q (.bl true) H1 else tb σ H1 Q
def tNotV(ta:TE):TE:=fun σ H Q=>ta σ H fun x H1=>∃c,x= .bl c/\Q (.bl (!c)) H1
theorem kR{op}{t:TE}(h:PE X a t):PE X (.BoolOp op [a] pos) t:=fun pins s σ H Q I hw=>BoolOp_one (h pins s σ H Q I hw)
theorem jn(ha:PE X a ta)(hb:PE X (.BoolOp .And (b::rest) pos) tb):PE X (.BoolOp .And (a::b::rest) pos) (tAndV ta tb):=by
 intro pins s σ H Q I h
 refine BoolOp_and (thn (ha pins s σ H _ I h) fun v s1 ⟨x,H1,I1,r1,q1⟩=>?_)
 obtain⟨c,rfl,q1⟩:=q1
 cases r1
 refine wpAny_truthy_bool ?_
 cases c with
 |true=>exact hb pins s1 σ H1 Q I1 q1
 |false=>exact⟨.bl false,H1,I1,rfl,q1⟩
theorem uy(ha:PE X a ta):PE X (.UnaryOp .Not a pos) (tNotV ta):=by
 intro pins s σ H Q I h
 refine UnaryOp_ (thn (ha pins s σ H _ I h) fun v s1 ⟨x,H1,I1,r1,q1⟩=>?_)
 obtain⟨c,rfl,q1⟩:=q1
 cases r1
 exact not_of (wpAny_truthy_bool ⟨.bl (!c),H1,I1,rfl,q1⟩)
end
end L2
namespace L2
open PySem PySem.Spec PyProof.Rows
def SqL(K:PySem.W.Frag)(H:Hp)(a:Addr)(xs:List V):Prop:=
 Rd H a (.lst xs)∨
  ∃(o:Obj) (its:Array Value) (n:Nat),K.lookup a=some o/\o.cls= .type "list"/\o.dict=none/\o.data= .seq its n/\its.size<=sizeLine/\Vals xs its.toList
def SqT(K:PySem.W.Frag)(H:Hp)(a:Addr)(xs:List V):Prop:=
 Rd H a (.tup xs)∨
  ∃(o:Obj) (its:Array Value) (n:Nat),K.lookup a=some o/\o.cls= .type "tuple"/\o.data= .seq its n/\its.size<=sizeLine/\Vals xs its.toList
def C0:Value->Option V
 | .none=>some .non
 | .bool b=>some (.bl b)
 | .int i _=>some (.int i)
 | .str x _=>some (.str x)
 | .bytes b _=>some (.byt b)
 | .float b _=>some (.flt b)
 | .ref a=>some (.ref a)
 | .type n=>some (.ty n)
 |_=>none
theorem RelV.abs{x:V}{u:Value}(r:RelV x u):C0 u=some x:=by
 cases x with
 |non=>cases r;rfl
 |bl _=>cases r;rfl
 |int _=>obtain⟨t,rfl⟩:=r;rfl
 |str _=>obtain⟨t,rfl⟩:=r;rfl
 |byt _=>obtain⟨t,rfl⟩:=r;rfl
 |flt _=>obtain⟨t,rfl⟩:=r;rfl
 |ref _=>cases r;rfl
 |ty _=>cases r;rfl
theorem RelV.inj{x y:V}{u:Value}(r:RelV x u)(q:RelV y u):x=y:=Option.some.inj (r.abs.symm.trans q.abs)
theorem Vals.inj:∀{xs ys:List V} {us:List Value},Vals xs us->Vals ys us->xs=ys
 |_,_,_,.nil,.nil=>rfl
 |_,_,_,.cons r t,.cons r' t'=>by rw[r.inj r',Vals.inj t t']
section
variable {X : Cx} {pins : List (Addr × Obj)} {σ : St} {H : Hp} {s : Shared} {a : Addr} {xs ys : List V}
theorem SqL.of{K:PySem.W.Frag}(h:H a=some (.lst xs)):SqL K H a xs:= .inl (.inl h)
theorem SqT.of{K:PySem.W.Frag}(h:H a=some (.tup xs)):SqT K H a xs:= .inl (.inl h)
theorem Inv.list(I:Inv X pins σ H s)(h:SqL X.K H a xs):∃its:List Value,Vals xs its/\PlainL s.heap a its.toArray/\xs.length<=sizeLine:=by
 rcases h with h |⟨o,its,n,hk,hc,hd,hs,hz,r⟩
 ·obtain⟨z,its,n,r,e⟩:=h.ok I.hok
  exact⟨its,r,⟨_,n,e,rfl,rfl,rfl⟩,z⟩
 ·refine⟨its.toList,r,⟨o,n,I.kIn a o hk,hc,hd,by simpa using hs⟩,?_⟩
  have e:=r.length
  simp only[Array.length_toList] at e
  omega
theorem Inv.tuple(I:Inv X pins σ H s)(h:SqT X.K H a xs):∃its:List Value,Vals xs its/\IsTup s.heap a its.toArray/\xs.length<=sizeLine:=by
 rcases h with h |⟨o,its,n,hk,hc,hs,hz,r⟩
 ·obtain⟨z,its,r,p⟩:=h.ok I.hok
  exact⟨its,r,p,z⟩
 ·refine⟨its.toList,r,⟨o,I.kIn a o hk,hc,n,by simpa using hs⟩,?_⟩
  have e:=r.length
  simp only[Array.length_toList] at e
  omega
theorem Inv.list_inj(I:Inv X pins σ H s)(h:SqL X.K H a xs)(h':SqL X.K H a ys):xs=ys:=by
 obtain⟨its,r,⟨o,n,e,_,_,d⟩,_⟩:=I.list h
 obtain⟨its',r',⟨o',n',e',_,_,d'⟩,_⟩:=I.list h'
 rw[e] at e';cases e'
 rw[d] at d'
 injection d' with d1 _
 have:its=its':=by simpa using congrArg Array.toList d1
 subst this
 exact r.inj r'
theorem Inv.tuple_inj(I:Inv X pins σ H s)(h:SqT X.K H a xs)(h':SqT X.K H a ys):xs=ys:=by
 obtain⟨its,r,⟨o,e,_,n,d⟩,_⟩:=I.tuple h
 obtain⟨its',r',⟨o',e',_,n',d'⟩,_⟩:=I.tuple h'
 rw[e] at e';cases e'
 rw[d] at d'
 injection d' with d1 _
 have:its=its':=by simpa using congrArg Array.toList d1
 subst this
 exact r.inj r'
end
abbrev Cx.wish(X:Cx)(E:Value->Shared->Prop):Cx:={X with xe:=E}
abbrev Cx.nox(X:Cx):Cx:=X.wish fun _ _=>False
theorem Cx.Ok.wish{X:Cx}(ok:X.Ok)(E:Value->Shared->Prop):(X.wish E).Ok:=
 ⟨ok.mod,ok.kind,ok.glob,ok.blt,ok.above,ok.inj,ok.has,ok.cab,ok.hd,ok.frames,ok.stk,ok.exf,ok.bs,ok.bsz,ok.noex,ok.exfs,ok.funs,ok.frf⟩
theorem Cx.Ok.unwish{X:Cx}{E:Value->Shared->Prop}(ok:(X.wish E).Ok):X.Ok:=
 ⟨ok.mod,ok.kind,ok.glob,ok.blt,ok.above,ok.inj,ok.has,ok.cab,ok.hd,ok.frames,ok.stk,ok.exf,ok.bs,ok.bsz,ok.noex,ok.exfs,ok.funs,ok.frf⟩
section
variable {X : Cx} {pins : List (Addr × Obj)} {σ : St} {H : Hp} {s : Shared} {E : Value → Shared → Prop}
theorem Inv.wish(I:Inv X pins σ H s)(E:Value->Shared->Prop):Inv (X.wish E) pins σ H s:=⟨I.ok.wish E,I.os,I.bare,I.base,I.loc,I.cell,I.free,I.freeC,I.pin,I.hok,I.len⟩
theorem Inv.unwish(I:Inv (X.wish E) pins σ H s):Inv X pins σ H s:=⟨I.ok.unwish,I.os,I.bare,I.base,I.loc,I.cell,I.free,I.freeC,I.pin,I.hok,I.len⟩
theorem SP.unwish{D:Ends}{f:Flow}{s':Shared}(h:SP (X.wish E) pins D f s'):SP X pins D f s':=by
 cases f with
 |next=>obtain⟨σ',H',I,q⟩:=h;exact⟨σ',H',I.unwish,q⟩
 |brk=>obtain⟨σ',H',I,q⟩:=h;exact⟨σ',H',I.unwish,q⟩
 |cont=>obtain⟨σ',H',I,q⟩:=h;exact⟨σ',H',I.unwish,q⟩
 |ret u=>obtain⟨v,σ',H',I,r,q⟩:=h;exact⟨v,σ',H',I.unwish,r,q⟩
theorem PSs.nox{st:List Stmt}{t:TS}(h:PSs X.nox st t):PSs X st t:=fun pins s σ H D I hw=>
 wpAny_mono (h pins s σ H D (I.wish _) hw) (fun _ _ q=>q.unwish) fun _ _ z=>False.elim z
end
section
variable {X : Cx} {st : Stmt} {rest : List Stmt} {t u : TS} {e : Expr} {te : TE} {pos : Pos}
def tNext:TS:=fun D σ H=>D.nx σ H
def tSeq(t u:TS):TS:=fun D σ H=>t {D with nx:=u D} σ H
theorem av:PSs X [] tNext:=fun _ _ σ H _ I h=>wpAny_execs_nil ⟨σ,H,I,h⟩
theorem ac(h1:PS X st t)(h2:PSs X rest u):PSs X (st::rest) (tSeq t u):=by
 intro pins s σ H D I h
 refine wpAny_execs_cons (thn (h1 pins s σ H {D with nx:=u D} I h) fun f s1 q=>?_)
 cases f with
 |next=>
  obtain⟨σ',H',I',q⟩:=q
  exact h2 pins s1 σ' H' D I' q
 |ret v=>exact q
 |brk=>exact q
 |cont=>exact q
theorem ah(h1:PS X st t):PSs X [st] t:=by
 intro pins s σ H D I h
 refine wpAny_execs_cons (thn (h1 pins s σ H D I h) fun f s1 q=>?_)
 cases f with
 |next=>exact wpAny_execs_nil q
 |ret v=>exact q
 |brk=>exact q
 |cont=>exact q
theorem Inv.quiet{pins:List (Addr×Obj)}{σ:St}{H:Hp}{s:Shared}(I:Inv X pins σ H s):interactive X.env=false:=by simp[interactive,I.ok.kind]
def tDrop(te:TE):TS:=fun D σ H=>te σ H fun _ H1=>D.nx σ H1
theorem aY(he:PE X e te)(hs:swapsWith e none pos.line X.env=pure false:=by rfl):PS X (.Expr e pos) (tDrop te):=by
 intro pins s σ H D I h
 exact wpAny_Expr_any (thn (he pins s σ H _ I h) fun v s1 ⟨x,H1,I1,r1,q1⟩=>⟨σ,H1,I1,q1⟩) I.quiet hs
def tRet(te:TE):TS:=fun D σ H=>te σ H D.rt
theorem ar(he:PE X e te):PS X (.Return (some e) pos) (tRet te):=by
 intro pins s σ H D I h
 exact wpAny_Return_some (thn (he pins s σ H _ I h) fun v s1 ⟨x,H1,I1,r1,q1⟩=>⟨x,σ,H1,I1,r1,q1⟩)
def tRetN:TS:=fun D _ H=>D.rt .non H
def tIfS(c:TT)(t u:TS):TS:=fun D σ H=>c σ H fun b H1=>if b=true then t D σ H1 else u D σ H1
theorem aH{c:Expr}{a b:List Stmt}{tc:TT}(hc:PT X c tc)(ha:PSs X a t)(hb:PSs X b u):PS X (.If c a b pos) (tIfS tc t u):=by
 intro pins s σ H D I h
 refine wpAny_If (thn (hc pins s σ H _ I h) fun d s1 ⟨H1,I1,q1⟩=>?_)
 cases d with
 |true=>exact ha pins s1 σ H1 D I1 q1
 |false=>exact hb pins s1 σ H1 D I1 q1
def Cj:TS:=fun _ _ _=>False
theorem yN:PS X st Cj:=fun _ _ _ _ _ _ h=>h.elim
end
abbrev TG:=V->St->Hp->(St->Hp->Prop)->Prop
abbrev TGs:=List V->St->Hp->(St->Hp->Prop)->Prop
def PG(X:Cx)(target:Expr)(t:TG):Prop:=
 ∀(pins:List (Addr×Obj)) (s:Shared) (σ:St) (H:Hp) (v:V) (u:Value) (Q:St->Hp->Prop),Inv X pins σ H s->RelV v u->t v σ H Q->
  wpAny (model X.prog X.w) X.A (assign target X.env u) (fun _ s'=>∃σ' H',Inv X pins σ' H' s'/\Q σ' H') X.xe s
def PGs(X:Cx)(ts:List Expr)(t:TGs):Prop:=
 ∀(pins:List (Addr×Obj)) (s:Shared) (σ:St) (H:Hp) (vs:List V) (us:List Value) (Q:St->Hp->Prop),Inv X pins σ H s->Vals vs us->t vs σ H Q->
  wpAny (model X.prog X.w) X.A (assignInOrder ((assignEach ts X.env).map (·.2)) us) (fun _ s'=>∃σ' H',Inv X pins σ' H' s'/\Q σ' H') X.xe s
abbrev Bl:=V->V->V->Hp->(Hp->Prop)->Prop
def Co(X:Cx)(t:Bl):Prop:=
 ∀(pins:List (Addr×Obj)) (s:Shared) (σ:St) (H:Hp) (o i v:V) (ov iv u:Value) (Q:Hp->Prop),Inv X pins σ H s->RelV o ov->RelV i iv->RelV v u->t o i v H Q->
  wpAny (model X.prog X.w) X.A (setItem ov iv u) (fun _ s'=>∃H',Inv X pins σ H' s'/\Q H') X.xe s
section
variable {X : Cx} {pos : Pos}
def gName(i:Nat):TG:=fun v σ H Q=>Q (σ.set i (some v)) H
theorem aV{i:Nat}{x:Str}(hN:X.N.Nodup)(hi:X.N[i]?=some x)(hx:Loc X.env.scope x)(hf:X.fn x=true∨X.env.scope.names.lookup x=some .local:=by first |exact .inl rfl |exact .inr rfl |assumption):PG X (.Name x pos) (gName i):=by
 intro pins s σ H v u Q I r h
 exact wpAny_assign_Name (tf I hN hi hx r (fun s' I'=>⟨_,H,I',h⟩) hf)
def gNil:TGs:=fun vs σ H Q=>vs=[]/\Q σ H
def gCons(t:TG)(u:TGs):TGs:=fun vs σ H Q=>∃v r,vs=v::r/\t v σ H fun σ' H'=>u r σ' H' Q
theorem vF:PGs X [] gNil:=by
 intro pins s σ H vs us Q I r h
 obtain⟨e,h⟩:=h
 subst e
 cases r
 exact assignInOrder_nil ⟨σ,H,I,h⟩
theorem gF{e:Expr}{es:List Expr}{t:TG}{u:TGs}(h1:PG X e t)(h2:PGs X es u)
  (hs:(assignEach (e::es) X.env).map (·.2)=assign e X.env::(assignEach es X.env).map (·.2):=by rfl):PGs X (e::es) (gCons t u):=by
 intro pins s σ H vs us Q I r h
 obtain⟨v,vr,e1,h⟩:=h
 subst e1
 cases r with
 |cons r rr=>
  rw[hs]
  refine assignInOrder_cons (thn (h1 pins s σ H _ _ _ I r h) fun _ s1 ⟨σ1,H1,I1,q1⟩=>?_)
  exact h2 pins s1 σ1 H1 _ _ Q I1 rr q1
def gTup(K:PySem.W.Frag)(n:Nat)(t:TGs):TG:=fun v σ H Q=>∃a xs,v= .ref a/\SqT K H a xs/\xs.length=n/\t xs σ H Q
theorem yK{es:List Expr}{k:Nat}{t:TGs}{n:Nat}(hc:X.calm=true)(h:PGs X es t)
  (hn:(assignEach es X.env).length=n:=by rfl)(hst:(assignEach es X.env).findIdx? (·.1)=none:=by rfl):PG X (.Tuple es k pos) (gTup X.K n t):=by
 intro pins s σ H v u Q I r hw
 obtain⟨a,xs,e1,hq,hl,hw⟩:=hw
 subst e1
 cases r
 obtain⟨its,rv,ht,hz⟩:=I.tuple hq
 refine assign_Tuple_tuple (I.ok.hd hc) ht (by simp[hn,<-hl,rv.length]) hst fun h' hx=>?_
 have I1:Inv X pins σ H {s with heap:=h'}:=I.kept (t':=s.toks) fun b o e=>hx b o (Nat.ne_of_lt (Heap.lt_size e)) e
 exact h pins _ σ H xs _ Q I1 (by simpa using rv) hw
def we(to ti:TE)(t:Bl):TG:=fun v σ H Q=>to σ H fun o H1=>ti σ H1 fun i H2=>t o i v H2 fun H3=>Q σ H3
theorem uz{o i:Expr}{to ti:TE}{t:Bl}(ho:PE X o to)(hi:PE X i ti)(hs:Co X t)
  (ha:∀v,assign (.Subscript o i pos) X.env v=(do
   let ov <-holding [v] (eval o X.env)
   let iv <-holding [v,ov] (eval i X.env)
   standAt pos
   holding [v,ov,iv] (setItem ov iv v)
   release [v,ov,iv] []):=by intro _;rfl):PG X (.Subscript o i pos) (we to ti t):=by
 intro pins s σ H v u Q I r h
 rw[ha]
 refine wpAny_bind (wpAny_holding (thn (ho pins s σ H _ I h) fun ov s1 ⟨x,H1,I1,r1,q1⟩=>?_))
 refine wpAny_bind (wpAny_holding (thn (hi pins s1 σ H1 _ I1 q1) fun iv s2 ⟨y,H2,I2,r2,q2⟩=>?_))
 refine wpAny_bind (wpAny_standAt (wpAny_bind (wpAny_holding (thn (hs pins s2 σ H2 x y v ov iv u _ I2 r1 r2 r q2) fun _ s3 ⟨H3,I3,q3⟩=>?_))))
 exact wpAny_release ⟨σ,H3,I3,q3⟩
def tAsg(te:TE)(g:TG):TS:=fun D σ H=>te σ H fun x H1=>g x σ H1 D.nx
theorem uB{tg e:Expr}{te:TE}{g:TG}(he:PE X e te)(hg:PG X tg g)(hs:swapsWithSole [tg] e pos.line X.env=pure false:=by rfl)(hw:swappedStores [tg] e X.env=pure none:=by rfl)
  (h1:(assignEach [tg] X.env).map (·.2)=[assign tg X.env]:=by rfl):PS X (.Assign [tg] e pos) (tAsg te g):=by
 intro pins s σ H D I h
 refine wpAny_Assign_stores (thn (he pins s σ H _ I h) fun v s1 ⟨x,H1,I1,r1,q1⟩=>?_) hs hw
 rw[h1]
 exact thn (hg pins s1 σ H1 x v _ I1 r1 q1) fun _ s2 q=>q
theorem aG{i:Nat}{x:Str}{e:Expr}{te:TE}{pos':Pos}(hN:X.N.Nodup)(hi:X.N[i]?=some x)(hx:Loc X.env.scope x)(he:PE X e te)(hs:swapsWith e (some (.Name x pos')) pos.line X.env=pure false:=by rfl)(hf:X.fn x=true∨X.env.scope.names.lookup x=some .local:=by first |exact .inl rfl |exact .inr rfl |assumption):
  PS X (.Assign [.Name x pos'] e pos) (tAsg te (gName i)):=by
 intro pins s σ H D I h
 refine wpAny_Assign_Name (thn (he pins s σ H _ I h) fun v s1 ⟨y,H1,I1,r1,q1⟩=>?_) hs
 exact tf I1 hN hi hx r1 (fun s2 I2=>⟨_,H1,I2,q1⟩) hf
end
structure It where
 go:Nat->Hp->Prop
 yld:Nat->Hp->V->Hp->Prop
 stop:Nat->Hp->Prop
def FpOk(X:Cx)(pins:List (Addr×Obj))(H:Hp)(b:Addr):Prop:=
 H b=none/\b≠X.env.locals/\b∉X.fs/\(b∈X.ex∨X.s₀.heap.objs.size<=b)/\(∀x c,X.env.cells.lookup x=some c->c≠b)/\∀p∈X.pn++pins,p.1≠b
theorem Inv.fpOk{X:Cx}{pins:List (Addr×Obj)}{σ:St}{H H':Hp}{s:Shared}{b:Addr}(I:Inv X pins σ H s)(hb:s.heap.objs.size<=b)(hn:H' b=none):FpOk X pins H' b:=by
 refine⟨hn,Nat.ne_of_gt (Nat.lt_of_lt_of_le I.lt hb),I.nofs hb,.inr (Nat.le_trans I.sz hb),fun x c e z=>?_,fun p hp z=>?_⟩
 ·obtain⟨v,q⟩:=I.cell x c e
  exact absurd (Nat.lt_of_lt_of_le q.lt (by rw[z];exact hb)) (Nat.lt_irrefl _)
 ·exact absurd (Nat.lt_of_lt_of_le (Heap.lt_size (I.pin p hp).1) (by rw[z];exact hb)) (Nat.lt_irrefl _)
structure Turn (P:Program) (w:World) (K:PySem.W.Frag) (tg:Expr) (J:It) (fp:List Addr) (it:Addr) (tn:Nat->Heap->Prop):Prop where
 mem:it∈fp
 obj:∀i h,tn i h->∀b∈fp,∃o,h.get? b=some o/\∀v,o.data≠ .cell v
 keep:∀i h h',tn i h->(∀b∈fp,∀o,h.get? b=some o->h'.get? b=some o)->tn i h'
 item:∀(X:Cx),X.prog=P->X.w=w->X.K=K->X.calm=true->∀(i:Nat) (pins:List (Addr×Obj)) (s:Shared) (σ:St) (H:Hp) (E:Value->Shared->Prop),Inv X pins σ H s->(∀b∈fp,FpOk X pins H b)->tn i s.heap->J.go i H->
  wpAny (model P w) X.A (pyNext (.ref it)) (fun r s1=>∃u,r=some u/\
   wpAny (model P w) X.A (letOwnedTupleGo tg (.ref it) u) (fun _ s2=>∃x H',Inv X pins σ H' s2/\RelV x u/\J.yld i H x H'/\tn (i+1) s2.heap/\∀b∈fp,H' b=none) E s1) E s
 done:∀(X:Cx),X.prog=P->X.w=w->X.K=K->X.calm=true->∀(i:Nat) (pins:List (Addr×Obj)) (s:Shared) (σ:St) (H:Hp) (E:Value->Shared->Prop),Inv X pins σ H s->(∀b∈fp,FpOk X pins H b)->tn i s.heap->J.stop i H->
  wpAny (model P w) X.A (pyNext (.ref it)) (fun r s1=>r=none/\Inv X pins σ H s1) E s
 self:∀(A:Around) (i:Nat) (s:Shared) (Q:Value->Shared->Prop) (E:Value->Shared->Prop),tn i s.heap->Q (.ref it) s->wpAny (model P w) A (pyIter (.ref it)) Q E s
abbrev TI:=St->Hp->(It->Hp->Prop)->Prop
def PIE(X:Cx)(pins:List (Addr×Obj))(σ:St)(tg:Expr)(R:It->Hp->Prop)(itv:Value)(s2:Shared):Prop:=
 ∃(it:Addr) (fp:List Addr) (tn:Nat->Heap->Prop) (J:It) (H':Hp),itv= .ref it/\Inv X pins σ H' s2/\Turn X.prog X.w X.K tg J fp it tn/\tn 0 s2.heap/\(∀b∈fp,FpOk X pins H' b)/\R J H'
def PI(X:Cx)(tg iter:Expr)(wi:TI):Prop:=
 ∀(pins:List (Addr×Obj)) (s:Shared) (σ:St) (H:Hp) (R:It->Hp->Prop),Inv X pins σ H s->wi σ H R->
  wpAny (model X.prog X.w) X.A (eval iter X.env) (fun v s1=>wpAny (model X.prog X.w) X.A (pyIter v) (PIE X pins σ tg R) X.xe s1) X.xe s
theorem vj {M : Model} {A : Around} {E : Value -> Shared -> Prop} {s : Shared} {tg : Expr} {it : Addr} {u : Value} {o : Obj} {n : String} {vs : Array Value} {Q : Unit -> Shared -> Prop} (ho : s.heap.get? it = some o) (hc : o.cls = .type n) (hd : o.data = .fields vs)
    (hn : ["enumerate", "zip", "dict_itemiterator", "dict_reverseitemiterator", "odict_iterator", "itertools.zip_longest", "itertools.pairwise"].contains n = false) (hQ : Q () s) : wpAny M A (letOwnedTupleGo tg (.ref it) u) Q E s := by
  unfold letOwnedTupleGo
  cases tg <;> first
    | exact wpAny_pure hQ
    | (cases u <;> first
        | exact wpAny_pure hQ
        | (refine wpAny_bind (wpAny_load ho ?_)
           rw [hc, hd]
           show wpAny M A (if (["enumerate", "zip", "dict_itemiterator", "dict_reverseitemiterator", "odict_iterator", "itertools.zip_longest", "itertools.pairwise"].contains n && vs[0]? == some (rawInt _)) = true then _ else _) Q E s
           rw [if_neg (by intro h; rw [hn, Bool.false_and] at h; cases h)]
           exact wpAny_pure hQ))
def Itl(K:PySem.W.Frag)(a:Addr):It:=
 ⟨fun i H=>∃xs x,SqL K H a xs/\xs[i]?=some x,fun i H x H'=>H'=H/\∀xs,SqL K H a xs->xs[i]?=some x,fun i H=>∃xs,SqL K H a xs/\xs.length<=i⟩
def Itt(K:PySem.W.Frag)(a:Addr):It:=
 ⟨fun i H=>∃xs x,SqT K H a xs/\xs[i]?=some x,fun i H x H'=>H'=H/\∀xs,SqT K H a xs->xs[i]?=some x,fun i H=>∃xs,SqT K H a xs/\xs.length<=i⟩
def Itr(lo:Int)(n:Nat):It:=⟨fun i _=>i<n,fun i H x H'=>H'=H/\x= .int (lo+i),fun i _=>n<=i⟩
theorem wU{P:Program}{w:World}{K:PySem.W.Frag}{tg:Expr}(a it:Addr):Turn P w K tg (Itl K a) [it] it (fun i h=>h.IsListIter it a i) where
 mem:=by simp
 obj:=fun i h st b hb=>by
  have e:b=it:=by simpa using hb
  subst e
  obtain⟨o,e,c,d⟩:=st
  exact⟨o,e,fun v z=>by rw[d] at z;cases z⟩
 keep:=fun i h h' st k=>st.at fun o e=>k it (by simp) o e
 item:=by
  intro X hP hw hK hc i pins s σ H E I hf st hg
  subst hP hw hK
  obtain⟨xs,x,hq,hx⟩:=hg
  obtain⟨its,rv,p,hz⟩:=I.list hq
  obtain⟨u,hu,ru⟩:=rv.get hx
  obtain⟨f0,f1,f2,f3,f4,f5⟩:=hf it (by simp)
  refine wpAny_pyNext_list_item st p.isList (x:=u) (by simpa using hu) fun h' st' sb=>?_
  have I1:Inv X pins σ H {s with heap:=h'}:=I.turned (t':=s.toks) (fun b o hb e=>(sb.2 b hb).trans e) f0 f1 f3 f4 f5
  obtain⟨o,e,c,d⟩:=id st'
  exact⟨u,rfl,vj (s:={s with heap:=h'}) e c d (by decide) ⟨x,H,I1,ru,⟨rfl,fun ys hy=>by rw[I.list_inj hy hq];exact hx⟩,st',fun b hb=>(hf b hb).1⟩⟩
 done:=by
  intro X hP hw hK hc i pins s σ H E I hf st hg
  subst hP hw hK
  obtain⟨xs,hq,hx⟩:=hg
  obtain⟨its,rv,p,hz⟩:=I.list hq
  obtain⟨f0,f1,f2,f3,f4,f5⟩:=hf it (by simp)
  have hl:=rv.length
  exact wpAny_pyNext_list_end (I.ok.hd hc) st p.isList (by simp;omega) fun h' eb=>⟨rfl,I.turned (t':=s.toks) (fun b o hb e=>eb b o hb e) f0 f1 f3 f4 f5⟩
 self:=fun _ _ _ _ _ st h=>wpAny_pyIter_listiter st h
theorem uQ{P:Program}{w:World}{K:PySem.W.Frag}{tg:Expr}(a it:Addr):Turn P w K tg (Itt K a) [it] it (fun i h=>h.IsTupleIter it a i) where
 mem:=by simp
 obj:=fun i h st b hb=>by
  have e:b=it:=by simpa using hb
  subst e
  obtain⟨o,e,c,d⟩:=st
  exact⟨o,e,fun v z=>by rw[d] at z;cases z⟩
 keep:=fun i h h' st k=>st.at fun o e=>k it (by simp) o e
 item:=by
  intro X hP hw hK hc i pins s σ H E I hf st hg
  subst hP hw hK
  obtain⟨xs,x,hq,hx⟩:=hg
  obtain⟨its,rv,p,hz⟩:=I.tuple hq
  obtain⟨u,hu,ru⟩:=rv.get hx
  obtain⟨f0,f1,f2,f3,f4,f5⟩:=hf it (by simp)
  refine wpAny_pyNext_tuple_item st (show s.heap.IsTuple a its.toArray from p) (x:=u) (by simpa using hu) fun h' st' sb=>?_
  have I1:Inv X pins σ H {s with heap:=h'}:=I.turned (t':=s.toks) (fun b o hb e=>(sb.2 b hb).trans e) f0 f1 f3 f4 f5
  obtain⟨o,e,c,d⟩:=id st'
  exact⟨u,rfl,vj (s:={s with heap:=h'}) e c d (by decide) ⟨x,H,I1,ru,⟨rfl,fun ys hy=>by rw[I.tuple_inj hy hq];exact hx⟩,st',fun b hb=>(hf b hb).1⟩⟩
 done:=by
  intro X hP hw hK hc i pins s σ H E I hf st hg
  subst hP hw hK
  obtain⟨xs,hq,hx⟩:=hg
  obtain⟨its,rv,p,hz⟩:=I.tuple hq
  obtain⟨f0,f1,f2,f3,f4,f5⟩:=hf it (by simp)
  have hl:=rv.length
  exact wpAny_pyNext_tuple_end (I.ok.hd hc) st (show s.heap.IsTuple a its.toArray from p) (by simp;omega) fun h' eb=>⟨rfl,I.turned (t':=s.toks) (fun b o hb e=>eb b o hb e) f0 f1 f3 f4 f5⟩
 self:=fun _ _ _ _ _ st h=>wpAny_pyIter_tupleiter st h
theorem uP{P:Program}{w:World}{K:PySem.W.Frag}{tg:Expr}(it:Addr)(lo:Int)(n:Nat):Turn P w K tg (Itr lo n) [it] it (fun i h=>IsRangeIter h it (lo+(i:Nat)*1) ((n:Int) - (i:Nat)) 1) where
 mem:=by simp
 obj:=fun i h st b hb=>by
  have e:b=it:=by simpa using hb
  subst e
  exact⟨_,st,fun v z=>by
   have z':Data.fields _=Data.cell v:=z
   cases z'⟩
 keep:=fun i h h' st k=>k it (by simp) _ st
 item:=by
  intro X hP hw hK hc i pins s σ H E I hf st hg
  subst hP hw hK
  obtain⟨f0,f1,f2,f3,f4,f5⟩:=hf it (by simp)
  have W:=Walks.range (prog:=X.prog) (w:=X.w) (I.ok.hd hc) it lo 1 n
  refine W.item i s _ _ hg st fun v h' tk hv st' kk=>?_
  obtain⟨t,rfl⟩:=hv
  have I1:Inv X pins σ H {s with heap:=h',toks:=tk}:=I.turned (fun b o hb e=>kk b o (by simpa using hb) e) f0 f1 f3 f4 f5
  refine⟨_,rfl,vj (s:={s with heap:=h',toks:=tk}) (n:="range_iterator") st' rfl rfl (by decide) ⟨.int (lo+i),H,I1,⟨t,?_⟩,⟨rfl,rfl⟩,st',fun b hb=>(hf b hb).1⟩⟩
  rw[Int.mul_one]
 done:=by
  intro X hP hw hK hc i pins s σ H E I hf st hg
  subst hP hw hK
  obtain⟨f0,f1,f2,f3,f4,f5⟩:=hf it (by simp)
  exact wpAny_pyNext_range_end (I.ok.hd hc) st (by have:n<=i:=hg;omega) fun h' eb=>⟨rfl,I.turned (t':=s.toks) (fun b o hb e=>eb b o hb e) f0 f1 f3 f4 f5⟩
 self:=fun _ _ _ _ _ st h=>wpAny_pyIter_rangeiter st h
end L2
namespace L2
open PySem PySem.Spec PyProof.Rows
section
variable {X : Cx} {tg : Expr}
def iList(K:PySem.W.Frag)(tl:TE):TI:=fun σ H R=>tl σ H fun x H1=>∃a,x= .ref a/\(∃xs,SqL K H1 a xs)/\R (Itl K a) H1
def iTup(K:PySem.W.Frag)(tl:TE):TI:=fun σ H R=>tl σ H fun x H1=>∃a,x= .ref a/\(∃xs,SqT K H1 a xs)/\R (Itt K a) H1
theorem bW{l:Expr}{tl:TE}(hl:PE X l tl):PI X tg l (iList X.K tl):=by
 intro pins s σ H R I h
 refine thn (hl pins s σ H _ I h) fun v s1 ⟨x,H1,I1,r1,q1⟩=>?_
 obtain⟨a,e,⟨xs,hq⟩,q⟩:=q1
 subst e
 cases r1
 obtain⟨its,rv,p,hz⟩:=I1.list hq
 refine wpAny_pyIter_list p.isList ?_
 refine⟨s1.heap.objs.size,[s1.heap.objs.size],_,_,H1,rfl,I1.kept (t':=s1.toks) fun b o e=>Heap.get?_push_of_some _ e,wU a _,⟨_,Heap.get?_push_size _ rfl,rfl,rfl⟩,fun b hb=>?_,q⟩
 have e:b=s1.heap.objs.size:=by simpa using hb
 subst e
 exact I1.fpOk (Nat.le_refl _) (I1.hok.fresh (Nat.le_refl _))
theorem BT{l:Expr}{tl:TE}(hl:PE X l tl):PI X tg l (iTup X.K tl):=by
 intro pins s σ H R I h
 refine thn (hl pins s σ H _ I h) fun v s1 ⟨x,H1,I1,r1,q1⟩=>?_
 obtain⟨a,e,⟨xs,hq⟩,q⟩:=q1
 subst e
 cases r1
 obtain⟨its,rv,p,hz⟩:=I1.tuple hq
 refine wpAny_pyIter_tuple (show s1.heap.IsTuple a its.toArray from p) ?_
 refine⟨s1.heap.objs.size,[s1.heap.objs.size],_,_,H1,rfl,I1.kept (t':=s1.toks) fun b o e=>Heap.get?_push_of_some _ e,uQ a _,⟨_,Heap.get?_push_size _ rfl,rfl,rfl⟩,fun b hb=>?_,q⟩
 have e:b=s1.heap.objs.size:=by simpa using hb
 subst e
 exact I1.fpOk (Nat.le_refl _) (I1.hok.fresh (Nat.le_refl _))
theorem yQ{pins:List (Addr×Obj)}{σ:St}{H:Hp}{s:Shared}{R:It->Hp->Prop}{E:Value->Shared->Prop}{lo hi:Int}{t u v:Tok}{tk:Nat}(I:Inv X pins σ H s)(h1: -(2 ^ 62)<=lo)(h2:lo<2 ^ 62)(h3: -(2 ^ 62)<=hi)(h4:hi<2 ^ 62)
  (q:R (Itr lo (hi - lo).toNat) H):wpAny (model X.prog X.w) X.A (pyIter (.ref s.heap.objs.size)) (PIE X pins σ tg R) E {s with heap:=s.heap.push {cls:= .type "range",data:= .fields #[.int lo t,.int hi u,.int 1 v]},toks:=tk}:=by
 refine wpAny_pyIter_range (IsRange.new ..) (small_one h1 h2 h3 h4) ?_
 have I1:Inv X pins σ H {s with heap:=s.heap.push {cls:= .type "range",data:= .fields #[.int lo t,.int hi u,.int 1 v]},toks:=tk}:=I.kept fun b o e=>Heap.get?_push_of_some _ e
 refine⟨(s.heap.push {cls:= .type "range",data:= .fields #[.int lo t,.int hi u,.int 1 v]}).objs.size,[(s.heap.push {cls:= .type "range",data:= .fields #[.int lo t,.int hi u,.int 1 v]}).objs.size],_,_,H,rfl,
  I1.kept (t':=tk) fun b o e=>Heap.get?_push_of_some _ e,uP _ lo (hi - lo).toNat,?_,fun b hb=>?_,q⟩
 ·have e1:lo+((0:Nat):Int)*1=lo:=by simp
  have e2:(((hi - lo).toNat:Nat):Int) - ((0:Nat):Int)=Builtin.Range.rangeSize lo hi 1:=by rw[rangeSize_one];split<;>omega
  show IsRangeIter _ _ (lo+((0:Nat):Int)*1) ((((hi - lo).toNat:Nat):Int) - ((0:Nat):Int)) 1
  rw[e1,e2]
  exact Heap.get?_push_size _ rfl
 ·have e:b=(s.heap.push {cls:= .type "range",data:= .fields #[.int lo t,.int hi u,.int 1 v]}).objs.size:=by simpa using hb
  subst e
  exact I1.fpOk (Nat.le_refl _) (I1.hok.fresh (Nat.le_refl _))
def iRng1(ta:TA):TI:=fun σ H R=>ta σ H fun vs H1=>∃j:Int,vs=[.int j]/\ -(2 ^ 62)<=j/\j<2 ^ 62/\R (Itr 0 j.toNat) H1
theorem fA{a:Expr}{ta:TA}{p pos:Pos}(hg:Gl X "range")(hm:X.mg "range"=none)(ha:PA X [a] ta)(hs:starEach [a] X.env=[(false,eval a X.env)]:=by rfl):PI X tg (.Call (.Name "range" p) [a] [] pos) (iRng1 ta):=by
 intro pins s σ H R I h
 refine Call_ (kM I hg hm boot_range (PyProof.Rows.callWith_type1 (thn (ha pos pins s σ H _ I h) fun us s1 ⟨vs,H1,I1,r1,q1⟩=>?_) hs rfl))
 obtain⟨j,e,q1,q2,q⟩:=q1
 subst e
 cases r1 with
 |cons r rr=>
  cases rr
  obtain⟨t,rfl⟩:=r
  exact call_range_1 (yQ I1 (by omega) (by omega) q1 q2 (by simpa using q))
def Df(wi:TI)(g:TG)(tb:TS):TS:=fun D σ H=>wi σ H fun J H1=>∃W:Nat->Nat->St->Hp->Prop,(∃m,W 0 m σ H1)/\∀i m σ H,W i m σ H->
 (J.stop i H/\D.nx σ H)∨(J.go i H/\∃N:St->Hp->Prop,(∀σ' H',N σ' H'->∃m',m'<m/\W (i+1) m' σ' H')/\∀x H',J.yld i H x H'->g x σ H' fun σ2 H2=>tb {D with nx:=N,ct:=N,bk:=D.nx} σ2 H2)
def nM(fp:List Addr)(h:Heap):List (Addr×Obj):=fp.filterMap fun b=>(h.get? b).map fun o=>(b,o)
theorem gS{fp:List Addr}{h:Heap}{b:Addr}{o:Obj}(hb:b∈fp)(e:h.get? b=some o):(b,o)∈nM fp h:=List.mem_filterMap.mpr ⟨b,hb,by rw[e];rfl⟩
theorem wv{fp:List Addr}{h:Heap}{p:Addr×Obj}(hp:p∈nM fp h):p.1∈fp/\h.get? p.1=some p.2:=by
 obtain⟨b,hb,e⟩:=List.mem_filterMap.mp hp
 cases q:h.get? b with
 |none=>rw[q] at e;cases e
 |some o=>
  rw[q] at e
  have e':(b,o)=p:=Option.some.inj e
  subst e'
  exact⟨hb,q⟩
theorem Inv.pinned{pins:List (Addr×Obj)}{σ:St}{H:Hp}{s:Shared}{fp:List Addr}(I:Inv X pins σ H s)(hf:∀b∈fp,FpOk X pins H b)(ho:∀b∈fp,∃o,s.heap.get? b=some o/\∀v,o.data≠ .cell v):Inv X (pins++nM fp s.heap) σ H s:=
 I.pins_of fun p hp=>(List.mem_append.mp hp).elim (fun z=>I.pin p (List.mem_append_right _ z)) fun z=>by
  obtain⟨hb,e⟩:=wv z
  obtain⟨f0,f1,f2,_⟩:=hf p.1 hb
  obtain⟨o,e',d⟩:=ho p.1 hb
  rw[e] at e';cases e'
  exact⟨e,f0,f1,f2,d⟩
theorem Inv.unpinned{pins pl:List (Addr×Obj)}{σ:St}{H:Hp}{s:Shared}(I:Inv X (pins++pl) σ H s):Inv X pins σ H s:=I.pins_of fun p hp=>I.pin p (List.mem_append_right _ (List.mem_append_left _ hp))
theorem BU{iter:Expr}{body:List Stmt}{wi:TI}{g:TG}{tb:TS}{pos:Pos}(hp:PassesOwn (model X.prog X.w) X.A X.env X.xe)(hc:X.calm=true)(hi:PI X tg iter wi)(hg:PG X tg g)(hb:PSs X body tb)
  (hs:∀x,foldedSetIterable iter X.env x=pure x:=by intro _;rfl):PS X (.For tg iter body [] pos) (Df wi g tb):=by
 intro pins s σ H D I h
 refine wpAny_For (thn (hi pins s σ H _ I h) fun v s1 h1=>thn h1 fun itv s2 h2=>?_) hs
 obtain⟨it,fp,tn,J,H2,e,I2,T,st2,f2,W,⟨m0,w0⟩,turn⟩:=h2
 subst e
 have stat:∀{H':Hp},(∀b∈fp,H' b=none)->∀b∈fp,FpOk X pins H' b:=fun hn b hb=>⟨hn b hb,(f2 b hb).2⟩
 refine codeAny_forLoop_any (fun n s'=>∃i σ' H',Inv X pins σ' H' s'/\tn i s'.heap/\(∀b∈fp,H' b=none)/\W i n σ' H') ?_ m0 ⟨0,σ,H2,I2,st2,fun b hb=>(f2 b hb).1,w0⟩
 rintro n s3 ⟨i,σ3,H3,I3,st3,fr3,w3⟩
 rcases turn i n σ3 H3 w3 with ⟨stop,qn⟩ |⟨go,N,hN,step⟩
 ·refine wpAny_passesOwn hp (thn (T.done X rfl rfl rfl hc i pins s3 σ3 H3 X.xe I3 (stat fr3) st3 stop) fun r s4 ⟨hr,I4⟩=>?_)
  subst hr
  exact wpAny_execs_nil ⟨σ3,H3,I4,qn⟩
 ·refine wpAny_passesOwn hp (thn (T.item X rfl rfl rfl hc i pins s3 σ3 H3 X.xe I3 (stat fr3) st3 go) fun r s4 ⟨u,hr,h4⟩=>?_)
  subst hr
  refine wpAny_passesOwn hp (thn h4 fun _ s5 ⟨x,H5,I5,r5,y5,st5,fr5⟩=>?_)
  have I5':=I5.pinned (stat fr5) (T.obj _ _ st5)
  refine wpAny_passesOwn hp (thn (hg _ s5 σ3 H5 x u _ I5' r5 (step x H5 y5)) fun _ s6 ⟨σ6,H6,I6,q6⟩=>?_)
  refine wpAny_passesOwn hp (thn (hb _ s6 σ6 H6 _ I6 q6) fun f s7 q7=>?_)
  have again:∀{σ7:St} {H7:Hp},Inv X (pins++nM fp s5.heap) σ7 H7 s7->N σ7 H7->∃m,m<n/\∃i σ' H',Inv X pins σ' H' s7/\tn i s7.heap/\(∀b∈fp,H' b=none)/\W i m σ' H':=fun {σ7 H7} I7 n7=>by
   obtain⟨m',hm,w7⟩:=hN σ7 H7 n7
   refine⟨m',hm,i+1,σ7,H7,I7.unpinned,T.keep _ _ _ st5 fun b hb o e=>(I7.pin (b,o) (List.mem_append_right _ (List.mem_append_right _ (gS hb e)))).1,fun b hb=>?_,w7⟩
   obtain⟨o,e,d⟩:=T.obj _ _ st5 b hb
   exact(I7.pin (b,o) (List.mem_append_right _ (List.mem_append_right _ (gS hb e)))).2.1
  cases f with
  |next=>obtain⟨σ7,H7,I7,n7⟩:=q7;exact again I7 n7
  |cont=>obtain⟨σ7,H7,I7,n7⟩:=q7;exact again I7 n7
  |brk=>obtain⟨σ7,H7,I7,q7⟩:=q7;exact⟨σ7,H7,I7.unpinned,q7⟩
  |ret v=>obtain⟨x7,σ7,H7,I7,r7,q7⟩:=q7;exact⟨x7,σ7,H7,I7.unpinned,r7,q7⟩
end
end L2
namespace L2
open PySem PySem.Spec PyProof.Rows
abbrev R2:=V->V->Hp->VK->Prop
def OpR(X:Cx)(f:Value->Value->Sem Value)(r:R2):Prop:=
 ∀(pins:List (Addr×Obj)) (s:Shared) (σ:St) (H:Hp) (x y:V) (v u:Value) (Q:VK),Inv X pins σ H s->RelV x v->RelV y u->r x y H Q->
  wpAny (model X.prog X.w) X.A (f v u) (EP X pins σ Q) X.xe s
def UnR(X:Cx)(f:Value->Sem Value)(r:V->Hp->VK->Prop):Prop:=
 ∀(pins:List (Addr×Obj)) (s:Shared) (σ:St) (H:Hp) (x:V) (v:Value) (Q:VK),Inv X pins σ H s->RelV x v->r x H Q->
  wpAny (model X.prog X.w) X.A (f v) (EP X pins σ Q) X.xe s
def ic(X:Cx)(f:Value)(r:List V->Hp->VK->Prop):Prop:=
 ∀(pins:List (Addr×Obj)) (s:Shared) (σ:St) (H:Hp) (xs:List V) (us:List Value) (Q:VK),Inv X pins σ H s->Vals xs us->r xs H Q->
  wpAny (model X.prog X.w) X.A (call f us) (EP X pins σ Q) X.xe s
def tOp(r:R2)(ta tb:TE):TE:=fun σ H Q=>ta σ H fun x H1=>tb σ H1 fun y H2=>r x y H2 Q
def tUn(r:V->Hp->VK->Prop)(ta:TE):TE:=fun σ H Q=>ta σ H fun x H1=>r x H1 Q
def rI(C:Int->Int->Prop)(g:Int->Int->V):R2:=fun x y H Q=>∃i j,x= .int i/\y= .int j/\C i j/\Q (g i j) H
def rI0(g:Int->Int->V):R2:=fun x y H Q=>∃i j,x= .int i/\y= .int j/\Q (g i j) H
def rU(g:Int->V):V->Hp->VK->Prop:=fun x H Q=>∃i,x= .int i/\Q (g i) H
section
variable {X : Cx} {a b c : Expr} {ta tb tc : TE} {pos : Pos}
theorem Bn(ha:PE X a ta)(hb:PE X b tb){pins:List (Addr×Obj)}{s:Shared}{σ:St}{H:Hp}{R:V->V->Hp->Prop}(I:Inv X pins σ H s)
  (h:ta σ H fun x H1=>tb σ H1 fun y H2=>R x y H2){Q:Value->Shared->Prop}{f:Value->Value->Sem Value}
  (hf:∀v u s2 x y H2,Inv X pins σ H2 s2->RelV x v->RelV y u->R x y H2->wpAny (model X.prog X.w) X.A (f v u) Q X.xe s2):
  wpAny (model X.prog X.w) X.A (eval a X.env) (fun v s₁=>wpAny (model X.prog X.w) X.A (eval b X.env) (fun u s₂=>wpAny (model X.prog X.w) X.A (f v u) Q X.xe s₂) X.xe s₁) X.xe s:=by
 refine thn (ha pins s σ H _ I h) fun v s1 ⟨x,H1,I1,r1,q1⟩=>?_
 refine thn (hb pins s1 σ H1 _ I1 q1) fun u s2 ⟨y,H2,I2,r2,q2⟩=>?_
 exact hf v u s2 x y H2 I2 r1 r2 q2
theorem aw{op:Operator}{r:R2}(ho:OpR X (binaryOp op) r)(ha:PE X a ta)(hb:PE X b tb):PE X (.BinOp a op b pos) (tOp r ta tb):=by
 intro pins s σ H Q I h
 exact wpAny_BinOp (Bn ha hb I h fun v u s2 x y H2 I2 rx ry q=>ho pins s2 σ H2 x y v u Q I2 rx ry q)
theorem sR{op:UnaryOp}{r:V->Hp->VK->Prop}(ho:UnR X (unaryOp op) r)(ha:PE X a ta):PE X (.UnaryOp op a pos) (tUn r ta):=by
 intro pins s σ H Q I h
 exact UnaryOp_ (thn (ha pins s σ H _ I h) fun v s1 ⟨x,H1,I1,r1,q1⟩=>ho pins s1 σ H1 x v Q I1 r1 q1)
theorem opI{f:Value->Value->Sem Value}{C:Int->Int->Prop}{g:Int->Int->Int}
  (rule:∀(i j:Int) (t u:Tok) (s:Shared) (Q:Value->Shared->Prop) (E:Value->Shared->Prop),C i j->Q (.int (g i j) s.toks) {s with toks:=s.toks+1}->wpAny (model X.prog X.w) X.A (f (.int i t) (.int j u)) Q E s):
  OpR X f (rI C fun i j=> .int (g i j)):=by
 intro pins s σ H x y v u Q I rx ry h
 obtain⟨i,j,rfl,rfl,hc,q⟩:=h
 obtain⟨t,rfl⟩:=rx
 obtain⟨t',rfl⟩:=ry
 exact rule i j t t' s _ _ hc ⟨.int (g i j),H,I.tok _,⟨_,rfl⟩,q⟩
theorem CK{f:Value->Value->Sem Value}{g:Int->Int->Int}
  (rule:∀(i j:Int) (t u:Tok) (s:Shared) (Q:Value->Shared->Prop) (E:Value->Shared->Prop),Q (.int (g i j) s.toks) {s with toks:=s.toks+1}->wpAny (model X.prog X.w) X.A (f (.int i t) (.int j u)) Q E s):
  OpR X f (rI0 fun i j=> .int (g i j)):=by
 intro pins s σ H x y v u Q I rx ry h
 obtain⟨i,j,rfl,rfl,q⟩:=h
 obtain⟨t,rfl⟩:=rx
 obtain⟨t',rfl⟩:=ry
 exact rule i j t t' s _ _ ⟨.int (g i j),H,I.tok _,⟨_,rfl⟩,q⟩
theorem Ay{f:Value->Value->Sem Value}{g:Int->Int->Bool}
  (rule:∀(i j:Int) (t u:Tok) (s:Shared) (Q:Value->Shared->Prop) (E:Value->Shared->Prop),Q (.bool (g i j)) s->wpAny (model X.prog X.w) X.A (f (.int i t) (.int j u)) Q E s):
  OpR X f (rI0 fun i j=> .bl (g i j)):=by
 intro pins s σ H x y v u Q I rx ry h
 obtain⟨i,j,rfl,rfl,q⟩:=h
 obtain⟨t,rfl⟩:=rx
 obtain⟨t',rfl⟩:=ry
 exact rule i j t t' s _ _ ⟨.bl (g i j),H,I,rfl,q⟩
def Bi(i j:Int):Prop:=0<j/\j<1073741824
def mi(i j:Int):Prop:=(-(2 ^ 64)<i/\i<2 ^ 64)∨(-(2 ^ 64)<j/\j<2 ^ 64)
theorem mi.ok{i j:Int}(h:mi i j):IntMulOk i j:=by
 rcases h with ⟨h1,h2⟩ |⟨h1,h2⟩
 ·exact .of_left (intBits_le_64 h1 h2)
 ·exact .of_right (intBits_le_64 h1 h2)
theorem two_pow_nn(k:Nat):(0:Int)<=2 ^ k:=by
 rw[two_pow_cast]
 exact Int.natCast_nonneg _
theorem bM:OpR X (binaryOp .Add) (rI0 fun i j=> .int (i+j)):=CK fun _ _ _ _ _ _ _ q=>add_int q
theorem gt:OpR X (binaryOp .Sub) (rI0 fun i j=> .int (i - j)):=CK fun _ _ _ _ _ _ _ q=>sub_int q
theorem bw:OpR X (binaryOp .Mult) (rI mi fun i j=> .int (i*j)):=opI fun _ _ _ _ _ _ _ hc q=>mul_int q hc.ok
theorem jT:OpR X (binaryOp .FloorDiv) (rI Bi fun i j=> .int (i / j)):=opI fun i j _ _ _ _ _ hc q=>by
 have h1:(0:Int)<j:=hc.1
 have h2:j<1073741824:=hc.2
 exact floordiv_int (by omega) (by rw[Int.fdiv_eq_ediv_of_nonneg i (by omega)];exact q) (.inl (PyProof.noPylong_small (by omega)))
theorem aN:OpR X (binaryOp .Mod) (rI (fun _ j=>0<j) fun i j=> .int (i % j)):=opI fun i j _ _ _ _ _ hc q=>by
 have h1:(0:Int)<j:=hc
 exact mod_int' (by omega) (by rw[Int.fmod_eq_emod_of_nonneg i (by omega)];exact q)
theorem unI{f:Value->Sem Value}{g:Int->Int}
  (rule:∀(i:Int) (t:Tok) (s:Shared) (Q:Value->Shared->Prop) (E:Value->Shared->Prop),Q (.int (g i) s.toks) {s with toks:=s.toks+1}->wpAny (model X.prog X.w) X.A (f (.int i t)) Q E s):
  UnR X f (rU fun i=> .int (g i)):=by
 intro pins s σ H x v Q I rx h
 obtain⟨i,rfl,q⟩:=h
 obtain⟨t,rfl⟩:=rx
 exact rule i t s _ _ ⟨.int (g i),H,I.tok _,⟨_,rfl⟩,q⟩
theorem oF:UnR X (unaryOp .USub) (rU fun i=> .int (-i)):=unI fun _ _ _ _ _ q=>neg_int q
end
def scal:V->V->Bool
 | .non,.non=>true | .non,.int _=>true | .int _,.non=>true | .non,.bl _=>true | .bl _,.non=>true | .non,.str _=>true | .str _,.non=>true
 | .int _,.int _=>true | .bl _,.bl _=>true | .str _,.str _=>true | .byt _,.byt _=>true
 | .int _,.str _=>true | .str _,.int _=>true | .bl _,.str _=>true | .str _,.bl _=>true
 |_,_=>false
def rEq:R2:=fun x y H Q=>scal x y=true/\Q (.bl (decide (x=y))) H
def rNe:R2:=fun x y H Q=>scal x y=true/\Q (.bl (!decide (x=y))) H
theorem uY{i j:Int}:decide (V.int i=V.int j)=(i==j):=by
 rw[Bool.eq_iff_iff]
 simp
theorem xh{i j:Bool}:decide (V.bl i=V.bl j)=(i==j):=by
 rw[Bool.eq_iff_iff]
 simp
theorem uZ{i j:Str}:decide (V.str i=V.str j)=(i==j):=by
 rw[Bool.eq_iff_iff]
 simp
theorem uX{i j:Array UInt8}:decide (V.byt i=V.byt j)=(i.toList==j.toList):=by
 rw[Bool.eq_iff_iff]
 cases i
 cases j
 simp
section
variable {X : Cx} {a b c : Expr} {ta tb tc : TE} {pos : Pos}
theorem bo{pins:List (Addr×Obj)}{σ:St}{H:Hp}{s:Shared}{Q:VK}{k k':Bool}(I:Inv X pins σ H s)(q:Q (.bl k) H)(e:k=k'):EP X pins σ Q (.bool k') s:=by
 subst e
 exact⟨.bl k,H,I,rfl,q⟩
theorem bA:OpR X (compareOp .Eq) rEq:=by
 intro pins s σ H x y v u Q I rx ry h
 obtain⟨hs,q⟩:=h
 cases x with
 |non=>
  cases rx
  cases y with
  |non=>cases ry;exact PySem.EqNone.eq_none_none (bo I q (by simp))
  |bl j=>cases ry;exact PySem.EqNone.eq_none_bool (bo I q (by simp))
  |int j=>obtain⟨t',rfl⟩:=ry;exact PySem.EqNone.eq_none_int (bo I q (by simp))
  |str j=>obtain⟨t',rfl⟩:=ry;exact PySem.EqNone.eq_none_str (bo I q (by simp))
  |_=>exact absurd (show false=true from hs) Bool.false_ne_true
 |bl i=>
  cases rx
  cases y with
  |non=>cases ry;exact PySem.EqNone.eq_bool_none (bo I q (by simp))
  |bl j=>cases ry;exact eq_bool (bo I q xh)
  |str j=>obtain⟨t',rfl⟩:=ry;exact PySem.EqMixed.eq_bool_str (bo I q (by simp))
  |_=>exact absurd (show false=true from hs) Bool.false_ne_true
 |int i=>
  obtain⟨t,rfl⟩:=rx
  cases y with
  |non=>cases ry;exact PySem.EqNone.eq_int_none (bo I q (by simp))
  |int j=>obtain⟨t',rfl⟩:=ry;exact eq_int (bo I q uY)
  |str j=>obtain⟨t',rfl⟩:=ry;exact PySem.EqMixed.eq_int_str (bo I q (by simp))
  |_=>exact absurd (show false=true from hs) Bool.false_ne_true
 |str i=>
  obtain⟨t,rfl⟩:=rx
  cases y with
  |non=>cases ry;exact PySem.EqNone.eq_str_none (bo I q (by simp))
  |bl j=>cases ry;exact PySem.EqMixed.eq_str_bool (bo I q (by simp))
  |int j=>obtain⟨t',rfl⟩:=ry;exact PySem.EqMixed.eq_str_int (bo I q (by simp))
  |str j=>obtain⟨t',rfl⟩:=ry;exact eq_str (bo I q uZ)
  |_=>exact absurd (show false=true from hs) Bool.false_ne_true
 |byt i=>
  obtain⟨t,rfl⟩:=rx
  cases y with
  |byt j=>obtain⟨t',rfl⟩:=ry;exact PySem.W.eq_bytes (bo I q uX)
  |_=>exact absurd (show false=true from hs) Bool.false_ne_true
 |_=>cases y<;>exact absurd (show false=true from hs) Bool.false_ne_true
theorem pM:OpR X (compareOp .NotEq) rNe:=by
 intro pins s σ H x y v u Q I rx ry h
 obtain⟨hs,q⟩:=h
 cases x with
 |non=>
  cases rx
  cases y with
  |non=>cases ry;exact PySem.EqNone.ne_none_none (bo I q (by simp))
  |bl j=>cases ry;exact PySem.EqNone.ne_none_bool (bo I q (by simp))
  |int j=>obtain⟨t',rfl⟩:=ry;exact PySem.EqNone.ne_none_int (bo I q (by simp))
  |str j=>obtain⟨t',rfl⟩:=ry;exact PySem.EqNone.ne_none_str (bo I q (by simp))
  |_=>exact absurd (show false=true from hs) Bool.false_ne_true
 |bl i=>
  cases rx
  cases y with
  |non=>cases ry;exact PySem.EqNone.ne_bool_none (bo I q (by simp))
  |bl j=>cases ry;exact ne_bool (bo I q (congrArg not xh))
  |str j=>obtain⟨t',rfl⟩:=ry;exact PySem.EqMixed.ne_bool_str (bo I q (by simp))
  |_=>exact absurd (show false=true from hs) Bool.false_ne_true
 |int i=>
  obtain⟨t,rfl⟩:=rx
  cases y with
  |non=>cases ry;exact PySem.EqNone.ne_int_none (bo I q (by simp))
  |int j=>obtain⟨t',rfl⟩:=ry;exact ne_int (bo I q (congrArg not uY))
  |str j=>obtain⟨t',rfl⟩:=ry;exact PySem.EqMixed.ne_int_str (bo I q (by simp))
  |_=>exact absurd (show false=true from hs) Bool.false_ne_true
 |str i=>
  obtain⟨t,rfl⟩:=rx
  cases y with
  |non=>cases ry;exact PySem.EqNone.ne_str_none (bo I q (by simp))
  |bl j=>cases ry;exact PySem.EqMixed.ne_str_bool (bo I q (by simp))
  |int j=>obtain⟨t',rfl⟩:=ry;exact PySem.EqMixed.ne_str_int (bo I q (by simp))
  |str j=>obtain⟨t',rfl⟩:=ry;exact ne_str (bo I q (congrArg not uZ))
  |_=>exact absurd (show false=true from hs) Bool.false_ne_true
 |byt i=>
  obtain⟨t,rfl⟩:=rx
  cases y with
  |byt j=>obtain⟨t',rfl⟩:=ry;exact PySem.W.ne_bytes (bo I q (congrArg not uX))
  |_=>exact absurd (show false=true from hs) Bool.false_ne_true
 |_=>cases y<;>exact absurd (show false=true from hs) Bool.false_ne_true
theorem lE:OpR X (compareOp .Lt) (rI0 fun i j=> .bl (decide (i<j))):=Ay fun _ _ _ _ _ _ _ q=>lt_int q
theorem pL:OpR X (compareOp .LtE) (rI0 fun i j=> .bl (decide (i<=j))):=Ay fun _ _ _ _ _ _ _ q=>le_int q
theorem CL:OpR X (compareOp .Gt) (rI0 fun i j=> .bl (decide (j<i))):=Ay fun _ _ _ _ _ _ _ q=>gt_int q
theorem Bb:OpR X (compareOp .GtE) (rI0 fun i j=> .bl (decide (j<=i))):=Ay fun _ _ _ _ _ _ _ q=>ge_int q
def isObj:HO->Bool
 | .lst _=>true
 | .ins _ _ _=>true
 |_=>false
theorem aE(b:Expr){op:CmpOp}(h:op≠ .In:=by decide)(h2:op≠ .NotIn:=by decide):behindInMarks op b=false:=by
 have e1:(op==CmpOp.In)=false:=by cases op<;>first |rfl |exact absurd rfl h
 have e2:(op==CmpOp.NotIn)=false:=by cases op<;>first |rfl |exact absurd rfl h2
 cases b<;>simp[behindInMarks,e1,e2]
theorem dB{op:CmpOp}{r:R2}(ho:OpR X (compareOp op) r)(ha:PE X a ta)(hb:PE X b tb)(hm:behindInMarks op b=false):PE X (.Compare a [op] [b] pos) (tOp r ta tb):=by
 intro pins s σ H Q I h
 exact wpAny_Compare1 (Bn ha hb I h fun v u s2 x y H2 I2 rx ry q=>ho pins s2 σ H2 x y v u Q I2 rx ry q) hm
def tTest(t:TE):TT:=fun σ H Q=>t σ H fun x H'=>∃k,x= .bl k/\Q k H'
theorem aB{op:CmpOp}{r:R2}(ho:OpR X (compareOp op) r)(ha:PE X a ta)(hb:PE X b tb)(hm:behindInMarks op b=false):PT X (.Compare a [op] [b] pos) (tTest (tOp r ta tb)):=by
 intro pins s σ H Q I h
 refine wpAny_isTrue_Compare1 (thn (ha pins s σ H _ I h) fun v s1 ⟨x,H1,I1,r1,q1⟩=>thn (hb pins s1 σ H1 _ I1 q1) fun u s2 ⟨y,H2,I2,r2,q2⟩=>
  thn (ho pins s2 σ H2 x y v u _ I2 r1 r2 q2) fun c s3 ⟨z,H3,I3,r3,k,e,q3⟩=>?_) hm
 subst e
 cases r3
 exact wpAny_truthy_bool ⟨H3,I3,q3⟩
def tChain(r r':R2)(ta tb tc:TE):TE:=fun σ H Q=>ta σ H fun x H1=>tb σ H1 fun y H2=>r x y H2 fun z H3=>∃k,z= .bl k/\
 (if k=true then tc σ H3 fun w' H4=>r' y w' H4 Q else Q (.bl false) H3)
theorem yE{op op':CmpOp}{r r':R2}(ho:OpR X (compareOp op) r)(ho':OpR X (compareOp op') r')(ha:PE X a ta)(hb:PE X b tb)(hc:PE X c tc)
  (hm:lastMarks [op,op'] [b,c]=false:=by with_unfolding_all rfl):PE X (.Compare a [op,op'] [b,c] pos) (tChain r r' ta tb tc):=by
 intro pins s σ H Q I h
 refine Compare_chain (thn (ha pins s σ H _ I h) fun v s1 ⟨x,H1,I1,r1,q1⟩=>chain_link (thn (hb pins s1 σ H1 _ I1 q1) fun u s2 ⟨y,H2,I2,r2,q2⟩=>
  thn (ho pins s2 σ H2 x y v u _ I2 r1 r2 q2) fun d s3 ⟨z,H3,I3,r3,k,e,q3⟩=>?_)) hm
 subst e
 cases r3
 refine wpAny_truthy_bool ?_
 cases k with
 |false=>exact ite_ff ⟨.bl false,H3,I3,rfl,q3⟩
 |true=>exact ite_tt (chain_last (thn (hc pins s3 σ H3 _ I3 q3) fun w' s4 ⟨z',H4,I4,r4,q4⟩=>ho' pins s4 σ H4 y z' u w' Q I4 r2 r4 q4))
theorem yO{op op':CmpOp}{r r':R2}(ho:OpR X (compareOp op) r)(ho':OpR X (compareOp op') r')(ha:PE X a ta)(hb:PE X b tb)(hc:PE X c tc)
  (hm:lastMarks [op,op'] [b,c]=false:=by with_unfolding_all rfl):PT X (.Compare a [op,op'] [b,c] pos) (tTest (tChain r r' ta tb tc)):=by
 intro pins s σ H Q I h
 refine isTrue_chain (thn (ha pins s σ H _ I h) fun v s1 ⟨x,H1,I1,r1,q1⟩=>test_link (thn (hb pins s1 σ H1 _ I1 q1) fun u s2 ⟨y,H2,I2,r2,q2⟩=>
  thn (ho pins s2 σ H2 x y v u _ I2 r1 r2 q2) fun d s3 ⟨z,H3,I3,r3,k,e,q3⟩=>?_)) hm
 subst e
 cases r3
 refine wpAny_truthy_bool ?_
 cases k with
 |false=>
  obtain⟨k',e',q'⟩:=q3
  cases e'
  exact ite_ff ⟨H3,I3,q'⟩
 |true=>
  refine ite_tt (test_last (thn (hc pins s3 σ H3 _ I3 q3) fun w' s4 ⟨z',H4,I4,r4,q4⟩=>thn (ho' pins s4 σ H4 y z' u w' _ I4 r2 r4 q4) fun d' s5 ⟨z2,H5,I5,r5,k2,e2,q5⟩=>?_))
  subst e2
  cases r5
  exact wpAny_truthy_bool ⟨H5,I5,q5⟩
theorem mV:(sizeLine:Nat)<2 ^ 63:=by rw[sizeLine_eq];decide
theorem nF:OpR X (binaryOp .Add) (fun x y H Q=>∃i j,x= .str i/\y= .str j/\i.length+j.length<=sizeLine/\Q (.str (i++j)) H):=by
 intro pins s σ H x y v u Q I rx ry h
 obtain⟨i,j,rfl,rfl,hz,q⟩:=h
 obtain⟨t,rfl⟩:=rx
 obtain⟨t',rfl⟩:=ry
 exact add_str (fun t' tk=>⟨.str (i++j),H,I.tok _,⟨_,rfl⟩,q⟩) hz
theorem vals1{x:V}{us:List Value}(r:Vals [x] us):∃u,us=[u]/\RelV x u:=by
 cases r with
 |cons r1 r2=>cases r2;exact⟨_,rfl,r1⟩
theorem vals2{x y:V}{us:List Value}(r:Vals [x,y] us):∃u w',us=[u,w']/\RelV x u/\RelV y w':=by
 cases r with
 |cons r1 r2=>
  cases r2 with
  |cons r3 r4=>cases r4;exact⟨_,_,rfl,r1,r3⟩
theorem xf:ic X (.builtin "abs") (fun xs H Q=>∃i,xs=[.int i]/\Q (.int (if i<0 then -i else i)) H):=by
 intro pins s σ H xs us Q I r h
 obtain⟨i,rfl,q⟩:=h
 obtain⟨u,rfl,t,rfl⟩:=vals1 r
 exact call_abs_int fun u tk=>⟨.int (if i<0 then -i else i),H,I.tok _,⟨_,rfl⟩,q⟩
end
end L2
namespace L2
open PySem PySem.Spec PyProof.Rows
structure ObjM (h:Heap) (x dx C:Addr) (mA:Str->Option Value):Prop where
 obj:h.get? x=some (PySem.W.instObj C dx)
 ns:h.Ns1 dx mA
 ne:dx≠x
theorem wu{h:Heap}{dx:Addr}{mA:Str->Option Value}(n:h.Ns1 dx mA):∃od,h.get? dx=some od/\∀name,PySem.W.lookIn name od=some (mA name):=by
 obtain⟨o,es,ep,ho,hd,hk,_,hm⟩:=n
 refine⟨o,ho,fun name=>?_⟩
 have e:=hm name
 unfold nsFind findBy at e
 rw[<-Array.find?_toList] at e
 unfold PySem.W.lookIn
 rw[hd]
 dsimp only
 split
 ·rename_i y q
  rw[q] at e
  exact congrArg some e
 ·rename_i q
  rw[q] at e
  have a:es.toList.any (·.refKey)=false:=by
   rw[List.any_eq_false]
   intro y hy
   obtain⟨z,t,hkey⟩:=hk y (Array.mem_toList_iff.mp hy)
   simp[DictEntry.refKey,hkey]
  have a':¬es.toList.any (·.refKey)=true:=by rw[a];exact Bool.false_ne_true
  rw[if_neg a']
  exact congrArg some e
theorem ObjM.look{h:Heap}{x dx C:Addr}{mA:Str->Option Value}(I:ObjM h x dx C mA):∃od,PySem.W.InstAt h x (PySem.W.instObj C dx) C (some od)/\∀name,PySem.W.lookIn name od=some (mA name):=
 let ⟨od,ho,hl⟩:=wu I.ns
 ⟨od,⟨I.obj,rfl,rfl,ho⟩,hl⟩
section
variable {prog : Program} {w : World} {A : Around} {E : Value → Shared → Prop} {s : Shared} {K : PySem.W.Frag} {x dx C f : Addr} {mA : Str → Option Value} {name : Str} {v : Value}
theorem get_map{expr:Bool}{Q:Value->Shared->Prop}(X:K.In s.heap)(I:ObjM s.heap x dx C mA)(hg:PySem.W.plainGet K C name=true)(hh:PySem.W.hasDictIn K C=true)
  (ha:PySem.W.findIn K (.ref C) name=some none)(hv:mA name=some v)(hv':PySem.W.handedIn v=true)(h:Q v {s with toks:=s.toks+1}):
  wpAny (model prog w) A (getAttr (.ref x) name expr) Q E s:=by
 obtain⟨od,J,hl⟩:=I.look
 exact PySem.W.get_value X J (PySem.W.plainGet_of hg).1 (PySem.W.findObj_own hh ha rfl (by rw[hl,hv])) hv' h
theorem xy{pl:Sem Bool}{Q:Value×List Value->Shared->Prop}(X:K.In s.heap)(I:ObjM s.heap x dx C mA)(hg:PySem.W.plainGet K C name=true)
  (hf:PySem.W.findIn K (.ref C) name=some (some (.ref f)))(ht:PySem.W.isFn K (.ref f)=true)(hv:mA name=none)(h:Q (.ref f,[.ref x]) s):
  wpAny (model prog w) A (getMethod (.ref x) name pl) Q E s:=by
 obtain⟨od,J,hl⟩:=I.look
 exact PySem.W.method_fn X J (PySem.W.plainGet_of hg).1 (PySem.W.plainGet_of hg).2 hf (beq_iff_eq.mp ht) (by show(PySem.W.lookIn name od).map (·.isSome)=some false;rw[hl,hv];rfl) h
theorem AN{ns:List Str}{Q:Unit->Shared->Prop}(X:K.In s.heap)(I:ObjM s.heap x dx C mA)
  (hs:PySem.W.findIn K (.ref C) "__setattr__"=some (some (.builtin "object.__setattr__")))(hp:PySem.W.plainOver K C=true)(ht:PySem.W.takerIn K C name=some none)(hh:PySem.W.hasDictIn K C=true)
  (hw:PySem.Within mA ns)(hsz:ns.length<=sizeLine)
  (h:∀h',ObjM h' x dx C (fun y=>if y=name then some v else mA y)->Heap.SameBut dx s.heap h'->Q () {s with heap:=h',toks:=s.toks+2}):
  wpAny (model prog w) A (setAttr (.ref x) name v) Q E s:=by
 obtain⟨od,J,hl⟩:=I.look
 refine PySem.W.set_plain X J hs (PySem.W.osa_open (s:={s with toks:=s.toks+1}) (r:=none) X J hp ht fun b=>?_)
 obtain⟨cd,hc,hd'⟩:=PySem.W.any_some hh
 have hx:s.heap.get? x=some ⟨.ref C,some dx,.plain, #[]⟩:=I.obj
 refine wpAny_bind (wpAny_pure (wpAny_bind (wpAny_bind (wpAny_loadPart hx (wpAny_bind (PySem.W.Looks.here (s:={s with toks:=s.toks+1}) (PySem.W.looks_clsIn X hc) ?_))))))
 rw[hd']
 refine wpAny_pure (a:=some dx) (wpAny_bind (wpAny_pure (wpAny_bind ?_)))
 refine wpAny_nsSet1 (s:={s with toks:=s.toks+1}) I.ns fun h' hn2 hs2=>?_
 obtain⟨oD,esD,epD,hoD,hdD,hcD⟩:=hn2.count (PySem.Within.cons name v hw)
 refine wpAny_bind (wpAny_lookBehind hoD (by rw[hdD];exact pastItsLine_dict (Nat.le_trans hcD (by rw[List.length_cons];omega))) ?_)
 exact wpAny_pure (h _ ⟨(hs2.2 _ (Ne.symm I.ne)).trans I.obj,hn2,I.ne⟩ hs2)
theorem xU{R:Result->Shared->Prop}{vs:List Value}{kw:List (Str×Value)}(X:K.In s.heap)(hm:PySem.W.makesIn K C=true)
  (hi:PySem.W.findIn K (.ref C) "__init__"=some (some (.ref f)))(hf:PySem.W.typeIn K (.ref f)=some (.type "function"))
  (h:codeAny (model prog w) (A.under (.builtin "type.__call__" ⟨.ref C::vs,kw⟩)) (.call (.ref f) ⟨.ref (s.heap.objs.size+1)::vs,kw⟩) (PySem.W.InitBack (s.heap.objs.size+1) R)
   {s with heap:=(s.heap.push PySem.W.emptyDict).push (PySem.W.instObj C s.heap.objs.size)}):
  codeAny (model prog w) A (.call (.ref C) ⟨vs,kw⟩) R s:=by
 obtain⟨hh,g,d,t,os⟩:=s
 exact PySem.W.make_core (PySem.W.makes_of X hm) (PySem.W.looks_findIn X hi) (fun self=>PySem.W.bind_fn X self hf) (.inl rfl) h
end
def aK(f:Str)(v:V):List (Str×V)->List (Str×V)
 | []=>[(f,v)]
 |(g,x)::r=>if g=f then(g,v)::r else(g,x)::aK f v r
theorem lC(f g:Str)(v:V):∀fs:List (Str×V),(aK f v fs).lookup g=if g=f then some v else fs.lookup g
 | []=>by
  show List.lookup g [(f,v)]=_
  by_cases h:g=f
  ·have hb:(g==f)=true:=beq_iff_eq.mpr h
   simp only[List.lookup,hb,if_pos h]
  ·have hb:(g==f)=false:=beq_eq_false_iff_ne.mpr h
   simp only[List.lookup,hb,if_neg h]
 |(k,x)::r=>by
  have ih:=lC f g v r
  rw[show aK f v ((k,x)::r)=(if k=f then(k,v)::r else(k,x)::aK f v r) from rfl]
  by_cases hk:k=f
  ·rw[if_pos hk]
   by_cases h:g=k
   ·have hb:(g==k)=true:=beq_iff_eq.mpr h
    simp only[List.lookup,hb,if_pos (h.trans hk)]
   ·have hb:(g==k)=false:=beq_eq_false_iff_ne.mpr h
    simp only[List.lookup,hb,if_neg (fun e:g=f=>h (e.trans hk.symm))]
  ·rw[if_neg hk]
   by_cases h:g=k
   ·have hb:(g==k)=true:=beq_iff_eq.mpr h
    simp only[List.lookup,hb,if_neg (fun e:g=f=>hk (h.symm.trans e))]
   ·have hb:(g==k)=false:=beq_eq_false_iff_ne.mpr h
    simp only[List.lookup,hb]
    exact ih
theorem kF(f:Str)(v:V):∀fs:List (Str×V),f∈(aK f v fs).map (·.1)/\∀g,g∈fs.map (·.1)->g∈(aK f v fs).map (·.1)
 | []=>⟨by simp[aK],fun g h=>by simp at h⟩
 |(k,x)::r=>by
  obtain⟨i1,i2⟩:=kF f v r
  rw[show aK f v ((k,x)::r)=(if k=f then(k,v)::r else(k,x)::aK f v r) from rfl]
  by_cases hk:k=f
  ·rw[if_pos hk]
   subst hk
   exact⟨by simp,fun g h=>by simpa using h⟩
  ·rw[if_neg hk]
   refine⟨?_,fun g h=>?_⟩
   ·rw[List.map_cons]
    exact List.mem_cons_of_mem _ i1
   ·rw[List.map_cons] at h ⊢
    rcases List.mem_cons.mp h with e |e
    ·exact List.mem_cons.mpr (.inl e)
    ·exact List.mem_cons_of_mem _ (i2 g e)
theorem lB(f:Str)(v:V):∀fs:List (Str×V),(aK f v fs).length<=fs.length+1
 | []=>by simp[aK]
 |(k,x)::r=>by
  have ih:=lB f v r
  rw[show aK f v ((k,x)::r)=(if k=f then(k,v)::r else(k,x)::aK f v r) from rfl]
  by_cases hk:k=f
  ·rw[if_pos hk,List.length_cons,List.length_cons];omega
  ·rw[if_neg hk,List.length_cons,List.length_cons];omega
theorem gz.some_of{v:V}{o:Option Value}(r:gz (some v) o):∃u,o=some u/\RelV v u:=by
 cases o with
 |none=>exact(show False from r).elim
 |some u=>exact⟨u,rfl,r⟩
theorem gz.none_of{o:Option Value}(r:gz none o):o=none:=by
 cases o with
 |none=>rfl
 |some u=>exact(show False from r).elim
theorem wf{v:V}{u:Value}(r:RelV v u):PySem.W.handedIn u=true:=by
 cases v with
 |non=>cases (show u=Value.none from r);rfl
 |bl b=>cases (show u=Value.bool b from r);rfl
 |int i=>obtain⟨t,e⟩:=(show ∃t,u=Value.int i t from r);cases e;rfl
 |str x=>obtain⟨t,e⟩:=(show ∃t,u=Value.str x t from r);cases e;rfl
 |byt b=>obtain⟨t,e⟩:=(show ∃t,u=Value.bytes b t from r);cases e;rfl
 |flt b=>obtain⟨t,e⟩:=(show ∃t,u=Value.float b t from r);cases e;rfl
 |ref a=>cases (show u=Value.ref a from r);rfl
 |ty n=>cases (show u=Value.type n from r);rfl
section
variable {P : Program} {w : World} {H H' : Hp} {h h' : Heap} {a C dx : Addr} {fs fs' : List (Str × V)}
theorem lV(hok:HOk P w H h)(e:H a=some (.ins C dx fs)):∃mA,ObjM h a dx C mA/\(∀f,gz (fs.lookup f) (mA f))/\PySem.Within mA (fs.map (·.1))/\fs.length<=1000/\H dx=some (.own a):=by
 obtain⟨d,z,ne,ob,mA,n,r,q⟩:=(show ba P w H h a (.ins C dx fs) from hok a _ e)
 exact⟨mA,⟨ob,n,ne⟩,r,q,z,d⟩
end
structure Cls (K:PySem.W.Frag) (C:Addr):Prop where
 pg:PySem.W.plainGet K C Str.empty=true
 hd:PySem.W.hasDictIn K C=true
 po:PySem.W.plainOver K C=true
 sa:PySem.W.findIn K (.ref C) "__setattr__"=some (some (.builtin "object.__setattr__"))
theorem Cls.get{K:PySem.W.Frag}{C:Addr}(c:Cls K C)(f:Str):PySem.W.plainGet K C f=true:=c.pg
def NoAttr(K:PySem.W.Frag)(C:Addr)(f:Str):Prop:=PySem.W.findIn K (.ref C) f=some none
theorem NoAttr.taker{K:PySem.W.Frag}{C:Addr}{f:Str}(n:NoAttr K C f):PySem.W.takerIn K C f=some none:=by
 unfold PySem.W.takerIn
 rw[show PySem.W.findIn K (.ref C) f=some none from n]
 rfl
structure Meth (K:PySem.W.Frag) (C:Addr) (m:Str) (f:Addr):Prop where
 at_:PySem.W.findIn K (.ref C) m=some (some (.ref f))
 fn:PySem.W.isFn K (.ref f)=true
 kp:PySem.W.keepIn K (.ref f)=true
section
variable {X : Cx} {pins : List (Addr × Obj)} {σ : St} {H : Hp} {s : Shared} {a C dx : Addr} {fs : List (Str × V)} {f : Str} {v : V} {A : Around} {E : Value → Shared → Prop}
theorem tX{b:Bool}{Q:Value->Shared->Prop}(I:Inv X pins σ H s)(e:H a=some (.ins C dx fs))(c:Cls X.K C)(n:NoAttr X.K C f)(l:fs.lookup f=some v)
  (h:∀u s',Inv X pins σ H s'->RelV v u->Q u s'):wpAny (model X.prog X.w) A (getAttr (.ref a) f b) Q E s:=by
 obtain⟨mA,O,r,_,_,_⟩:=lV I.hok e
 obtain⟨u,hu,ru⟩:=gz.some_of (v:=v) (o:=mA f) (by rw[<-l];exact r f)
 exact get_map I.kIn O (c.get f) c.hd n hu (wf ru) (h u _ (I.tok _) ru)
theorem mF{m:Str}{g:Addr}{pl:Sem Bool}{Q:Value×List Value->Shared->Prop}(I:Inv X pins σ H s)(e:H a=some (.ins C dx fs))(c:Cls X.K C)(k:Meth X.K C m g)(l:fs.lookup m=none)
  (h:Q (.ref g,[.ref a]) s):wpAny (model X.prog X.w) A (getMethod (.ref a) m pl) Q E s:=by
 obtain⟨mA,O,r,_,_,_⟩:=lV I.hok e
 have hn:mA m=none:=gz.none_of (by rw[<-l];exact r m)
 exact xy I.kIn O (c.get m) k.at_ k.fn hn h
theorem uJ{y:V}{u:Value}{Q:Unit->Shared->Prop}(I:Inv X pins σ H s)(e:H a=some (.ins C dx fs))(c:Cls X.K C)(n:NoAttr X.K C f)(hl:fs.length<1000)(ry:RelV y u)
  (h:∀s',Inv X pins σ (upd H a (.ins C dx (aK f y fs))) s'->Q () s'):wpAny (model X.prog X.w) A (setAttr (.ref a) f u) Q E s:=by
 obtain⟨mA,O,r,wi,_,ho⟩:=lV I.hok e
 have hz:(fs.map (·.1)).length<=sizeLine:=by rw[List.length_map,sizeLine_eq];omega
 refine AN I.kIn O c.sa c.po n.taker c.hd wi hz fun h' O' sb=>h _ ?_
 have hd:∃o,h'.get? dx=some o:=let ⟨o,_,_,e',_⟩:=O'.ns;⟨o,e'⟩
 refine I.write (x:=a) (e:=dx) (by rw[e];exact True.intro) (.inr ho) (fun b q hb z=>(sb.2 b hb).trans z) hd ?_
 refine⟨by rw[aj O.ne];exact ho,?_,O.ne,O'.obj,_,O'.ns,fun g=>?_,fun g hg=>?_⟩
 ·have:=lB f y fs;omega
 ·show gz ((aK f y fs).lookup g) (if g=f then some u else mA g)
  rw[lC]
  by_cases q:g=f
  ·rw[if_pos q,if_pos q];exact ry
  ·rw[if_neg q,if_neg q];exact r g
 ·by_cases q:g=f
  ·rw[q];exact(kF f y fs).1
  ·refine(kF f y fs).2 g (wi g fun z=>hg ?_)
   show(if g=f then some u else mA g)=none
   rw[if_neg q];exact z
theorem Inv.made(I:Inv X pins σ H s):Inv X pins σ (upd (upd H s.heap.objs.size (.own (s.heap.objs.size+1))) (s.heap.objs.size+1) (.ins C s.heap.objs.size []))
  {s with heap:=(s.heap.push PySem.W.emptyDict).push (PySem.W.instObj C s.heap.objs.size)}:=by
 have e1:(s.heap.push PySem.W.emptyDict).get? s.heap.objs.size=some PySem.W.emptyDict:=Heap.get?_push_size s.heap rfl
 have e2:((s.heap.push PySem.W.emptyDict).push (PySem.W.instObj C s.heap.objs.size)).get? (s.heap.objs.size+1)=some (PySem.W.instObj C s.heap.objs.size):=by
  have:=Heap.get?_push_size (s.heap.push PySem.W.emptyDict) (o:=PySem.W.instObj C s.heap.objs.size) rfl
  rwa [Heap.size_push] at this
 have e3:(s.heap.push PySem.W.emptyDict).Ns s.heap.objs.size (fun _=>none):=⟨PySem.W.emptyDict, #[],_,e1,rfl,(fun e he=>absurd he (by simp)),fun _=>rfl⟩
 have I1:=I.laid (a:=s.heap.objs.size) (o:= .own (s.heap.objs.size+1)) (h':=s.heap.push PySem.W.emptyDict) (t':=s.toks) (fun b u q=>Heap.get?_push_of_some _ q) (Nat.le_refl _) ⟨_,e1⟩
 refine I1.laid (a:=s.heap.objs.size+1) (o:= .ins C s.heap.objs.size []) (t':=s.toks) (fun b u q=>Heap.get?_push_of_some _ q) (Nat.le_of_eq (Heap.size_push _ _)) ?_
 have ne:s.heap.objs.size≠s.heap.objs.size+1:=Nat.ne_of_lt (Nat.lt_succ_self _)
 refine⟨by rw[aj ne,upd_same],Nat.zero_le _,ne,e2,fun _=>none,(Heap.Ns1.of_empty e3).at fun o q=>Heap.get?_push_of_some _ q,fun _=>True.intro,fun y hy=>absurd rfl hy⟩
theorem zC{prog:Program}{w:World}{env:Env}{e:Expr}{f:Str}{pos:Pos}{s:Shared}{Q:Value->Shared->Prop}(hb:attributeBase e f env (eval e env)=eval e env)
  (h:wpAny (model prog w) A (eval e env) (fun o s₁=>wpAny (model prog w) A (getAttr o f true) Q E s₁) E s):wpAny (model prog w) A (eval (.Attribute e f pos) env) Q E s:=
 Attribute_any_ h (by rw[arm_eval_Attribute,hb])
end
def tFld(K:PySem.W.Frag)(ta:TE)(f:Str):TE:=fun σ H Q=>ta σ H fun x H1=>∃a C dx fs v,x= .ref a/\H1 a=some (.ins C dx fs)/\Cls K C/\NoAttr K C f/\fs.lookup f=some v/\Q v H1
def sFld(K:PySem.W.Frag)(ta tv:TE)(f:Str):TS:=fun D σ H=>tv σ H fun y H1=>ta σ H1 fun x H2=>∃a C dx fs,x= .ref a/\H2 a=some (.ins C dx fs)/\Cls K C/\NoAttr K C f/\fs.length<1000/\
 D.nx σ (upd H2 a (.ins C dx (aK f y fs)))
section
variable {X : Cx} {o e value : Expr} {f : Str} {pos pos' tpos : Pos} {ta tv : TE}
theorem aF(he:PE X e ta)(hb:attributeBase e f X.env (eval e X.env)=eval e X.env):PE X (.Attribute e f pos) (tFld X.K ta f):=by
 intro pins s σ H Q I h
 refine zC hb (thn (he pins s σ H _ I h) fun u s1 ⟨x,H1,I1,rx,a,C,dx,fs,v,ex,ea,c,n,l,q⟩=>?_)
 subst ex
 obtain rfl:u=Value.ref a:=rx
 exact tX I1 ea c n l fun u' s2 I2 ru=>⟨v,H1,I2,ru,q⟩
theorem bj(ha:PE X o ta)(hv:PE X value tv)(hs:swapsWith value (some (.Attribute o f pos')) pos.line X.env=pure false):PS X (.Assign [.Attribute o f pos'] value pos) (sFld X.K ta tv f):=by
 intro pins s σ H D I h
 refine plainObj_wpAny_Assign_Attribute (thn (hv pins s σ H _ I h) fun u s1 ⟨y,H1,I1,ry,q⟩=>thn (ha pins s1 σ H1 _ I1 q) fun ov s2 ⟨x,H2,I2,rx,a,C,dx,fs,ex,ea,c,n,l,q2⟩=>?_) hs
 subst ex
 obtain rfl:ov=Value.ref a:=rx
 exact uJ I2 ea c n l ry fun s3 I3=>⟨σ,_,I3,q2⟩
end
section
variable {X : Cx} {pins : List (Addr × Obj)} {σ : St} {H : Hp} {s : Shared} {A : Around} {E : Value → Shared → Prop} {Q : Value → Shared → Prop} {c : Value} {b : Bool}
inductive TyOf (K:PySem.W.Frag) (H:Hp):V->Value->Prop where
 |non:TyOf K H .non (.type "NoneType")
 |bl (x:Bool):TyOf K H (.bl x) (.type "bool")
 |int (i:Int):TyOf K H (.int i) (.type "int")
 |str (x:Str):TyOf K H (.str x) (.type "str")
 |flt (x:UInt64):TyOf K H (.flt x) (.type "float")
 |lst {a:Addr} {xs:List V} (e:H a=some (.lst xs)):TyOf K H (.ref a) (.type "list")
 |frz {a:Addr} {o:Obj} {xs:List V} (e:H a=some (.frz o (.lst xs))):TyOf K H (.ref a) (.type "list")
 |tup {a:Addr} {xs:List V} (e:H a=some (.tup xs)):TyOf K H (.ref a) (.type "tuple")
 |dK {a:Addr} {kvs:List (Key×V)} (e:H a=some (.dK kvs)):TyOf K H (.ref a) (.type "dict")
 |dT {a:Addr} {kvs:List (List Key×V)} (e:H a=some (.dT kvs)):TyOf K H (.ref a) (.type "dict")
 |ins {a C dx:Addr} {fs:List (Str×V)} (e:H a=some (.ins C dx fs)) (cl:Cls K C) (ha:PySem.W.findIn K (.ref C) "__class__"=some (some (.builtin "object.__class__")))
   (hn:PySem.W.specialIn K (.builtin "object.__class__") "__get__"=some (some (.builtin "getset_descriptor.__get__"))) (htk:PySem.W.takesIn K (.builtin "object.__class__")=some true)
   (hm:PySem.W.mroIn K C (.type "object")=some true):TyOf K H (.ref a) (.ref C)
theorem wl{x:V}{u t:Value}(I:Inv X pins σ H s)(rx:RelV x u)(ty:TyOf X.K H x t)(e:PySem.W.kitOne X.K t c=some b)(h:∀tk,Q (.bool b) {s with toks:=tk}):
  wpAny (model X.prog X.w) A (call (.builtin "isinstance") [u,c]) Q E s:=by
 cases ty with
 |non=>cases (show u=Value.none from rx);exact PySem.W.kia_one PySem.W.kitx_none I.kIn True.intro e (fun z=>nomatch z) h
 |bl y=>cases (show u=Value.bool y from rx);exact PySem.W.kia_one PySem.W.kitx_bool I.kIn True.intro e (fun z=>nomatch z) h
 |int i=>obtain⟨t,q⟩:=(show ∃t,u=Value.int i t from rx);cases q;exact PySem.W.kia_one PySem.W.kitx_int I.kIn True.intro e (fun z=>nomatch z) h
 |str y=>obtain⟨t,q⟩:=(show ∃t,u=Value.str y t from rx);cases q;exact PySem.W.kia_one PySem.W.kitx_str I.kIn True.intro e (fun z=>nomatch z) h
 |flt y=>obtain⟨t,q⟩:=(show ∃t,u=Value.float y t from rx);cases q;exact PySem.W.kia_one PySem.W.kitx_float I.kIn True.intro e (fun z=>nomatch z) h
 | @lst a xs ea=>
  cases (show u=Value.ref a from rx)
  obtain⟨_,_,n,_,h1⟩:=(show ba X.prog X.w H s.heap a (.lst xs) from I.hok a _ ea)
  exact PySem.W.kia_one PySem.W.kitx_list I.kIn ⟨_,h1,rfl⟩ e (fun z=>nomatch z) h
 | @frz a ob xs ea=>
  cases (show u=Value.ref a from rx)
  obtain⟨_,_,_,n,_,h1⟩:=(show ba X.prog X.w H s.heap a (.frz ob (.lst xs)) from I.hok a _ ea)
  exact PySem.W.kia_one PySem.W.kitx_list I.kIn ⟨_,h1,rfl⟩ e (fun z=>nomatch z) h
 | @tup a xs ea=>
  cases (show u=Value.ref a from rx)
  obtain⟨_,_,_,p⟩:=(show ba X.prog X.w H s.heap a (.tup xs) from I.hok a _ ea)
  obtain⟨o,h1,h2,_⟩:=p
  exact PySem.W.kia_one PySem.W.kitx_tuple I.kIn ⟨o,h1,h2⟩ e (fun z=>nomatch z) h
 | @dK a kvs ea=>
  cases (show u=Value.ref a from rx)
  obtain⟨_,_,vs,_,p⟩:=(show ba X.prog X.w H s.heap a (.dK kvs) from I.hok a _ ea)
  obtain⟨o,es,ep,h1,h2,_⟩:=p
  exact PySem.W.kia_one PySem.W.kitx_dict I.kIn ⟨o,h1,h2.1⟩ e (fun z=>nomatch z) h
 | @dT a kvs ea=>
  cases (show u=Value.ref a from rx)
  obtain⟨_,_,xs,_,o,es,ep,h1,h2,_⟩:=(show ba X.prog X.w H s.heap a (.dT kvs) from I.hok a _ ea)
  exact PySem.W.kia_one PySem.W.kitx_dict I.kIn ⟨o,h1,h2.1⟩ e (fun z=>nomatch z) h
 | @ins a C dx fs ea cl ha hn htk hm=>
  cases (show u=Value.ref a from rx)
  obtain⟨mA,O,_⟩:=lV I.hok ea
  obtain⟨od,J,_⟩:=O.look
  exact PySem.W.kia_one (PySem.W.kitx_own (cl.get _) cl.hd ha hn htk hm) I.kIn J e (fun z=>nomatch z) h
end
end L2
namespace L2
open PySem PySem.Spec PyProof.Rows
structure Room (k:Nat) (A:Around):Prop where
 hd:A.handled=none
 dp:A.depth+3*k+5<recursionLimit
 un:A.units+16*k+200<cLine
theorem Room.mono{j k:Nat}{A:Around}(r:Room k A)(h:j<=k):Room j A:=⟨r.hd,by have:=r.dp;omega,by have:=r.un;omega⟩
theorem Room.deeper{k:Nat}{A:Around}(r:Room (k+1) A)(env:Env):Room k (A.deeper env):=
 ⟨r.hd,by have:=r.dp;show A.depth+1+3*k+5<_;omega,by have:=r.un;show A.units+3+16*k+200<_;omega⟩
theorem ub{A:Around}{C:Addr}{us:List Value}{kw:List (Str×Value)}:(A.under (.builtin "type.__call__" ⟨.ref C::us,kw⟩)).depth=A.depth+1:=by
 first |rfl |simp[Around.under,Code.weight,Code.isCreation,Code.isGuard,Code.isCaller,Code.frames,Code.isFrame,guardIds]
theorem uc{A:Around}{C:Addr}{us:List Value}{kw:List (Str×Value)}:(A.under (.builtin "type.__call__" ⟨.ref C::us,kw⟩)).units=A.units+1:=by
 first |rfl |simp[Around.under,Code.cUnits,Code.frames,Code.isFrame]
theorem Room.make{k:Nat}{A:Around}(r:Room (k+1) A)(C:Addr)(us:List Value)(kw:List (Str×Value)):Room k (A.under (.builtin "type.__call__" ⟨.ref C::us,kw⟩)):=
 ⟨r.hd,by have:=r.dp;rw[ub];omega,by have:=r.un;rw[uc];omega⟩
theorem Room.depth{k:Nat}{A:Around}(r:Room k A):A.depth<recursionLimit:=by have:=r.dp;omega
theorem Room.units{k:Nat}{A:Around}(r:Room k A):A.units+64<cLine:=by have:=r.un;omega
def tNil:TA:=fun _ H Q=>Q [] H
def tCons(ta:TE)(tr:TA):TA:=fun σ H Q=>ta σ H fun x H1=>tr σ H1 fun xs H2=>Q (x::xs) H2
section
variable {X : Cx} {e : Expr} {es : List Expr} {te : TE} {t : TA} {pos : Pos}
theorem af:PA X [] tNil:=fun _ _ _ _ H Q I h=>Calls.spliced_nil ⟨[],H,I,.nil,h⟩
theorem aa(ha:PE X e te)(hr:PA X es t)(hs:starEach (e::es) X.env=(false,eval e X.env)::starEach es X.env:=by rfl):PA X (e::es) (tCons te t):=by
 intro pos pins s σ H Q I h
 rw[hs]
 show wpAny _ _ (spliced ((false,eval e X.env)::backTo pos (starEach es X.env))) _ _ s
 refine Calls.spliced_cons (thn (ha pins s σ H _ I h) fun u s1 ⟨x,H1,I1,r1,q1⟩=>?_)
 exact thn (hr pos pins s1 σ H1 _ I1 q1) fun us s2 ⟨xs,H2,I2,r2,q2⟩=>⟨x::xs,H2,I2,.cons r1 r2,q2⟩
def tTup(t:TA):TE:=fun σ H Q=>t σ H fun xs H1=>xs.length<=sizeLine/\∀p,H1 p=none->Q (.ref p) (upd H1 p (.tup xs))
def tLst(t:TA):TE:=fun σ H Q=>t σ H fun xs H1=>xs.length<=sizeLine/\∀p,H1 p=none->Q (.ref p) (upd H1 p (.lst xs))
theorem br{x1}(h:PA X es t):PE X (.Tuple es x1 pos) (tTup t):=by
 intro pins s σ H Q I hq
 refine wpAny_Tuple_spliced (thn (h pos pins s σ H _ I hq) fun us s1 ⟨xs,H1,I1,r,z,q⟩=>⟨by rw[<-r.length];exact z,?_⟩)
 have hf:H1 s1.heap.objs.size=none:=I1.hok.fresh (Nat.le_refl _)
 refine⟨.ref s1.heap.objs.size,upd H1 s1.heap.objs.size (.tup xs),I1.laid (t':=s1.toks) (fun b u e=>Heap.get?_push_of_some _ e) (Nat.le_refl _) ?_,rfl,q _ hf⟩
 exact⟨z,us,r,⟨_,Heap.get?_push_size _ rfl,rfl,_,rfl⟩⟩
theorem bi(h:PA X es t):PE X (.List es pos) (tLst t):=by
 intro pins s σ H Q I hq
 refine wpAny_List_spliced (thn (h pos pins s σ H _ I hq) fun us s1 ⟨xs,H1,I1,r,z,q⟩=>⟨by rw[<-r.length];exact z,?_⟩)
 have hf:H1 s1.heap.objs.size=none:=I1.hok.fresh (Nat.le_refl _)
 refine⟨.ref s1.heap.objs.size,upd H1 s1.heap.objs.size (.lst xs),I1.laid (t':=s1.toks) (fun b u e=>Heap.get?_push_of_some _ e) (Nat.le_refl _) ?_,rfl,q _ hf⟩
 exact⟨z,us,0,r,Heap.get?_push_size _ rfl⟩
end
abbrev Sp:=List V->Hp->VK->XK->Prop
abbrev CXT:=List Env->Hp->Shared->XK->Value->Shared->Prop
structure Env0 (P:Program) (w:World) (K:PySem.W.Frag) (mg:Str->Option Value) (base:Heap) (A:Around) (outer:List Env) (s:Shared) (H:Hp):Prop where
 frames:A.frames=some outer
 mod:Mod K mg base
 bs:∀b o,base.get? b=some o->s.heap.get? b=some o/\H b=none
 bsz:base.objs.size<=s.heap.objs.size
 funs:s.heap.FunFrames base outer
 frf:∀b∈frs outer,H b=none
 hok:HOk P w H s.heap
 bare:AllBare s.gens
def CE(outer:List Env)(P:Program)(w:World)(H:Hp)(s:Shared)(Q:VK)(u:Value)(s':Shared):Prop:=
 ∃v H',s'.os=s.os/\AllBare s'.gens/\Un (frs outer) [] H H' s.heap s'.heap/\HOk P w H' s'.heap/\RelV v u/\Q v H'
def CR(CX:CXT)(outer:List Env)(P:Program)(w:World)(H:Hp)(s:Shared)(Q:VK)(E:XK)(r:Result)(s':Shared):Prop:=
 match r with
 | .ok (.ret u)=>CE outer P w H s Q u s'
 | .ok _=>False
 | .error e=>CX outer H s E e s'
structure FnOk (P:Program) (w:World) (K:PySem.W.Frag) (mg:Str->Option Value) (base:Heap) (CX:CXT) (k:Nat) (f:Addr) (fd:FuncData) (ps:List Str) (sp:Sp):Prop where
 len:∀vs H Q E,sp vs H Q E->vs.length=ps.length
 run:∀(A:Around) (outer:List Env) (s:Shared) (H:Hp) (args:Args) (us:List Value) (vs:List V) (Q:VK) (E:XK),Room k A->Env0 P w K mg base A outer s H->BindsTo s fd args (ps.zip us)->Vals vs us->sp vs H Q E->
  codeAny (model P w) A (.call (.ref f) args) (CR CX outer P w H s Q E) s
theorem Env0.make{P:Program}{w:World}{K:PySem.W.Frag}{mg:Str->Option Value}{base:Heap}{A:Around}{outer:List Env}{s:Shared}{H:Hp}(e:Env0 P w K mg base A outer s H)(C:Addr)(us:List Value)(kw:List (Str×Value)):
  Env0 P w K mg base (A.under (.builtin "type.__call__" ⟨.ref C::us,kw⟩)) outer s H:=⟨by first |exact e.frames |(simpa [Around.under,Code.envs,Code.isFrame,pushEnvs] using e.frames),e.mod,e.bs,e.bsz,e.funs,e.frf,e.hok,e.bare⟩
section
variable {X : Cx} {pins : List (Addr × Obj)} {σ : St} {H : Hp} {s s' : Shared}
theorem Inv.env0(I:Inv X pins σ H s):Env0 X.prog X.w X.K X.mg X.base X.A X.stack s H:=
 ⟨I.ok.frames,I.ok.mod,I.bs,Nat.le_trans I.ok.bsz I.sz,I.stack,I.stkFree,I.hok,I.bare⟩
theorem Inv.after{Q:VK}{u:Value}(I:Inv X pins σ H s)(h:CE X.stack X.prog X.w H s Q u s'):EP X pins σ Q u s':=by
 obtain⟨v,H',os,bare,un,hok,r,q⟩:=h
 obtain⟨hh,g,d,t,os'⟩:=s'
 obtain rfl:os'=s.os:=os
 exact⟨v,H',I.call (h':=hh) (g':=g) (d':=d) (t':=t) (ch:=[]) un hok bare (fun b z=>absurd z (by simp)),r,q⟩
end
def tCall(sp:Sp)(dvs:List V)(E:XK)(t:TA):TE:=fun σ H Q=>t σ H fun vs H1=>sp (vs++dvs) H1 Q E
def tMeth(C:Addr)(m:Str)(sp:Sp)(dvs:List V)(E:XK)(ta:TE)(t:TA):TE:=fun σ H Q=>ta σ H fun x H1=>∃a dx fs,x= .ref a/\H1 a=some (.ins C dx fs)/\fs.lookup m=none/\
 t σ H1 fun vs H2=>sp (x::(vs++dvs)) H2 Q E
def tMake(C:Addr)(sp:Sp)(dvs:List V)(E:XK)(t:TA):TE:=fun σ H Q=>t σ H fun vs H1=>∀x dx,H1 x=none->H1 dx=none->dx≠x->
 sp (.ref x::(vs++dvs)) (upd (upd H1 dx (.own x)) x (.ins C dx [])) (fun v H2=>v= .non/\Q (.ref x) H2) E
def Binds(K:PySem.W.Frag)(fd:FuncData)(ps:List Str)(ds:List Value):Prop:=
 ∀(s:Shared) (us:List Value),K.In s.heap->(us++ds).length=ps.length->BindsTo s fd ⟨us,[]⟩ (ps.zip (us++ds))
theorem Binds.all{K:PySem.W.Frag}{fd:FuncData}{ps:List Str}(h:∀us:List Value,us.length=ps.length->bindArgs fd ⟨us,[]⟩=pure (ps.zip us)):Binds K fd ps []:=fun s us _ hl=>by
 rw[List.append_nil] at hl ⊢
 exact .of_eq (h us hl)
def eK(CX:CXT)(X:Cx)(E:XK):Prop:=∀(pins:List (Addr×Obj)) (σ:St) (H:Hp) (s:Shared) (e:Value) (s':Shared),Inv X pins σ H s->CX X.stack H s E e s'->X.xe e s'
section
variable {X : Cx} {CX : CXT} {k : Nat} {f C : Addr} {fd : FuncData} {ps : List Str} {sp : Sp} {dvs : List V} {ds : List Value} {E : XK} {x m : Str} {p pos apos : Pos} {e o : Expr} {es : List Expr} {ta : TE} {t : TA}
theorem uH{pins:List (Addr×Obj)}{σ:St}{H:Hp}{s:Shared}{Q:VK}{us:List Value}{vs:List V}(F:FnOk X.prog X.w X.K X.mg X.base CX k f fd ps sp)(hr:Room k X.A)(hb:Binds X.K fd ps ds)(hd:Vals dvs ds)(hx:eK CX X E)
  (I:Inv X pins σ H s)(r:Vals vs us)(h:sp (vs++dvs) H Q E):wpAny (model X.prog X.w) X.A (call (.ref f) us) (EP X pins σ Q) X.xe s:=by
 have r2:Vals (vs++dvs) (us++ds):=r.append hd
 have hl:(us++ds).length=ps.length:=by rw[<-r2.length];exact F.len _ _ _ _ h
 refine wpAny_call (codeAny_mono (F.run X.A X.stack s H ⟨us,[]⟩ (us++ds) (vs++dvs) Q E hr I.env0 (hb s us I.kIn hl) r2 h) fun r s' hq=>?_)
 cases r with
 |error e=>exact hx pins σ H s e s' I hq
 |ok fl=>
  cases fl with
  |ret u=>exact I.after hq
  |next=>exact False.elim hq
  |brk=>exact False.elim hq
  |cont=>exact False.elim hq
theorem vC(F:FnOk X.prog X.w X.K X.mg X.base CX k f fd ps sp)(hr:Room k X.A)(hg:Gl X x)(hm:X.mg x=some (.ref f))(hk:PySem.W.keepIn X.K (.ref f)=true)(hb:Binds X.K fd ps ds)(hd:Vals dvs ds)(hx:eK CX X E)
  (ha:PA X (e::es) t)(hdb:(x==("__debug__":Str))=false:=by decide)(he:starEach (e::es) X.env=(false,eval e X.env)::starEach es X.env:=by rfl)(hpl:(backTo pos (starEach es X.env)).any (·.1)=false:=by rfl):
  PE X (.Call (.Name x p) (e::es) [] pos) (tCall sp dvs E t):=by
 intro pins s σ H Q I h
 refine wpAny_Call_Name_kw (iV I hg hm ?_ hdb)
 refine PySem.W.callWith_K (h₀:=X.base) I.ok.mod.kin hk (thn (ha pos pins s σ H _ I h) fun us s1 ⟨vs,H1,I1,r,q⟩=>⟨I1.kIn,?_⟩) he hpl
 exact uH F hr hb hd hx I1 r q
theorem vE{pl:Sem Bool}(he:PE X o ta)(c:Cls X.K C)(hm:Meth X.K C m f)(F:FnOk X.prog X.w X.K X.mg X.base CX k f fd ps sp)(hr:Room k X.A)(hb:Binds X.K fd ps ds)(hd:Vals dvs ds)(hx:eK CX X E)(ha:PA X (e::es) t)
  (hst:starEach (e::es) X.env=(false,eval e X.env)::starEach es X.env:=by rfl)(hpl:(backTo pos (starEach es X.env)).any (·.1)=false:=by rfl)
  (ht:eval (.Call (.Attribute o m apos) (e::es) [] pos) X.env=(do
   let ov <-eval o X.env
   standAt apos.atName
   let (f,first) <-holding [ov] (getMethod ov m pl)
   callWith pos f first (backTo pos (starEach (e::es) X.env)) (backToKw pos (keywordEach [] X.env))):=by rfl):
  PE X (.Call (.Attribute o m apos) (e::es) [] pos) (tMeth C m sp dvs E ta t):=by
 intro pins s σ H Q I h
 refine PySem.W.methodCall_KW (pl:=pl) (thn (he pins s σ H _ I h) fun u s1 ⟨x,H1,I1,rx,a,dx,fs,ex,ea,l,q⟩=>?_) ht
 subst ex
 obtain rfl:u=Value.ref a:=rx
 refine mF I1 ea c hm l ?_
 refine PySem.W.callWith_K (first:=[.ref a]) (h₀:=X.base) I.ok.mod.kin hm.kp (thn (ha pos pins s1 σ H1 _ I1 q) fun us s2 ⟨vs,H2,I2,r,q2⟩=>⟨I2.kIn,?_⟩) hst hpl
 exact uH (us:= .ref a::us) (vs:= .ref a::vs) F hr hb hd hx I2 (.cons rfl r) q2
theorem yJ{pl:Sem Bool}(he:PE X o ta)(c:Cls X.K C)(hm:Meth X.K C m f)(F:FnOk X.prog X.w X.K X.mg X.base CX k f fd ps sp)(hr:Room k X.A)(hb:Binds X.K fd ps ds)(hd:Vals dvs ds)(hx:eK CX X E)
  (ht:eval (.Call (.Attribute o m apos) [] [] pos) X.env=(do
   let ov <-eval o X.env
   standAt apos.atName
   let (f,first) <-holding [ov] (getMethod ov m pl)
   callWith pos f first (backTo pos (starEach [] X.env)) (backToKw pos (keywordEach [] X.env))):=by rfl):
  PE X (.Call (.Attribute o m apos) [] [] pos) (tMeth C m sp dvs E ta tNil):=by
 intro pins s σ H Q I h
 refine PySem.W.methodCall_KW (pl:=pl) (thn (he pins s σ H _ I h) fun u s1 ⟨x,H1,I1,rx,a,dx,fs,ex,ea,l,q⟩=>?_) ht
 subst ex
 obtain rfl:u=Value.ref a:=rx
 refine mF I1 ea c hm l ?_
 exact PySem.W.callWith_K0 (first:=[.ref a]) I1.kIn hm.kp (uH (us:=[.ref a]) (vs:=[.ref a]) F hr hb hd hx I1 (.cons rfl .nil) q)
structure Mk (K:PySem.W.Frag) (C f:Addr):Prop where
 makes:PySem.W.makesIn K C=true
 init:PySem.W.findIn K (.ref C) "__init__"=some (some (.ref f))
 fn:PySem.W.isFn K (.ref f)=true
 kp:PySem.W.keepIn K (.ref C)=true
theorem sV{pins:List (Addr×Obj)}{σ:St}{H:Hp}{s:Shared}{Q:VK}{us:List Value}{vs:List V}(M:Mk X.K C f)(F:FnOk X.prog X.w X.K X.mg X.base CX k f fd ps sp)(hr:Room (k+1) X.A)(hb:Binds X.K fd ps ds)(hd:Vals dvs ds)
  (hx:eK CX X E)(I:Inv X pins σ H s)(r:Vals vs us)
  (h:∀x dx,H x=none->H dx=none->dx≠x->sp (.ref x::(vs++dvs)) (upd (upd H dx (.own x)) x (.ins C dx [])) (fun v H2=>v= .non/\Q (.ref x) H2) E):
  wpAny (model X.prog X.w) X.A (call (.ref C) us) (EP X pins σ Q) X.xe s:=by
 have hq:=h (s.heap.objs.size+1) s.heap.objs.size (I.hok.fresh (Nat.le_succ _)) (I.hok.fresh (Nat.le_refl _)) (Nat.ne_of_lt (Nat.lt_succ_self _))
 have I2:=Inv.made (C:=C) I
 have r2:Vals (V.ref (s.heap.objs.size+1)::(vs++dvs)) (Value.ref (s.heap.objs.size+1)::(us++ds)):= .cons rfl (r.append hd)
 have hl:(Value.ref (s.heap.objs.size+1)::us++ds).length=ps.length:=by
  have e:=r2.length
  rw[F.len _ _ _ _ hq] at e
  exact e.symm
 refine wpAny_call (xU (f:=f) I.kIn M.makes M.init (beq_iff_eq.mp M.fn) (codeAny_mono (F.run _ X.stack _ _ ⟨Value.ref (s.heap.objs.size+1)::us,[]⟩ (Value.ref (s.heap.objs.size+1)::(us++ds)) _ _ E (hr.make C us [])
  (I2.env0.make C us []) (hb _ (Value.ref (s.heap.objs.size+1)::us) I2.kIn hl) r2 hq) fun r s' hq'=>?_))
 cases r with
 |error e=>exact hx pins σ _ _ e s' I2 hq'
 |ok fl=>
  cases fl with
  |ret u=>
   obtain⟨v,H',I3,rv,ev,q3⟩:=I2.after hq'
   subst ev
   exact⟨rv,⟨V.ref (s.heap.objs.size+1),H',I3,rfl,q3⟩⟩
  |next=>exact False.elim hq'
  |brk=>exact False.elim hq'
  |cont=>exact False.elim hq'
theorem AD(M:Mk X.K C f)(F:FnOk X.prog X.w X.K X.mg X.base CX k f fd ps sp)(hr:Room (k+1) X.A)(hg:Gl X x)(hm:X.mg x=some (.ref C))(hb:Binds X.K fd ps ds)(hd:Vals dvs ds)(hx:eK CX X E)
  (ha:PA X (e::es) t)(hdb:(x==("__debug__":Str))=false:=by decide)(he:starEach (e::es) X.env=(false,eval e X.env)::starEach es X.env:=by rfl)(hpl:(backTo pos (starEach es X.env)).any (·.1)=false:=by rfl):
  PE X (.Call (.Name x p) (e::es) [] pos) (tMake C sp dvs E t):=by
 intro pins s σ H Q I h
 refine wpAny_Call_Name_kw (iV I hg hm ?_ hdb)
 refine PySem.W.callWith_K (h₀:=X.base) I.ok.mod.kin M.kp (thn (ha pos pins s σ H _ I h) fun us s1 ⟨vs,H1,I1,r,q⟩=>⟨I1.kIn,?_⟩) he hpl
 exact sV M F hr hb hd hx I1 r q
theorem yI(M:Mk X.K C f)(F:FnOk X.prog X.w X.K X.mg X.base CX k f fd ps sp)(hr:Room (k+1) X.A)(hg:Gl X x)(hm:X.mg x=some (.ref C))(hb:Binds X.K fd ps ds)(hd:Vals dvs ds)(hx:eK CX X E)
  (hdb:(x==("__debug__":Str))=false:=by decide):PE X (.Call (.Name x p) [] [] pos) (tMake C sp dvs E tNil):=by
 intro pins s σ H Q I h
 refine wpAny_Call_Name_kw (iV I hg hm ?_ hdb)
 exact PySem.W.callWith_K0 I.kIn M.kp (sV (us:=[]) M F hr hb hd hx I .nil h)
end
structure FnScope (N P:List Str) (sc:Scope):Prop where
 kind:sc.kind= .function
 co:sc.isCoroutine=false
 gen:sc.isGenerator=false
 nd:N.Nodup
 pre:N.take P.length=P
 par:∀x∈P,sc.names.lookup x=some .local∨sc.names.lookup x=some .cell
 nofree:∀y∈sc.names,y.2≠ .free
theorem pz{kindOf:Str->Option NameKind}{x:Str}:∀{binds:List (Str×Value)} {m:Str->Option Value},(∀v,(x,v)∉binds)->bindL kindOf binds m x=m x
 | [],_,_=>rfl
 |(n,v)::r,m,h=>by
  unfold bindL
  rw[pz fun w hw=>h w (List.mem_cons_of_mem _ hw)]
  split
  ·have:x≠n:=by rintro rfl;exact h v List.mem_cons_self
   simp[this]
  ·rfl
theorem pw{kindOf:Str->Option NameKind}{x:Str}:∀{binds:List (Str×Value)} {m:Str->Option Value},(∀v,(x,v)∉binds)->bindC kindOf binds m x=m x
 | [],_,_=>rfl
 |(n,v)::r,m,h=>by
  unfold bindC
  rw[pw fun w hw=>h w (List.mem_cons_of_mem _ hw)]
  split
  ·rfl
  ·have:x≠n:=by rintro rfl;exact h v List.mem_cons_self
   simp[this]
theorem py{kindOf:Str->Option NameKind}{x:Str}{v:Value}:∀{P:List Str} {vs:List Value} {i:Nat} {m:Str->Option Value},P.Nodup->P[i]?=some x->vs[i]?=some v->kindOf x=some .local->
  bindL kindOf (P.zip vs) m x=some v
 | [],_,_,_,_,h,_,_=>by simp at h
 |_::_,[],_,_,_,_,h,_=>by simp at h
 |p::P,w::vs,0,m,nd,h1,h2,hk=>by
  simp at h1 h2;subst h1;subst h2
  show bindL kindOf ((p,w)::P.zip vs) m p=_
  unfold bindL
  rw[pz fun v hv=>(List.nodup_cons.mp nd).1 (List.of_mem_zip hv).1,if_pos hk]
  simp
 |p::P,w::vs,i+1,m,nd,h1,h2,hk=>by
  show bindL kindOf ((p,w)::P.zip vs) m x=_
  unfold bindL
  exact py (i:=i) (List.nodup_cons.mp nd).2 (by simpa using h1) (by simpa using h2) hk
theorem pr{kindOf:Str->Option NameKind}{x:Str}{v:Value}:∀{P:List Str} {vs:List Value} {i:Nat} {m:Str->Option Value},P.Nodup->P[i]?=some x->vs[i]?=some v->kindOf x≠some .local->
  bindC kindOf (P.zip vs) m x=some v
 | [],_,_,_,_,h,_,_=>by simp at h
 |_::_,[],_,_,_,_,h,_=>by simp at h
 |p::P,w::vs,0,m,nd,h1,h2,hk=>by
  simp at h1 h2;subst h1;subst h2
  show bindC kindOf ((p,w)::P.zip vs) m p=_
  unfold bindC
  rw[pw fun v hv=>(List.nodup_cons.mp nd).1 (List.of_mem_zip hv).1,if_neg hk]
  simp
 |p::P,w::vs,i+1,m,nd,h1,h2,hk=>by
  show bindC kindOf ((p,w)::P.zip vs) m x=_
  unfold bindC
  exact pr (i:=i) (List.nodup_cons.mp nd).2 (by simpa using h1) (by simpa using h2) hk
def start(N:List Str)(vs:List V):St:=vs.map some++List.replicate (N.length - vs.length) none
def qt(CX:CXT)(P:Program)(w:World)(K:PySem.W.Frag)(mg:Str->Option Value)(base:Heap)(N:List Str)(qual:Str)(scope:Scope)(f:Addr)(cd:Value)(A:Around)(outer:List Env)(s:Shared)(H:Hp)(E:XK):Cx where
 prog:=P
 w:=w
 K:=K
 mg:=mg
 base:=base
 A:=A.deeper (envOfC qual scope s.heap.objs.size f cd)
 N:=N
 s₀:=s
 H₀:=H
 env:=envOfC qual scope s.heap.objs.size f cd
 outer:=outer
 stack:=envOfC qual scope s.heap.objs.size f cd::outer
 ex:=[]
 calm:=true
 fn:=fun _=>true
 pn:=[]
 xe:=fun e s'=>wpAny (model P w) (A.deeper (envOfC qual scope s.heap.objs.size f cd)) (leaving (envOfC qual scope s.heap.objs.size f cd) e) (fun _ s''=>CX outer H s E e s'') (fun e' s''=>CX outer H s E e' s'') s'
theorem si{sc:Scope}{n:Nat}{x:Str}(h:sc.names.lookup x=some .cell):∃c,(cellsFrom n sc.names []).lookup x=some c:=by
 have q:=PySem.W.cellsFrom_some sc.names n [] (.inl h)
 exact Option.isSome_iff_exists.mp q
theorem wk{CX:CXT}{P:Program}{w:World}{K:PySem.W.Frag}{mg:Str->Option Value}{base:Heap}{N ps:List Str}{qual:Str}{scope:Scope}{f:Addr}{cd:Value}{A:Around}{outer:List Env}{s s1:Shared}{H:Hp}{E:XK}{us:List Value}{vs:List V}
  (S:FnScope N ps scope)(hd:A.handled=none)(e0:Env0 P w K mg base A outer s H)(hl:vs.length=ps.length)(r:Vals vs us)
  (x:InCallC s s.heap.objs.size (bindL (envOfC qual scope s.heap.objs.size f cd).kindOf (ps.zip us) fun _=>none) (cellsFrom (s.heap.objs.size+1) scope.names []) (bindC (envOfC qual scope s.heap.objs.size f cd).kindOf (ps.zip us) fun _=>none) s1):
  Inv (qt CX P w K mg base N qual scope f cd A outer s H E) [] (start N vs) H s1:=by
 have hpl:ps.length<=N.length:=by have:=congrArg List.length S.pre;rw[List.length_take] at this;omega
 obtain⟨h1,tk,rfl,hk⟩:=x.done
 have noA:∀b:Addr,b∉(qt CX P w K mg base N qual scope f cd A outer s H E).ex:=fun b z=>absurd (show b∈([]:List Addr) from z) (by simp)
 refine⟨⟨e0.mod,S.kind,rfl,rfl,Nat.le_refl _,fun y z c h1 h2=>?_,fun y hy=>?_,fun y c _ h=>?_,fun _=>hd,Around.frames_deeper e0.frames,.inr ⟨rfl,rfl⟩,fun b z=>absurd z (noA b),e0.bs,e0.bsz,fun b _ _=>noA b,fun b z=>absurd z (noA b),e0.funs,e0.frf⟩,
  rfl,e0.bare,Un.kept hk,⟨_,x.toInCall.ns,fun i y v h1 h2 h3=>?_⟩,fun y c h=>⟨_,x.cell y c h⟩,e0.hok.fresh (Nat.le_refl _),fun y c h=>?_,fun p hp=>absurd (show p∈([]:List (Addr×Obj)) from hp) (by simp),e0.hok.kept hk,?_⟩
 ·exact name_of_addr x.apart (PySem.mem_of_lookup h1) (PySem.mem_of_lookup h2)
 ·have hy:scope.names.lookup y=some .cell∨scope.names.lookup y=some .free:=hy
  rcases hy with hy |hy
  ·exact si hy
  ·exact absurd rfl (S.nofree _ (PySem.mem_of_lookup hy))
 ·exact Nat.le_of_lt (x.above y c (PySem.mem_of_lookup h))
 ·have hi:i<vs.length:=by
   unfold start at h2
   by_cases hi:i<vs.length
   ·exact hi
   ·rw[List.getElem?_append_right (by simpa using hi)] at h2
    rw[List.getElem?_replicate] at h2
    split at h2<;>cases h2
  have ha:vs[i]?=some v:=by
   unfold start at h2
   rw[List.getElem?_append_left (by simpa using hi),List.getElem?_map] at h2
   cases e:vs[i]? with
   |none=>rw[e] at h2;cases h2
   |some a=>rw[e] at h2;cases h2;rfl
  obtain⟨u,hu,rv⟩:=r.get ha
  have hp:ps[i]?=some y:=by
   rw[<-S.pre,List.getElem?_take_of_lt (by omega)];exact h1
  have ndP:ps.Nodup:=by rw[<-S.pre];exact S.nd.sublist (List.take_sublist _ _)
  refine⟨u,rv,?_⟩
  rcases S.par y (List.mem_of_getElem? hp) with k |k
  ·exact .inl ⟨k,py ndP hp hu k⟩
  ·obtain⟨c,e⟩:=si (n:=s.heap.objs.size+1) k
   refine .inr ⟨.inl k,c,e,?_⟩
   have q:=x.cell y c e
   rw[pr ndP hp hu (by show scope.names.lookup y≠_;rw[k];decide)] at q
   exact q
 ·exact e0.hok.fresh (Nat.le_of_lt (x.above y c (PySem.mem_of_lookup h)))
 ·unfold start
  show _=N.length
  rw[List.length_append,List.length_map,List.length_replicate]
  omega
theorem A3{CX:CXT}{P:Program}{w:World}{K:PySem.W.Frag}{mg:Str->Option Value}{base:Heap}{k:Nat}{f:Addr}{name qual:Str}{params:Arguments}{body:List Stmt}{scope:Scope}{dV kV doc pm cdv ct oc:Value}{an od:Option Addr}
  {osl:Array (Option Value)}{N ps:List Str}{sp:Sp}(lk:K.lookup f=some ⟨oc,od,.func (PySem.W.fnOf name qual params body scope dV kV doc pm an cdv ct),osl⟩)(hcd:PySem.W.codeIn K cdv qual=true)(S:FnScope N ps scope)
  (len:∀vs H Q E,sp vs H Q E->vs.length=ps.length)
  (hbody:∀(A:Around) (outer:List Env) (s:Shared) (H:Hp) (vs:List V) (Q:VK) (E:XK),Room k (A.deeper (envOfC qual scope s.heap.objs.size f cdv))->sp vs H Q E->
   ∃t,PSs (qt CX P w K mg base N qual scope f cdv A outer s H E) body t/\t {nx:=fun _ H'=>Q .non H',rt:=Q} (start N vs) H):
  FnOk P w K mg base CX (k+1) f (PySem.W.fnOf name qual params body scope dV kV doc pm an cdv ct) ps sp:=by
 refine⟨len,fun A outer s H args us vs Q E hr e0 hb r hsp=>?_⟩
 have hl:=len _ _ _ _ hsp
 have KX:K.In s.heap:=e0.mod.kin.keeps fun b o e=>(e0.bs b o e).1
 have lim:s.heap.NoLimit:=e0.mod.nolimit.keeps fun b o e=>(e0.bs b o e).1
 have hkind:∀y∈ps.zip us,scope.names.lookup y.1=some .local∨(scope.names.lookup y.1=some .cell/\((cellsFrom (s.heap.objs.size+1) scope.names []).lookup y.1).isSome=true):=fun⟨n,v⟩ hy=>by
  rcases S.par n (List.of_mem_zip hy).1 with q |q
  ·exact .inl q
  ·exact .inr ⟨q,PySem.W.cellsFrom_some _ _ _ (.inl q)⟩
 refine codeAny_call_function hr.depth (KX _ _ lk) rfl S.co S.gen rfl (PySem.W.codeRec_of KX hcd) (hb _ _ _ _ ?_)
 refine wpAny_newFunctionEnv_cells S.kind hkind fun env he s1 x=>?_
 subst he
 refine⟨lim.keeps x.toInCall.keep,codeAny_func ?_⟩
 obtain⟨t,ht,hq⟩:=hbody A outer s H vs Q E (hr.deeper _) hsp
 have I:Inv (qt CX P w K mg base N qual scope f cdv A outer s H E) [] (start N vs) H s1:=wk S hr.hd e0 hl r x
 refine wpAny_mono (ht [] s1 (start N vs) H _ I hq) (fun fl s' hs=>?_) fun e s' hs=>hs
 have fin:∀{σ':St} {H':Hp} {v:V} {u:Value},Inv (qt CX P w K mg base N qual scope f cdv A outer s H E) [] σ' H' s'->RelV v u->Q v H'->CE outer P w H s Q u s':=
  fun {σ' H' v u} J rv q=>⟨v,H',J.os,J.bare,J.base,J.hok,rv,q⟩
 cases fl with
 |ret u=>
  obtain⟨v,σ',H',J,rv,q⟩:=hs
  exact fin J rv q
 |next=>
  obtain⟨σ',H',J,q⟩:=hs
  exact fin (v:=V.non) (u:=Value.none) J rfl q
 |brk=>
  obtain⟨_,_,_,q⟩:=hs
  exact False.elim q
 |cont=>
  obtain⟨_,_,_,q⟩:=hs
  exact False.elim q
end L2
namespace L2
open PySem PySem.Spec PyProof.Rows
section
variable {X : Cx} {x : Str} {p pos : Pos} {e : Expr} {es : List Expr} {t : TA} {id T : String} {r : List V → Hp → VK → Prop}
def tCB(r:List V->Hp->VK->Prop)(t:TA):TE:=fun σ H Q=>t σ H fun vs H1=>r vs H1 Q
theorem aD(hc:ic X (.builtin id) r)(hg:Gl X x)(hm:X.mg x=none)(hv:bootBuiltins x=some (.builtin id))(ha:PA X (e::es) t)(hn:x≠"__name__":=by decide)(hdb:(x==("__debug__":Str))=false:=by decide)
  (he:starEach (e::es) X.env=(false,eval e X.env)::starEach es X.env:=by rfl)(hpl:(backTo pos (starEach es X.env)).any (·.1)=false:=by rfl):PE X (.Call (.Name x p) (e::es) [] pos) (tCB r t):=by
 intro pins s σ H Q I h
 refine wpAny_Call_Name_kw (kM I hg hm hv ?_ hn hdb)
 exact PyProof.Rows.callWith_builtin1 (thn (ha pos pins s σ H _ I h) fun us s1 ⟨vs,H1,I1,r1,q1⟩=>hc pins s1 σ H1 vs us Q I1 r1 q1) he hpl
theorem gD(hc:ic X (.type T) r)(hg:Gl X x)(hm:X.mg x=none)(hv:bootBuiltins x=some (.type T))(ha:PA X (e::es) t)(hn:x≠"__name__":=by decide)(hdb:(x==("__debug__":Str))=false:=by decide)
  (he:starEach (e::es) X.env=(false,eval e X.env)::starEach es X.env:=by rfl)(hpl:(backTo pos (starEach es X.env)).any (·.1)=false:=by rfl):PE X (.Call (.Name x p) (e::es) [] pos) (tCB r t):=by
 intro pins s σ H Q I h
 refine wpAny_Call_Name_kw (kM I hg hm hv ?_ hn hdb)
 exact PyProof.Rows.callWith_type1 (thn (ha pos pins s σ H _ I h) fun us s1 ⟨vs,H1,I1,r1,q1⟩=>hc pins s1 σ H1 vs us Q I1 r1 q1) he hpl
end
end L2
namespace HT
open PySem PyProof.Rows
section
variable {prog : Program} {w : World} {A : Around} {E : Value → Shared → Prop} {s : Shared}
theorem cat_tup{t b:Addr}{vs ws:List Value}{Q:Value->Shared->Prop}(ht:IsTup s.heap t vs.toArray)(hb:IsTup s.heap b ws.toArray)(hv:vs≠[])
  (h1:ws=[]->Q (.ref t) s)(h2:ws≠[]->Q (.ref s.heap.objs.size) {s with heap:=s.heap.push {cls:= .type "tuple",data:= .seq (vs++ws).toArray}})
  (hsz:vs.length+ws.length<=sizeLine):wpAny (model prog w) A (binaryOp .Add (.ref t) (.ref b)) Q E s:=by
 obtain⟨⟨cls,dd,data,sl⟩,ho,hc,n,hd⟩:=id ht
 obtain⟨⟨cls2,dd2,data2,sl2⟩,ho2,hc2,n2,hd2⟩:=id hb
 simp only at hc hd hc2 hd2
 subst hc hd hc2 hd2
 have e:vs.toArray++ws.toArray=(vs++ws).toArray:=by simp
 by_cases hw:ws=[]
 ·exact concat_meets ⟨_,ho,rfl⟩ ⟨_,ho2,rfl⟩ noFill_tuple_add seq_tuple_add PySem.F.slot_tuple_add PySem.F.entry_tuple_add (PySem.F.args_tuple_add_2 _ _)
   (tuple_addW1 t b vs.toArray ws.toArray n n2 dd dd2 sl sl2 (by simpa using hv) (by simp[hw])) ⟨ho,ho2,h1 hw⟩
 ·refine concat_meets ⟨_,ho,rfl⟩ ⟨_,ho2,rfl⟩ noFill_tuple_add seq_tuple_add PySem.F.slot_tuple_add PySem.F.entry_tuple_add (PySem.F.args_tuple_add_2 _ _)
   (tuple_addW2 t b vs.toArray ws.toArray n n2 dd dd2 sl sl2 (by simpa using hv) (by simpa using hw) (by rw[List.size_toArray,List.size_toArray];exact hsz)) ⟨ho,ho2,?_⟩
  rw[e]
  exact h2 hw
def sIx(n d:Nat):Option Int->Nat
 |none=>d
 |some v=>if v<0 then(v+(n:Int)).toNat else min v.toNat n
theorem Ch(n d:Nat)(hd:d<=n)(o:Option Int):sIx n d o<=n:=by
 cases o with
 |none=>exact hd
 |some v=>
  show(if v<0 then(v+(n:Int)).toNat else min v.toNat n)<=n
  by_cases hv:v<0
  ·rw[if_pos hv];omega
  ·rw[if_neg hv];exact Nat.min_le_right _ _
theorem uW(v:Int)(n d:Nat):(if v<0 then max (v+(n:Int)) 0 else min v (n:Int))=((sIx n d (some v):Nat):Int):=by
 show(if v<0 then max (v+(n:Int)) 0 else min v (n:Int))=(((if v<0 then(v+(n:Int)).toNat else min v.toNat n):Nat):Int)
 by_cases hv:v<0
 ·simp only[if_pos hv];omega
 ·simp only[if_neg hv];omega
theorem tK(lo hi:Option Int)(n:Nat):Builtin.Slice.sliceAdjust lo hi 1 (n:Int)=(((sIx n 0 lo:Nat):Int),((sIx n n hi:Nat):Int)):=by
 have h1:¬((1:Int)<0):=by omega
 unfold Builtin.Slice.sliceAdjust
 simp only[h1,if_false]
 refine Prod.ext ?_ ?_
 ·cases lo with
  |none=>rfl
  |some v=>exact uW v n 0
 ·cases hi with
  |none=>rfl
  |some v=>exact uW v n n
theorem uA(i j:Nat):Builtin.Slice.slicePlaces (i:Int) (j:Int) 1=j - i:=by
 unfold Builtin.Slice.slicePlaces
 have h1:(1:Int) > 0:=by omega
 simp only[h1,if_true,Int.ediv_one]
 split<;>omega
theorem og{v:Value}{o:Option Int}{Q:Option Int->Shared->Prop}(p:IsPart v o)(h:Q o s):wpAny (model prog w) A (Builtin.Slice.slicePartIndex v) Q E s:=by
 cases p with
 |none=>exact slicePart_none h
 |int i t=>exact slicePart_int h
theorem lf{sl:Addr}{vl vu:Value}{lo hi:Option Int}{n:Nat}{Q:Int×Int×Nat->Shared->Prop}(hs:s.heap.IsSliceOf sl vl vu .none)(pl:IsPart vl lo)(pu:IsPart vu hi)
  (h:Q (((sIx n 0 lo:Nat):Int),1,sIx n n hi - sIx n 0 lo) s):wpAny (model prog w) A (Builtin.Slice.sliceApplied (.ref sl) (pure (n:Int))) Q E s:=by
 obtain⟨os,hos,hcs,hds⟩:=id hs
 unfold Builtin.Slice.sliceApplied Builtin.Slice.sliceFields
 refine wpAny_bind (wpAny_bind (wpAny_field hos hds (x:=vl) rfl (wpAny_bind (wpAny_field hos hds (x:=vu) rfl (wpAny_bind (wpAny_field hos hds (x:= .none) rfl (wpAny_pure ?_)))))))
 refine wpAny_bind (slicePart_none ?_)
 show wpAny _ _ (if ((1:Int)==0)=true then _ else _) _ _ s
 rw[if_neg (by decide)]
 refine wpAny_bind (og pl (wpAny_bind (og pu (wpAny_bind (wpAny_pure ?_)))))
 show wpAny _ _ (match Builtin.Slice.sliceAdjust lo hi 1 (n:Int) with |(lo,hi)=>pure (lo,(1:Int),Builtin.Slice.slicePlaces lo hi 1)) _ _ s
 rw[tK lo hi n]
 show wpAny _ _ (pure (((sIx n 0 lo:Nat):Int),(1:Int),Builtin.Slice.slicePlaces ((sIx n 0 lo:Nat):Int) ((sIx n n hi:Nat):Int) 1)) _ _ s
 rw[uA]
 exact wpAny_pure h
theorem yM(xs:Array Value)(i k:Nat):((List.range k).filterMap fun(m:Nat)=>xs[((i:Int)+(m:Int)*1).toNat]?).toArray=((xs.toList.drop i).take k).toArray:=by
 have e:(fun(m:Nat)=>xs[((i:Int)+(m:Int)*1).toNat]?)=fun m=>xs[i+m]?:=by
  funext m
  have:((i:Int)+(m:Int)*1).toNat=i+m:=by omega
  rw[this]
 rw[e]
 have:=pick_run xs i k
 rw[List.filterMap_map] at this
 have e2:((fun x=>xs[x]?) ∘ fun x=>i+x)=fun m=>xs[i+m]?:=rfl
 rw[e2] at this
 rw[this]
theorem getItem_tuple_cut{t sl:Addr}{items:Array Value}{vl vu:Value}{lo hi:Option Int}{Q:Value->Shared->Prop}(ht:IsTup s.heap t items)(hs:s.heap.IsSliceOf sl vl vu .none)(pl:IsPart vl lo)(pu:IsPart vu hi)
  (hw:¬(sIx items.size 0 lo=0/\sIx items.size items.size hi=items.size))
  (h:Q (.ref s.heap.objs.size) {s with heap:=s.heap.push {cls:= .type "tuple",data:= .seq ((items.toList.drop (sIx items.size 0 lo)).take (sIx items.size items.size hi - sIx items.size 0 lo)).toArray}})
  (hsz:items.size<=sizeLine):wpAny (model prog w) A (getItem (.ref t) (.ref sl)) Q E s:=by
 have htake:sizeOk (.seq ((items.toList.drop (sIx items.size 0 lo)).take (sIx items.size items.size hi - sIx items.size 0 lo)).toArray):=by
  show((items.toList.drop (sIx items.size 0 lo)).take (sIx items.size items.size hi - sIx items.size 0 lo)).toArray.size<=sizeLine
  rw[List.size_toArray,List.length_take,List.length_drop,Array.length_toList]
  omega
 have hj:sIx items.size items.size hi<=items.size:=Ch _ _ (Nat.le_refl _) hi
 obtain⟨os,hos,hcs,hds⟩:=id hs
 have hTs:s.TypeIs (.ref sl) "slice":=⟨os,hos,hcs⟩
 unfold getItem
 try with_reducible refine wpAny_holding ?_
 first |refine wpAny_bind (wpAny_pure ?_) |skip
 refine wpAny_bind (wpAny_sequenceKey ht.typeIs (by decide) ?_)
 refine wpAny_bind (wpAny_callSpecial?_slot (name:=Str.ofString "__getitem__") ht.typeIs PyProof.Rows.slot_tuple_getitem
  (wpAny_call_entry PyProof.Rows.slot_tuple_getitem ht.typeIs entry_tuple_getitem ?_ (args_tuple_getitem _ _)))
 show wpAny _ _ (Builtin.Tuple.tupleItemsOf (.ref t) >>=_) _ _ s
 refine wpAny_bind (tupleItemsOf_ ht ?_)
 refine wpAny_bind (wpAny_typeOf hTs ?_)
 rw[if_pos (by decide)]
 refine wpAny_bind (lf hs pl pu ?_)
 have hno:¬((((sIx items.size 0 lo:Nat):Int)==0&&(1:Int)==1&&(sIx items.size items.size hi - sIx items.size 0 lo)==items.size)=true):=by
  intro q
  rw[Bool.and_eq_true,Bool.and_eq_true] at q
  have q1:((sIx items.size 0 lo:Nat):Int)=0:=eq_of_beq q.1.1
  have q2:sIx items.size items.size hi - sIx items.size 0 lo=items.size:=eq_of_beq q.2
  exact hw ⟨by omega,by omega⟩
 show wpAny _ _ (if (((sIx items.size 0 lo:Nat):Int)==0&&(1:Int)==1&&(sIx items.size items.size hi - sIx items.size 0 lo)==items.size)=true then _ else _) _ _ s
 rw[if_neg hno,yM]
 first
  |exact wpAny_bind (m:=Builtin.Tuple.tupleExact _) (wpAny_newObj_type (wpAny_pure ⟨_,rfl,wpAny_pure h⟩) htake)
  |exact wpAny_bind (m:=Builtin.Tuple.tupleExact _) (wpAny_newObj_type (wpAny_bind (wpAny_pure (wpAny_pure ⟨_,rfl,wpAny_pure h⟩))) htake)
  |exact wpAny_bind (wpAny_bind (m:=Builtin.Tuple.tupleExact _) (wpAny_newObj_type (wpAny_pure (wpAny_pure ⟨_,rfl,wpAny_pure h⟩)) htake))
  |exact wpAny_bind (wpAny_bind (m:=Builtin.Tuple.tupleExact _) (wpAny_newObj_type (wpAny_pure ⟨_,rfl,wpAny_pure h⟩) htake))
end
end HT
namespace L2
open PySem PySem.Spec PyProof.Rows
abbrev TO:=St->Hp->(Option Int->Hp->Prop)->Prop
def PO(X:Cx)(e:Option Expr)(t:TO):Prop:=
 ∀(pins:List (Addr×Obj)) (s:Shared) (σ:St) (H:Hp) (Q:Option Int->Hp->Prop),Inv X pins σ H s->t σ H Q->
  wpAny (model X.prog X.w) X.A (evalPart e X.env) (fun u s'=>∃o H',Inv X pins σ H' s'/\IsPart u o/\Q o H') X.xe s
def AR:TO:=fun _ H Q=>Q none H
def Bg(t:TE):TO:=fun σ H Q=>t σ H fun x H1=>∃i,x= .int i/\Q (some i) H1
section
variable {X : Cx} {e : Expr} {te : TE} {lo hi : Option Expr} {tl th : TO} {pos p2 : Pos}
theorem AG:PO X none AR:=by
 intro pins s σ H Q I h
 rw[evalPart_none]
 exact wpAny_pure ⟨none,H,I,.none,h⟩
theorem rq(h:PE X e te):PO X (some e) (Bg te):=by
 intro pins s σ H Q I hw
 rw[evalPart_some]
 refine thn (h pins s σ H _ I hw) fun u s1 ⟨x,H1,I1,r1,q1⟩=>?_
 obtain⟨i,rfl,q⟩:=q1
 obtain⟨t,rfl⟩:=r1
 exact⟨some i,H1,I1,.int i t,q⟩
def SlR(X:Cx)(r:V->Option Int->Option Int->Hp->VK->Prop):Prop:=
 ∀(pins:List (Addr×Obj)) (s:Shared) (σ:St) (H:Hp) (x:V) (v vl vu:Value) (lo hi:Option Int) (sl:Addr) (Q:VK),Inv X pins σ H s->RelV x v->s.heap.IsSliceOf sl vl vu .none->IsPart vl lo->IsPart vu hi->r x lo hi H Q->
  ∃T id,typeLookup (.type T) "__getitem__"=pure (some (.builtin id))/\s.TypeIs v T/\wpAny (model X.prog X.w) X.A (getItem v (.ref sl)) (EP X pins σ Q) X.xe s
def tSl(r:V->Option Int->Option Int->Hp->VK->Prop)(te:TE)(tl th:TO):TE:=fun σ H Q=>te σ H fun x H1=>tl σ H1 fun l H2=>th σ H2 fun u H3=>r x l u H3 Q
theorem sQ{r:V->Option Int->Option Int->Hp->VK->Prop}(hr:SlR X r)(he:PE X e te)(hl:PO X lo tl)(hu:PO X hi th):PE X (.Subscript e (.Slice lo hi none p2) pos) (tSl r te tl th):=by
 intro pins s σ H Q I h
 refine Subscript_ (thn (he pins s σ H _ I h) fun v s1 ⟨x,H1,I1,r1,q1⟩=>?_)
 refine wpAny_Slice (thn (hl pins s1 σ H1 _ I1 q1) fun vl s2 ⟨l,H2,I2,pl,q2⟩=>thn (hu pins s2 σ H2 _ I2 q2) fun vu s3 ⟨u,H3,I3,pu,q3⟩=>?_)
 rw[evalPart_none]
 refine wpAny_pure ?_
 have I4:Inv X pins σ H3 {s3 with heap:=s3.heap.push {cls:= .type "slice",data:= .fields #[vl,vu,.none]}}:=I3.kept (t':=s3.toks) fun b ob q=>Heap.get?_push_of_some _ q
 obtain⟨T,id,hT,ht,hg⟩:=hr pins {s3 with heap:=s3.heap.push {cls:= .type "slice",data:= .fields #[vl,vu,.none]}} σ H3 x v vl vu l u s3.heap.objs.size Q I4 r1 (Heap.IsSliceOf.new ..) pl pu q3
 show wpAny (model X.prog X.w) X.A (subscriptTail e (.Slice lo hi none p2) v (.ref s3.heap.objs.size)) (EP X pins σ Q) X.xe {s3 with heap:=s3.heap.push {cls:= .type "slice",data:= .fields #[vl,vu,.none]}}
 exact tail_any (ops:=[.ref s3.heap.objs.size,v]) ht hT hg (by with_unfolding_all rfl)
def lJ(xs:List V)(lo hi:Option Int):List V:=(xs.drop (HT.sIx xs.length 0 lo)).take (HT.sIx xs.length xs.length hi - HT.sIx xs.length 0 lo)
theorem lv(xs:List V)(lo hi:Option Int):(lJ xs lo hi).length<=xs.length:=by
 unfold lJ
 rw[List.length_take,List.length_drop]
 omega
def De(K:PySem.W.Frag):V->Option Int->Option Int->Hp->VK->Prop:=fun x lo hi H Q=>∃a xs,x= .ref a/\SqT K H a xs/\
 ¬(HT.sIx xs.length 0 lo=0/\HT.sIx xs.length xs.length hi=xs.length)/\∀p,H p=none->Q (.ref p) (upd H p (.tup (lJ xs lo hi)))
theorem Ci:SlR X (De X.K):=by
 intro pins s σ H x v vl vu lo hi sl Q I rx hs pl pu h
 obtain⟨a,xs,rfl,hx,hw,q⟩:=h
 cases rx
 obtain⟨its,r,ht,hz⟩:=I.tuple hx
 have hlen:its.toArray.size=xs.length:=by rw[List.size_toArray];exact r.length.symm
 refine⟨"tuple",_,PyProof.Rows.slot_tuple_getitem.lookup,ht.typeIs,?_⟩
 refine HT.getItem_tuple_cut ht hs pl pu (by rw[hlen];exact hw) ?_ (by rw[hlen];exact hz)
 rw[hlen]
 refine⟨.ref s.heap.objs.size,_,I.laid (t':=s.toks) (o:= .tup (lJ xs lo hi)) (fun b ob q=>Heap.get?_push_of_some _ q) (Nat.le_refl _) ?_,rfl,q _ (I.hok.fresh (Nat.le_refl _))⟩
 exact⟨Nat.le_trans (lv xs lo hi) hz,_,(r.drop (HT.sIx xs.length 0 lo)).take (HT.sIx xs.length xs.length hi - HT.sIx xs.length 0 lo),IsTup.new _ _⟩
def yP(K:PySem.W.Frag):R2:=fun x y H Q=>∃a b xs ys,x= .ref a/\y= .ref b/\SqT K H a xs/\SqT K H b ys/\xs≠[]/\xs.length+ys.length<=sizeLine/\
 (ys=[]->Q (.ref a) H)/\(ys≠[]->∀p,H p=none->Q (.ref p) (upd H p (.tup (xs++ys))))
theorem Vals.nil_iff{xs:List V}{us:List Value}(r:Vals xs us):us=[]↔xs=[]:=by
 cases r with
 |nil=>simp
 |cons _ _=>simp
theorem Az:OpR X (binaryOp .Add) (yP X.K):=by
 intro pins s σ H x y v u Q I rx ry h
 obtain⟨a,b,xs,ys,rfl,rfl,ha,hb,hx,hz,q1,q2⟩:=h
 cases rx
 cases ry
 obtain⟨its,r1,p1,_⟩:=I.tuple ha
 obtain⟨its2,r2,p2,_⟩:=I.tuple hb
 refine HT.cat_tup p1 p2 (fun z=>hx (r1.nil_iff.mp z)) (fun z=>⟨.ref a,H,I,rfl,q1 (r2.nil_iff.mp z)⟩) (fun z=>?_) (by rw[<-r1.length,<-r2.length];exact hz)
 refine⟨.ref s.heap.objs.size,_,I.laid (t':=s.toks) (o:= .tup (xs++ys)) (fun b ob q=>Heap.get?_push_of_some _ q) (Nat.le_refl _) ?_,rfl,q2 (fun w=>z (r2.nil_iff.mpr w)) _ (I.hok.fresh (Nat.le_refl _))⟩
 exact⟨by rw[List.length_append];exact hz,_,r1.append r2,IsTup.new _ _⟩
end
end L2
namespace L2
open PySem PySem.Spec PyProof.Rows
def ixN(n:Nat)(i:Int):Option Nat:=if 0<=i then(if i<n then some i.toNat else none) else if -(n:Int)<=i then some (i+n).toNat else none
def atI{α:Type}(xs:List α)(i:Int):Option α:=(ixN xs.length i).bind fun j=>xs[j]?
theorem vk{n:Nat}{i:Int}{j:Nat}(h:ixN n i=some j):seqIndex? i n=some j/\j<n/\ -(n:Int)<=i/\i<n:=by
 unfold ixN at h
 by_cases h0:0<=i
 ·rw[if_pos h0] at h
  by_cases h1:i<n
  ·rw[if_pos h1] at h
   have e:i.toNat=j:=Option.some.inj h
   exact⟨by rw[seqIndex_of h0 h1,e],by omega,by omega,h1⟩
  ·rw[if_neg h1] at h;cases h
 ·rw[if_neg h0] at h
  by_cases h1: -(n:Int)<=i
  ·rw[if_pos h1] at h
   have e:(i+n).toNat=j:=Option.some.inj h
   exact⟨by rw[seqIndex_neg (by omega) h1,e],by omega,h1,by omega⟩
  ·rw[if_neg h1] at h;cases h
theorem qo{α:Type}{xs:List α}{i:Int}{v:α}(h:atI xs i=some v):∃j,seqIndex? i xs.length=some j/\xs[j]?=some v/\j<xs.length/\ -(xs.length:Int)<=i/\i<xs.length:=by
 unfold atI at h
 cases e:ixN xs.length i with
 |none=>rw[e] at h;cases h
 |some j=>
  rw[e] at h
  obtain⟨h1,h2,h3,h4⟩:=vk e
  exact⟨j,h1,h,h2,h3,h4⟩
theorem bP{α:Type}{xs:List α}{j:Nat}{v:α}(h:xs[j]?=some v):atI xs (j:Int)=some v:=by
 have hj:j<xs.length:=(List.getElem?_eq_some_iff.mp h).1
 have e:ixN xs.length (j:Int)=some j:=by
  unfold ixN
  rw[if_pos (by omega),if_pos (by omega)];simp
 unfold atI;rw[e];exact h
def zz(b:Expr):Prop:=∀o i,subscripted b false o i=operate [o,i] (getItem o i)
def IxR(X:Cx)(r:R2):Prop:=
 ∀(value slice:Expr) (pins:List (Addr×Obj)) (s:Shared) (σ:St) (H:Hp) (x y:V) (v u:Value) (Q:VK),Inv X pins σ H s->RelV x v->RelV y u->r x y H Q->
  subscripted slice false v u=operate [v,u] (getItem v u)->wpAny (model X.prog X.w) X.A (subscriptTail value slice v u) (EP X pins σ Q) X.xe s
def MtR(X:Cx)(id:String)(r:V->List V->Hp->VK->Prop):Prop:=
 ∀(pins:List (Addr×Obj)) (s:Shared) (σ:St) (H:Hp) (x:V) (xs:List V) (v:Value) (us:List Value) (Q:VK),Inv X pins σ H s->RelV x v->Vals xs us->r x xs H Q->
  wpAny (model X.prog X.w) X.A (call (.builtin id) (v::us)) (EP X pins σ Q) X.xe s
section
variable {X : Cx} {a b : Expr} {ta tb : TE} {pos : Pos}
theorem IxR.or{r r':R2}(h:IxR X r)(h':IxR X r'):IxR X (fun x y H Q=>r x y H Q∨r' x y H Q):=by
 intro value slice pins s σ H x y v u Q I rx ry q hs
 rcases q with q |q
 ·exact h value slice pins s σ H x y v u Q I rx ry q hs
 ·exact h' value slice pins s σ H x y v u Q I rx ry q hs
theorem ax{r:R2}(hr:IxR X r)(ha:PE X a ta)(hb:PE X b tb)(hs:zz b):PE X (.Subscript a b pos) (tOp r ta tb):=by
 intro pins s σ H Q I h
 exact Subscript_ (Bn ha hb I h fun v u s2 x y H2 I2 rx ry q=>hr a b pins s2 σ H2 x y v u Q I2 rx ry q (hs _ _))
def iI(K:PySem.W.Frag):R2:=fun x y H Q=>∃p xs i v,x= .ref p/\y= .int i/\SqL K H p xs/\atI xs i=some v/\Q v H
def eF(K:PySem.W.Frag):R2:=fun x y H Q=>∃p xs i v,x= .ref p/\y= .int i/\SqT K H p xs/\atI xs i=some v/\Q v H
def BX:R2:=fun x y H Q=>∃z i c,x= .str z/\y= .int i/\z.length<=sizeLine/\atI z.cps.toList i=some c/\Q (.str ⟨#[c]⟩) H
theorem aI:IxR X (iI X.K):=by
 intro value slice pins s σ H x y v u Q I rx ry h hs
 obtain⟨p,xs,i,z,rfl,rfl,hq,he,q⟩:=h
 cases rx
 obtain⟨t,rfl⟩:=ry
 obtain⟨its,r,pl,hz⟩:=I.list hq
 obtain⟨j,h1,h2,h3,h4,h5⟩:=qo he
 obtain⟨w,ew,rw'⟩:=r.get h2
 have hl:=r.length
 have hn:=mV
 have fin:EP X pins σ Q w s:=⟨z,H,I,rw',q⟩
 by_cases h0:0<=i
 ·have hj:i.toNat=j:=by
   rw[seqIndex_of h0 h5] at h1
   exact Option.some.inj h1
  exact item_listR pl.isList h0 (by omega) (by rw[hj];simpa using ew) fin hs
 ·have hj:(i+(its.toArray.size:Int)).toNat=j:=by
   rw[seqIndex_neg (by omega) h4] at h1
   rw[List.size_toArray,<-hl]
   exact Option.some.inj h1
  exact subscriptTail_builtinR (x:=w) pl.isList.typeIs slot_list_getitem.lookup
   (wpAny_getItem_list_neg (Q:=fun r s'=>r=w/\EP X pins σ Q r s') pl.isList (by omega) (by rw[List.size_toArray]<;>omega) (by omega) (by rw[hj];simpa using ew) ⟨rfl,fin⟩) hs
theorem aA:IxR X (eF X.K):=by
 intro value slice pins s σ H x y v u Q I rx ry h hs
 obtain⟨p,xs,i,z,rfl,rfl,hq,he,q⟩:=h
 cases rx
 obtain⟨t,rfl⟩:=ry
 obtain⟨its,r,pl,hz⟩:=I.tuple hq
 obtain⟨j,h1,h2,h3,h4,h5⟩:=qo he
 obtain⟨w,ew,rw'⟩:=r.get h2
 have hl:=r.length
 have hn:=mV
 have fin:EP X pins σ Q w s:=⟨z,H,I,rw',q⟩
 exact subscriptTail_builtinR (x:=w) pl.typeIs slot_tuple_getitem.lookup
  (getItem_tuple (j:=j) (Q:=fun r s'=>r=w/\EP X pins σ Q r s') pl (by omega) (by omega) (by rw[List.size_toArray,<-hl];exact h1) (by simpa using ew) ⟨rfl,fin⟩) hs
theorem xD:IxR X BX:=by
 intro value slice pins s σ H x y v u Q I rx ry h hs
 obtain⟨z,i,c,rfl,rfl,hz,he,q⟩:=h
 obtain⟨t,rfl⟩:=rx
 obtain⟨t',rfl⟩:=ry
 obtain⟨j,h1,h2,h3,h4,h5⟩:=qo he
 have hl:z.cps.toList.length=z.length:=by simp[Str.length]
 rw[hl] at h1 h4 h5
 have hn:=mV
 exact tail_any (typeIs_str s z t) slot_str_getitem.lookup (getItem_str (c:=c) (by
  have e1:decide (i< -(2 ^ 63:Int))=false:=decide_eq_false (by omega)
  have e2:decide (i≥2 ^ 63)=false:=decide_eq_false (by omega)
  rw[e1,e2,Bool.or_false]) (by rw[h1];simpa using h2) ⟨.str ⟨#[c]⟩,H,I.tok _,⟨_,rfl⟩,q⟩) hs
def rIx(K:PySem.W.Frag):R2:=fun x y H Q=>iI K x y H Q∨eF K x y H Q∨BX x y H Q
theorem xC:IxR X (rIx X.K):=aI.or (aA.or xD)
theorem ud(its:List Value)(n j:Nat)(u:Value):Obj.mapSeq (·.setIfInBounds j u) {cls:= .type "list",data:= .seq its.toArray n}={cls:= .type "list",data:= .seq (its.set j u).toArray n}:=by
 simp[Obj.mapSeq]
theorem Inv.lst{pins:List (Addr×Obj)}{σ:St}{H:Hp}{s:Shared}{p:Addr}{xs:List V}(I:Inv X pins σ H s)(h:H p=some (.lst xs)):
  ∃(its:List Value) (n:Nat),Vals xs its/\s.heap.get? p=some {cls:= .type "list",data:= .seq its.toArray n}/\xs.length<=sizeLine:=by
 obtain⟨z,its,n,r,e⟩:=I.hok p _ h
 exact⟨its,n,r,e,z⟩
theorem Inv.lstUpd{pins:List (Addr×Obj)}{σ:St}{H:Hp}{s:Shared}{p:Addr}{xs ys:List V}{its its':List Value}{n n':Nat}{f:Obj->Obj}(I:Inv X pins σ H s)(h:H p=some (.lst xs))
  (ho:s.heap.get? p=some {cls:= .type "list",data:= .seq its.toArray n})(hf:f {cls:= .type "list",data:= .seq its.toArray n}={cls:= .type "list",data:= .seq its'.toArray n'})(r:Vals ys its')(hz:ys.length<=sizeLine)(t:Nat):
  Inv X pins σ (upd H p (.lst ys)) {s with heap:=s.heap.update p f,toks:=t}:=by
 have e:(s.heap.update p f).get? p=some {cls:= .type "list",data:= .seq its'.toArray n'}:=by
  rw[Heap.get?_update_self f ho (by rw[hf]<;>rfl),hf]
 refine I.write (x:=p) (e:=p) (by rw[h];trivial) (.inl rfl) (fun b u hb q=>(Heap.get?_update_other _ _ (Ne.symm hb)).trans q) ⟨_,e⟩ ?_
 exact⟨hz,its',n',r,e⟩
def pO:V->V->V->Hp->(Hp->Prop)->Prop:=fun o i v H Q=>∃p xs k j,o= .ref p/\i= .int k/\H p=some (.lst xs)/\ixN xs.length k=some j/\Q (upd H p (.lst (xs.set j v)))
theorem set_list:Co X pO:=by
 intro pins s σ H o i v ov iv u Q I ro ri rv h
 obtain⟨p,xs,k,j,rfl,rfl,hp,hj,q⟩:=h
 cases ro
 obtain⟨t,rfl⟩:=ri
 obtain⟨its,n,r,ho,hz⟩:=I.lst hp
 obtain⟨h1,h2,h3,h4⟩:=vk hj
 have hl:=r.length
 have hn:=mV
 have I':Inv X pins σ (upd H p (.lst (xs.set j v))) {s with heap:=s.heap.update p (Obj.mapSeq (·.setIfInBounds j u))}:=
  I.lstUpd hp ho (ud its n j u) (r.set rv j) (by rw[List.length_set];exact hz) s.toks
 by_cases h0:0<=k
 ·have hk:k.toNat=j:=by
   rw[seqIndex_of h0 h4] at h1
   exact Option.some.inj h1
  exact PySem.W.ki_setAt ho h0 (by omega) (by rw[List.size_toArray,<-hl];exact h4) (by rw[hk];exact⟨_,I',q⟩)
 ·have hk:(k+(its.toArray.size:Int)).toNat=j:=by
   rw[seqIndex_neg (by omega) h3] at h1
   rw[List.size_toArray,<-hl]
   exact Option.some.inj h1
  exact PySem.W.ki_setBack ho (by omega) (by rw[List.size_toArray,<-hl];exact h3) (by omega) (by rw[hk];exact⟨_,I',q⟩)
theorem rL(lo hi:Option Int)(n:Nat):(sliceBounds lo hi none n).1=((HT.sIx n 0 lo:Nat):Int)/\(sliceBounds lo hi none n).2.1=((HT.sIx n n hi:Nat):Int)/\(sliceBounds lo hi none n).2.2=1:=by
 refine⟨?_,?_,rfl⟩
 ·cases lo with
  |none=>simp[sliceBounds,HT.sIx]
  |some i=>
   simp only[sliceBounds,HT.sIx,Option.getD_none,show(1:Int) > 0 by decide,if_true]
   by_cases h:i<0
   ·simp only[h,if_true]<;>omega
   ·simp only[h,if_false]<;>omega
 ·cases hi with
  |none=>simp[sliceBounds,HT.sIx]
  |some i=>
   simp only[sliceBounds,HT.sIx,Option.getD_none,show(1:Int) > 0 by decide,if_true]
   by_cases h:i<0
   ·simp only[h,if_true]<;>omega
   ·simp only[h,if_false]<;>omega
theorem pp(its:List Value)(lo hi:Option Int):slicePick its.toArray lo hi none=((its.drop (HT.sIx its.length 0 lo)).take (HT.sIx its.length its.length hi - HT.sIx its.length 0 lo)).toArray:=by
 obtain⟨h1,h2,h3⟩:=rL lo hi its.toArray.size
 unfold slicePick
 rw[h1,h2,h3]
 simp only[sliceRange_one,pick_run,List.size_toArray]<;>rfl
def CS(K:PySem.W.Frag):V->Option Int->Option Int->Hp->VK->Prop:=fun x lo hi H Q=>∃a xs,x= .ref a/\SqL K H a xs/\∀p,H p=none->Q (.ref p) (upd H p (.lst (lJ xs lo hi)))
theorem AO:SlR X (CS X.K):=by
 intro pins s σ H x v vl vu lo hi sl Q I rx hs pl pu h
 obtain⟨a,xs,rfl,hx,q⟩:=h
 cases rx
 obtain⟨its,r,ht,hz⟩:=I.list hx
 have hlen:=r.length
 refine⟨"list",_,slot_list_getitem.lookup,ht.isList.typeIs,?_⟩
 refine wpAny_getItem_list_slice ht.isList hs pl pu .none (by simp) ?_ (by rw[List.size_toArray]<;>omega)
 rw[pp,<-hlen]
 refine⟨.ref s.heap.objs.size,_,I.laid (t':=s.toks) (o:= .lst (lJ xs lo hi)) (fun b ob q=>Heap.get?_push_of_some _ q) (Nat.le_refl _) ?_,rfl,q _ (I.hok.fresh (Nat.le_refl _))⟩
 exact⟨Nat.le_trans (lv xs lo hi) hz,_,0,(r.drop (HT.sIx xs.length 0 lo)).take (HT.sIx xs.length xs.length hi - HT.sIx xs.length 0 lo),Heap.get?_push_size _ rfl⟩
def ly:V->Bool
 | .non=>true
 | .bl _=>true
 | .int _=>true
 | .str _=>true
 |_=>false
def eqV:V->V->Bool
 | .non,.non=>true
 | .bl a,.bl b=>a==b
 | .bl a,.int b=>(if a then 1 else 0)==b
 | .int a,.bl b=>a==(if b then 1 else 0)
 | .int a,.int b=>a==b
 | .str a,.str b=>a==b
 |_,_=>false
theorem Bs{A:Around}{s:Shared}{y x:V}{u v:Value}(ry:RelV y u)(rx:RelV x v)(fy:ly y=true)(fx:ly x=true):SeqAt.EqAt A s u v (eqV y x):=by
 cases y with
 |non=>
  cases ry
  cases x with
  |non=>cases rx;exact SeqAt.EqAt.same _
  |bl b=>cases rx;exact SeqAt.EqAt.none_bool b
  |int b=>obtain⟨t,rfl⟩:=rx;exact SeqAt.EqAt.none_int b t
  |str b=>obtain⟨t,rfl⟩:=rx;exact SeqAt.EqAt.none_str b t
  |_=>exact absurd (show false=true from fx) Bool.false_ne_true
 |bl a=>
  cases ry
  cases x with
  |non=>cases rx;exact SeqAt.EqAt.bool_none a
  |bl b=>cases rx;exact SeqAt.EqAt.bool_bool a b
  |int b=>obtain⟨t,rfl⟩:=rx;exact SeqAt.EqAt.bool_int a b t
  |str b=>obtain⟨t,rfl⟩:=rx;exact SeqAt.EqAt.bool_str a b t
  |_=>exact absurd (show false=true from fx) Bool.false_ne_true
 |int a=>
  obtain⟨t',rfl⟩:=ry
  cases x with
  |non=>cases rx;exact SeqAt.EqAt.int_none a t'
  |bl b=>cases rx;exact SeqAt.EqAt.int_bool a t' b
  |int b=>obtain⟨t,rfl⟩:=rx;exact SeqAt.EqAt.int_int a t' b t
  |str b=>obtain⟨t,rfl⟩:=rx;exact SeqAt.EqAt.int_str a t' b t
  |_=>exact absurd (show false=true from fx) Bool.false_ne_true
 |str a=>
  obtain⟨t',rfl⟩:=ry
  cases x with
  |non=>cases rx;exact SeqAt.EqAt.str_none a t'
  |bl b=>cases rx;exact SeqAt.EqAt.str_bool a t' b
  |int b=>obtain⟨t,rfl⟩:=rx;exact SeqAt.EqAt.str_int a t' b t
  |str b=>obtain⟨t,rfl⟩:=rx;exact SeqAt.EqAt.str_str a t' b t
  |_=>exact absurd (show false=true from fx) Bool.false_ne_true
 |_=>exact absurd (show false=true from fy) Bool.false_ne_true
def eqU(x:V)(u:Value):Bool:=match u with
 | .none=>eqV .non x
 | .bool b=>eqV (.bl b) x
 | .int i _=>eqV (.int i) x
 | .str z _=>eqV (.str z) x
 |_=>false
theorem xn{x y:V}{u:Value}(r:RelV y u)(f:ly y=true):eqU x u=eqV y x:=by
 cases y with
 |non=>cases r;rfl
 |bl b=>cases r;rfl
 |int i=>obtain⟨t,rfl⟩:=r;rfl
 |str z=>obtain⟨t,rfl⟩:=r;rfl
 |_=>exact absurd (show false=true from f) Bool.false_ne_true
theorem qk{x:V}:∀{xs:List V} {us:List Value},Vals xs us->xs.all ly=true->us.any (eqU x)=xs.any fun y=>eqV y x
 |_,_,.nil,_=>rfl
 |y::xs,u::us,.cons r t,f=>by
  rw[List.all_cons,Bool.and_eq_true] at f
  rw[List.any_cons,List.any_cons,xn r f.1,qk t f.2]
theorem ng{A:Around}{s:Shared}{x:V}{v:Value}(rx:RelV x v)(fx:ly x=true):∀{xs:List V} {us:List Value},Vals xs us->xs.all ly=true->∀u∈us,SeqAt.EqAt A s u v (eqU x u)
 |_,_,.nil,_=>fun u hu=>by cases hu
 |y::xs,u::us,.cons r t,f=>fun u' hu=>by
  rw[List.all_cons,Bool.and_eq_true] at f
  rcases List.mem_cons.mp hu with rfl |hu
  ·rw[xn r f.1];exact Bs r rx f.1 fx
  ·exact ng rx fx t f.2 u' hu
def inV(x:V)(xs:List V):Bool:=xs.any fun y=>eqV y x
def rIn(K:PySem.W.Frag)(neg:Bool):R2:=fun x y H Q=>∃p xs,y= .ref p/\(SqL K H p xs∨SqT K H p xs)/\ly x=true/\xs.all ly=true/\Q (.bl (if neg then !inV x xs else inV x xs)) H
theorem pK:OpR X (compareOp .In) (rIn X.K false):=by
 intro pins s σ H x y v u Q I rx ry h
 obtain⟨p,xs,rfl,hq,fx,fs,q⟩:=h
 cases ry
 rcases hq with hq |hq
 ·obtain⟨its,r,pl,hz⟩:=I.list hq
  refine SeqAt.in_listAt (eqU x) pl.isList (fun w hw=>ng rx fx r fs w (by simpa using hw)) ⟨.bl _,H,I,rfl,?_⟩
  rw[show its.toArray.any (eqU x)=its.any (eqU x) by simp,qk r fs]
  exact q
 ·obtain⟨its,r,pl,hz⟩:=I.tuple hq
  refine SeqAt.in_tupleAt (eqU x) pl (fun w hw=>ng rx fx r fs w (by simpa using hw)) ⟨.bl _,H,I,rfl,?_⟩
  rw[show its.toArray.any (eqU x)=its.any (eqU x) by simp,qk r fs]
  exact q
theorem bb:ic X (.builtin "len") (fun xs H Q=>∃p ys,xs=[.ref p]/\(SqL X.K H p ys∨SqT X.K H p ys)/\Q (.int ys.length) H):=by
 intro pins s σ H xs us Q I r h
 obtain⟨p,ys,rfl,hq,q⟩:=h
 obtain⟨u,rfl,rx⟩:=vals1 r
 cases rx
 have hn:=mV
 rcases hq with hq |hq
 ·obtain⟨its,r',pl,hz⟩:=I.list hq
  have hlen:=r'.length
  exact Calls.call_len_list pl.isList (by simp only[List.size_toArray]<;>omega) ⟨.int ys.length,H,I.tok _,⟨s.toks+1,by rw[List.size_toArray,hlen]⟩,q⟩
 ·obtain⟨its,r',pl,hz⟩:=I.tuple hq
  have hlen:=r'.length
  exact len_tuple pl (by simp only[List.size_toArray]<;>omega) ⟨.int ys.length,H,I.tok _,⟨s.toks+1,by rw[List.size_toArray,hlen]⟩,q⟩
theorem jB:ic X (.type "list") (fun xs H Q=>∃p ys,xs=[.ref p]/\(SqL X.K H p ys∨SqT X.K H p ys)/\∀l,H l=none->Q (.ref l) (upd H l (.lst ys))):=by
 intro pins s σ H xs us Q I r h
 obtain⟨p,ys,rfl,hq,q⟩:=h
 obtain⟨u,rfl,rx⟩:=vals1 r
 cases rx
 have fin:∀(its:List Value),Vals ys its->ys.length<=sizeLine->∀(h':Heap) (c':Nat),(∀b o',s.heap.get? b=some o'->h'.get? b=some o')->
   h'.get? s.heap.objs.size=some {cls:= .type "list",dict:=none,data:= .seq its.toArray c',slots:= #[]}->EP X pins σ Q (.ref s.heap.objs.size) {s with heap:=h'}:=fun its r' hz h' c' kp e=>
  ⟨.ref s.heap.objs.size,_,I.laid (t':=s.toks) kp (Nat.le_refl _) (show ba X.prog X.w _ h' _ (.lst ys) from⟨hz,its,c',r',e⟩),rfl,q _ (I.hok.fresh (Nat.le_refl _))⟩
 rcases hq with hq |hq
 ·obtain⟨its,r',pl,hz⟩:=I.list hq
  have hlen:=r'.length
  obtain⟨o,ho,hc,n,hd⟩:=pl.isList
  exact call_list_seq p (.inl rfl) ho hc hd (fun h' c' kp e=>fin its r' hz h' c' kp e) (by simp only[List.size_toArray]<;>omega)
 ·obtain⟨its,r',pl,hz⟩:=I.tuple hq
  have hlen:=r'.length
  obtain⟨o,ho,hc,n,hd⟩:=pl
  exact call_list_seq p (.inr rfl) ho hc hd (fun h' c' kp e=>fin its r' hz h' c' kp e) (by simp only[List.size_toArray]<;>omega)
def tyV(K:PySem.W.Frag)(T:String)(x:V)(H:Hp):Prop:=match x with
 | .str _=>T="str"
 | .int _=>T="int"
 | .ref p=>(T="list"/\∃xs,SqL K H p xs)∨(T="tuple"/\∃o,K.lookup p=some o/\o.cls= .type "tuple"/\o.dict=none)∨
   (T="dict"/\((∃kvs,H p=some (.dK kvs))∨∃kvs,H p=some (.dT kvs)))∨(T="set"/\∃S n,H p=some (.set S n))
 |_=>False
theorem Cl{pins:List (Addr×Obj)}{σ:St}{H:Hp}{s:Shared}{T:String}{x:V}{v:Value}(I:Inv X pins σ H s)(r:RelV x v)(ty:tyV X.K T x H):
  s.TypeIs v T/\∀a,v= .ref a->∃ob,s.heap.get? a=some ob/\ob.dict=none:=by
 cases x with
 |str z=>
  obtain⟨t,rfl⟩:=r
  cases (show T="str" from ty)
  exact⟨typeIs_str s z t,fun _ e=>nomatch e⟩
 |int i=>
  obtain⟨t,rfl⟩:=r
  cases (show T="int" from ty)
  exact⟨typeIs_int s i t,fun _ e=>nomatch e⟩
 |ref p=>
  cases r
  rcases ty with ⟨rfl,xs,hq⟩ |⟨rfl,o,hk,hc,hd⟩ |⟨rfl,hk⟩ |⟨rfl,S,n,hk⟩
  ·obtain⟨its,_,pl,_⟩:=I.list hq
   refine⟨pl.isList.typeIs,fun a e=>?_⟩
   cases e
   obtain⟨o,n,e,c,hd,_⟩:=pl
   exact⟨o,e,hd⟩
  ·refine⟨⟨o,I.kIn p o hk,hc⟩,fun a e=>?_⟩
   cases e
   exact⟨o,I.kIn _ o hk,hd⟩
  ·have z:∃o,s.heap.get? p=some o/\o.ExactDict:=by
    rcases hk with ⟨kvs,hk⟩ |⟨kvs,hk⟩
    ·obtain⟨_,_,_,_,o,_,_,e,ex,_⟩:=I.hok p _ hk
     exact⟨o,e,ex⟩
    ·obtain⟨_,_,_,_,o,_,_,e,ex,_⟩:=I.hok p _ hk
     exact⟨o,e,ex⟩
   obtain⟨o,e,ex⟩:=z
   refine⟨⟨o,e,ex.1⟩,fun a e2=>?_⟩
   cases e2
   exact⟨o,e,ex.2.1⟩
  ·obtain⟨o,_,_,_,e,ex,_⟩:=I.hok p _ hk
   refine⟨⟨o,e,ex.1⟩,fun a e2=>?_⟩
   cases e2
   exact⟨o,e,ex.2.1⟩
 |_=>exact False.elim ty
def tBM0(K:PySem.W.Frag)(T:String)(r:V->List V->Hp->VK->Prop)(to:TE):TE:=fun σ H Q=>to σ H fun x H1=>tyV K T x H1/\r x [] H1 Q
def tBM(K:PySem.W.Frag)(T:String)(r:V->List V->Hp->VK->Prop)(to:TE)(t:TA):TE:=fun σ H Q=>to σ H fun x H1=>tyV K T x H1/\t σ H1 fun xs H2=>r x xs H2 Q
variable {o e : Expr} {es : List Expr} {to : TE} {t : TA} {name : Str} {apos cpos : Pos} {T id : String} {r : V → List V → Hp → VK → Prop}
theorem pN(pa:PlainAttrs T)(slot:Slot T name id)(hty:typeOf (.builtin id)=pure (.type "method_descriptor"))(hm:MtR X id r)(ho:PE X o to)(ha:PA X (e::es) t)
  (hbase:attributeBase o name X.env (eval o X.env)=eval o X.env:=by rfl)
  (hfew:((backTo cpos (starEach (e::es) X.env)).all (fun x=> !x.1)&&(backToKw cpos (keywordEach [] X.env)).all (fun x=>x.1.isSome)
   &&decide ((e::es).length+([]:List Keyword).length+(if ([]:List Keyword).isEmpty then 0 else 1)<30))=true:=by rfl)
  (hline:(apos.endLine==cpos.line)=true:=by rfl)(hs:starEach (e::es) X.env=(false,eval e X.env)::starEach es X.env:=by rfl)(hplain:(backTo cpos (starEach es X.env)).any (·.1)=false:=by rfl):
  PE X (.Call (.Attribute o name apos) (e::es) [] cpos) (tBM X.K T r to t):=by
 intro pins s σ H Q I h
 refine wpAny_Call_method_late hbase hfew hline rfl (thn (ho pins s σ H _ I h) fun v s1 ⟨x,H1,I1,r1,ty,q1⟩=>?_)
 obtain⟨h1,h2⟩:=Cl I1 r1 ty
 refine⟨T,id,pa,slot,hty,h1,h2,?_⟩
 have hA:=ha cpos pins s1 σ H1 _ I1 q1
 rw[hs] at hA ⊢
 refine Calls.callWith_builtin (by show(false||(backTo cpos (starEach es X.env)).any (·.1))=false;rw[hplain]<;>rfl) (Calls.evalArgs_plain ?_)
 exact thn hA fun us s2 ⟨vs,H2,I2,r2,q2⟩=>hm pins s2 σ H2 x vs v us Q I2 r1 r2 q2
/- xs.append(e), list.index on a module's tuple .. are MtR facts of 06m -/
end
end L2
namespace L2
open PySem PySem.Spec PyProof.Rows
def MtM(X:Cx)(id:String)(r:V->List V->Hp->VK->Prop):Prop:=
 ∀(pins:List (Addr×Obj)) (s:Shared) (σ:St) (H:Hp) (x:V) (xs:List V) (v:Value) (us:List Value) (Q:VK),Inv X pins σ H s->RelV x v->Vals xs us->r x xs H Q->
  wpAny (model X.prog X.w) X.A (call (.builtin id) (v::us)) (EP X pins σ Q) X.xe s
theorem Vals.one:∀{x:V} {us:List Value},Vals [x] us->∃u,us=[u]/\RelV x u
 |_,_,.cons r .nil=>⟨_,rfl,r⟩
theorem Vals.rep{xs:List V}{us:List Value}(h:Vals xs us):∀k:Nat,Vals (List.replicate k xs).flatten (List.replicate k us).flatten
 |0=> .nil
 |k+1=>by
  rw[List.replicate_succ,List.replicate_succ,List.flatten_cons,List.flatten_cons]
  exact Vals.append h (Vals.rep h k)
theorem foldl_rep(its:List Value):∀(k:Nat) (acc:List Value),
  List.foldl (fun x1 x2=>x1++x2) acc.toArray (List.replicate k its.toArray)=(acc++(List.replicate k its).flatten).toArray
 |0,acc=>by simp
 |k+1,acc=>by
  have e:acc.toArray++its.toArray=(acc++its).toArray:=by simp
  have e2:(acc++its)++(List.replicate k its).flatten=acc++(List.replicate (k+1) its).flatten:=by
   rw[List.replicate_succ,List.flatten_cons,List.append_assoc]
  rw[<-e2,<-foldl_rep its k (acc++its),<-e,List.replicate_succ,List.foldl_cons]
section
variable {X : Cx} {pins : List (Addr × Obj)} {σ : St} {H : Hp} {s : Shared} {l b : Addr} {xs ys zs : List V}
theorem Inv.lset{its its':List Value}{n:Nat}{f:Array Value->Array Value}{t':Nat}(I:Inv X pins σ H s)(hH:H l=some (.lst xs))
  (e:s.heap.get? l=some {cls:= .type "list",data:= .seq its.toArray n})(hf:f its.toArray=its'.toArray)(hv:Vals ys its')(hz:ys.length<=sizeLine):
  Inv X pins σ (upd H l (.lst ys)) {s with heap:=s.heap.update l (Obj.mapSeq f),toks:=t'}:=by
 have q:=PySem.IsL.update e f
 rw[hf] at q
 refine I.write (x:=l) (e:=l) (by rw[hH];exact trivial) (.inl rfl) (fun b' u hb hu=>(Heap.get?_update_other s.heap (Obj.mapSeq f) (Ne.symm hb)).trans hu) ⟨_,q⟩ ?_
 exact⟨hz,its',_,hv,q⟩
theorem Inv.lnew{its:List Value}{t':Nat}(I:Inv X pins σ H s)(hv:Vals ys its)(hz:ys.length<=sizeLine):
  Inv X pins σ (upd H s.heap.objs.size (.lst ys)) {s with heap:=s.heap.push {cls:= .type "list",data:= .seq its.toArray},toks:=t'}:=
 I.laid (fun _ _ q=>Heap.get?_push_of_some _ q) (Nat.le_refl _) ⟨hz,its,0,hv,Heap.get?_push_size _ rfl⟩
theorem Inv.fresh(I:Inv X pins σ H s):H s.heap.objs.size=none:=I.hok.fresh (Nat.le_refl _)
theorem Inv.lstM(I:Inv X pins σ H s)(hH:H l=some (.lst xs)):xs.length<=sizeLine/\∃(its:List Value) (n:Nat),Vals xs its/\xs.length=its.length/\s.heap.get? l=some {cls:= .type "list",data:= .seq its.toArray n}:=by
 obtain⟨z,its,n,r,e⟩:=I.hok l _ hH
 exact⟨z,its,n,r,r.length,e⟩
theorem yg{n:Nat}(h:n<=sizeLine):Builtin.List.listTooLong n=false:=by
 unfold Builtin.List.listTooLong
 exact decide_eq_false (by omega)
end
section
variable {X : Cx}
def rB:V->List V->Hp->VK->Prop:=fun x vs H Q=>∃l xs y,x= .ref l/\vs=[y]/\H l=some (.lst xs)/\xs.length<sizeLine/\Q .non (upd H l (.lst (xs++ [y])))
theorem dX:MtM X "list.append" rB:=by
 intro pins s σ H x vs v us Q I rx rv h
 obtain⟨l,xs,y,rfl,rfl,hH,hz,q⟩:=h
 cases rx
 obtain⟨u,rfl,ru⟩:=rv.one
 obtain⟨z,its,n,r,hl,e⟩:=I.lstM hH
 refine call_meets F.slot_list_append ⟨_,e,rfl⟩ F.entry_list_append (F.args_list_append_2 _ _) (PySem.list_append l its.toArray n u (by rw[List.size_toArray];omega)) ⟨e,?_⟩
 refine⟨.non,_,I.lset (its':=its++ [u]) hH e (by simp) (r.append (.cons ru .nil)) ?_,rfl,q⟩
 rw[List.length_append,List.length_singleton]
 omega
def CN:R2:=fun x y H Q=>∃l b xs zs,x= .ref l/\y= .ref b/\H l=some (.lst xs)/\H b=some (.lst zs)/\xs.length+zs.length<=sizeLine/\∀p,H p=none->Q (.ref p) (upd H p (.lst (xs++zs)))
theorem yA:OpR X (binaryOp .Add) CN:=by
 intro pins s σ H x y v u Q I rx ry h
 obtain⟨l,b,xs,zs,rfl,rfl,hH,hB,hz,q⟩:=h
 cases rx
 cases ry
 obtain⟨z,its,n,r,hl,e⟩:=I.lstM hH
 obtain⟨z2,its2,n2,r2,hl2,e2⟩:=I.lstM hB
 refine PySem.P.add_list e e2 ?_ (by rw[List.size_toArray,List.size_toArray];omega)
 have ea:its.toArray++its2.toArray=(its++its2).toArray:=by simp
 rw[ea]
 exact⟨.ref _,_,I.lnew (t':=s.toks) (r.append r2) (by rw[List.length_append];omega),rfl,q _ I.fresh⟩
def CQ:R2:=fun x y H Q=>∃l k xs,x= .ref l/\y= .int k/\H l=some (.lst xs)/\ -(2 ^ 63)<=k/\k<2 ^ 63/\xs.length*k.toNat<=sizeLine/\
 ∀p,H p=none->Q (.ref p) (upd H p (.lst (List.replicate k.toNat xs).flatten))
theorem len_rep{α:Type}(xs:List α)(k:Nat):(List.replicate k xs).flatten.length=k*xs.length:=by
 induction k with
 |zero=>simp
 |succ k ih=>rw[List.replicate_succ,List.flatten_cons,List.length_append,ih,Nat.succ_mul,Nat.add_comm]
theorem yC:OpR X (binaryOp .Mult) CQ:=by
 intro pins s σ H x y v u Q I rx ry h
 obtain⟨l,k,xs,rfl,rfl,hH,h1,h2,hz,q⟩:=h
 cases rx
 obtain⟨t,rfl⟩:=ry
 obtain⟨z,its,n,r,hl,e⟩:=I.lstM hH
 have hlen:its.toArray.size*k.toNat<=sizeLine:=by rw[List.size_toArray,<-hl];exact hz
 have hcap:¬its.toArray.size*k.toNat > (2 ^ 63 - 1) / 8:=by
  have:(sizeLine:Nat)<=(2 ^ 63 - 1) / 8:=by decide
  omega
 have hfit:¬(!Builtin.List.listFitsIndex k)=true:=by
  rw[fitsIndex_both h1 h2]
  exact Bool.false_ne_true
 have hlong:¬Builtin.List.listTooLong (its.toArray.size*k.toNat)=true:=by
  rw[yg hlen]
  exact Bool.false_ne_true
 have hnew:List.foldl (fun x1 x2=>x1++x2) #[] (List.replicate (if its.toArray.isEmpty=true then 0 else k.toNat) its.toArray)=(List.replicate k.toNat its).flatten.toArray:=by
  have f0:∀m:Nat,List.foldl (fun x1 x2=>x1++x2) #[] (List.replicate m its.toArray)=(List.replicate m its).flatten.toArray:=fun m=>by
   have:=foldl_rep its m []
   rw[List.nil_append] at this
   exact this
  rw[f0]
  cases its with
  |nil=>simp
  |cons a r'=>rw[if_neg (by simp)]
 refine wpAny_binaryOp_repeat_ref (T:="list") (U:="int") (by decide) ⟨_,e,rfl⟩ (fun s'=>typeIs_int s' k t) noFill_list_mul F.fills_int_mul F.slot_int_rmul repeat_list F.slot_int_index.lookup
  (call_meets F.slot_int_rmul (typeIs_int s k t) F.entry_int_rmul (F.args_int_rmul_2 _ _) (int___rmul___int_list k t l its.toArray n)
   ⟨e,rfl,⟨_,e,rfl⟩,call_meets F.slot_list_mul ⟨_,e,rfl⟩ F.entry_list_mul (F.args_list_mul_2 _ _) (AutoListH.list___mul___list_int_3 l its.toArray n k t hfit hcap hlong) ⟨e,?_⟩⟩)
 rw[hnew]
 exact⟨.ref _,_,I.lnew (t':=s.toks) (r.rep k.toNat) (by rw[len_rep,Nat.mul_comm];exact hz),rfl,q _ I.fresh⟩
end
end L2
namespace L2
open PySem PySem.Spec PyProof.Rows
section
variable {κ : Type} [DecidableEq κ]
def valV(kvs:List (κ×V))(k:κ):Option V:=(kvs.find? fun kv=>decide (kv.1=k)).map (·.2)
def putK(kvs:List (κ×V))(k:κ)(v:V):List (κ×V):=
 if (kvs.any fun kv=>decide (kv.1=k))=true then kvs.map (fun kv=>if kv.1=k then(kv.1,v) else kv) else kvs++ [(k,v)]
def cj(kvs:List (κ×V))(k:κ):List (κ×V):=kvs.filter fun kv=>decide (kv.1≠k)
theorem bN{p:κ×V}{r:List (κ×V)}{k:κ}(e:p.1=k):valV (p::r) k=some p.2:=by simp[valV,List.find?_cons,e]
theorem bD{p:κ×V}{r:List (κ×V)}{k:κ}(e:¬p.1=k):valV (p::r) k=valV r k:=by simp[valV,List.find?_cons,e]
theorem eI(k:κ):∀kvs:List (κ×V),(kvs.any fun kv=>decide (kv.1=k))=(valV kvs k).isSome
 | []=>rfl
 |p::r=>by
  rw[List.any_cons]
  by_cases e:p.1=k
  ·simp only[bN e,decide_eq_true e,Bool.true_or,Option.isSome_some]
  ·rw[bD e,decide_eq_false e,Bool.false_or];exact eI k r
theorem tq(k j:κ)(y:V):∀kvs:List (κ×V),valV (kvs.map fun kv=>if kv.1=k then(kv.1,y) else kv) j=(valV kvs j).map fun x=>if j=k then y else x
 | []=>rfl
 |p::r=>by
  have ih:=tq k j y r
  rw[List.map_cons]
  by_cases h:p.1=k
  ·rw[if_pos h]
   by_cases e:p.1=j
   ·rw[bN (p:=(p.1,y)) e,bN e,Option.map_some,if_pos (e.symm.trans h)]
   ·rw[bD (p:=(p.1,y)) e,bD e,ih]
  ·rw[if_neg h]
   by_cases e:p.1=j
   ·rw[bN (p:=p) e,bN e,Option.map_some,if_neg (fun z=>h (e.trans z))]
   ·rw[bD (p:=p) e,bD e,ih]
theorem pU(k j:κ)(y:V):∀kvs:List (κ×V),valV kvs k=none->valV (kvs++ [(k,y)]) j=if j=k then some y else valV kvs j
 | [],_=>by
  by_cases e:k=j
  ·rw[if_pos e.symm];exact bN (p:=(k,y)) e
  ·rw[if_neg (fun z=>e z.symm)];exact bD (p:=(k,y)) e
 |p::r,hn=>by
  rw[List.cons_append]
  have hk:¬p.1=k:=fun z=>by rw[bN z] at hn;cases hn
  rw[bD hk] at hn
  have ih:=pU k j y r hn
  by_cases e:p.1=j
  ·rw[bN e,bN e,if_neg (fun z=>hk (e.trans z))]
  ·rw[bD e,bD e,ih]
theorem fZ(kvs:List (κ×V))(k j:κ)(y:V):valV (putK kvs k y) j=if j=k then some y else valV kvs j:=by
 unfold putK
 by_cases a:(kvs.any fun kv=>decide (kv.1=k))=true
 ·rw[if_pos a,tq]
  rw[eI] at a
  by_cases e:j=k
  ·obtain⟨x,hx⟩:=Option.isSome_iff_exists.mp a
   rw[if_pos e,e,hx,Option.map_some,if_pos rfl]
  ·rw[if_neg e]
   cases valV kvs j with
   |none=>rfl
   |some x=>rw[Option.map_some,if_neg e]
 ·rw[if_neg a]
  refine pU k j y kvs ?_
  rw[eI] at a
  cases q:valV kvs k with
  |none=>rfl
  |some x=>rw[q] at a;exact(a rfl).elim
theorem iy(kvs:List (κ×V))(k:κ)(v:V):(putK kvs k v).length<=kvs.length+1:=by
 unfold putK
 split
 ·rw[List.length_map];omega
 ·rw[List.length_append,List.length_cons,List.length_nil];omega
theorem sT{kvs:List (κ×V)}{k:κ}(v:V)(h:valV kvs k=none):putK kvs k v=kvs++ [(k,v)]:=by
 unfold putK
 rw[eI,h]
 exact if_neg (by decide)
theorem gz.isSome_eq{o:Option V}{u:Option Value}(r:gz o u):o.isSome=u.isSome:=by
 cases o with
 |none=>cases u with
  |none=>rfl
  |some _=>exact(show False from r).elim
 |some _=>cases u with
  |none=>exact(show False from r).elim
  |some _=>rfl
theorem gz.getD{o:Option V}{u:Option Value}{d:V}{d':Value}(r:gz o u)(rd:RelV d d'):RelV (o.getD d) (u.getD d'):=by
 cases o with
 |none=>cases u with
  |none=>exact rd
  |some _=>exact(show False from r).elim
 |some _=>cases u with
  |none=>exact(show False from r).elim
  |some _=>exact r
theorem KV.val{kvs:List (κ×V)}{vs:List (κ×Value)}(r:KV kvs vs)(k:κ):gz (valV kvs k) (valueAt vs k):=by
 unfold KV at r
 induction r with
 |nil=>exact True.intro
 | @cons p q ps qs h t ih=>
  obtain⟨h1,h2⟩:=h
  by_cases e:p.1=k
  ·have e':q.1=k:=h1.symm.trans e
   have b:valueAt (q::qs) k=some q.2:=by simp[valueAt,List.find?_cons,e']
   rw[bN e,b];exact h2
  ·have e':¬q.1=k:=fun z=>e (h1.trans z)
   have b:valueAt (q::qs) k=valueAt qs k:=by simp[valueAt,List.find?_cons,e']
   rw[bD e,b];exact ih
theorem KV.any{kvs:List (κ×V)}{vs:List (κ×Value)}(r:KV kvs vs)(k:κ):(kvs.any fun kv=>decide (kv.1=k))=vs.any fun kv=>decide (kv.1=k):=by
 unfold KV at r
 induction r with
 |nil=>rfl
 |cons h t ih=>rw[List.any_cons,List.any_cons,ih,h.1]
theorem KV.repl{kvs:List (κ×V)}{vs:List (κ×Value)}(r:KV kvs vs)(k:κ){y:V}{u:Value}(ry:RelV y u):
  KV (kvs.map fun kv=>if kv.1=k then(kv.1,y) else kv) (vs.map fun kv=>if kv.1=k then(kv.1,u) else kv):=by
 unfold KV at r ⊢
 induction r with
 |nil=>exact .nil
 | @cons p q ps qs h t ih=>
  rw[List.map_cons,List.map_cons]
  refine .cons ?_ ih
  obtain⟨h1,h2⟩:=h
  by_cases e:p.1=k
  ·rw[if_pos e,if_pos (h1.symm.trans e)];exact⟨h1,ry⟩
  ·rw[if_neg e,if_neg (fun z=>e (h1.trans z))];exact⟨h1,h2⟩
theorem KV.put{kvs:List (κ×V)}{vs:List (κ×Value)}(r:KV kvs vs)(k:κ){y:V}{u:Value}(ry:RelV y u):KV (putK kvs k y) (stored vs k u):=by
 unfold putK stored
 rw[r.any k]
 by_cases e:(vs.any fun kv=>decide (kv.1=k))=true
 ·rw[if_pos e,if_pos e];exact r.repl k ry
 ·rw[if_neg e,if_neg e];exact Paired.snoc r ⟨rfl,ry⟩
theorem KV.drop{kvs:List (κ×V)}{vs:List (κ×Value)}(r:KV kvs vs)(k:κ):KV (cj kvs k) (without vs k):=by
 unfold KV at r ⊢
 unfold cj without
 induction r with
 |nil=>exact .nil
 | @cons p q ps qs h t ih=>
  obtain⟨h1,h2⟩:=h
  rw[List.filter_cons,List.filter_cons]
  by_cases e:p.1=k
  ·have a:¬decide (p.1≠k)=true:=by simp[e]
   have b:¬decide (q.1≠k)=true:=by simp[h1.symm.trans e]
   rw[if_neg a,if_neg b];exact ih
  ·have e':¬q.1=k:=fun z=>e (h1.trans z)
   have a:decide (p.1≠k)=true:=by simp[e]
   have b:decide (q.1≠k)=true:=by simp[e']
   rw[if_pos a,if_pos b];exact .cons ⟨h1,h2⟩ ih
theorem KV.length{kvs:List (κ×V)}{vs:List (κ×Value)}(r:KV kvs vs):kvs.length=vs.length:=Paired.length r
theorem xm(kvs:List (κ×V))(k:κ):(cj kvs k).length<=kvs.length:=List.length_filter_le _ _
end
theorem jd{P:Program}{w:World}{k:Key}{u:Value}(r:RelV (kV k) u):(aQ P w).is k u=true:=by
 cases k with
 |inl i=>obtain⟨t,e⟩:=(show ∃t,u=Value.int i t from r);subst e;exact sH P w i t
 |inr x=>obtain⟨t,e⟩:=(show ∃t,u=Value.str x t from r);subst e;exact sI P w x t
theorem pF{P:Program}{w:World}:∀{ks:List Key} {us:List Value},Vals (ks.map kV) us->ItemsAre (aQ P w) ks us
 | [],_,r=>by rw[List.map_nil] at r;cases r;exact .nil
 |k::ks,_,r=>by
  rw[List.map_cons] at r
  cases r with
  |cons h t=>exact .cons (jd h) (pF t)
abbrev KT(H:Hp):List (List Key×V)->List (List Key×Addr×Value)->Prop:=Paired fun p q=>p.1=q.1/\H q.2.1=some (.tup (p.1.map kV))/\RelV p.2 q.2.2
theorem KT.val{H:Hp}{kvs:List (List Key×V)}{xs:List (List Key×Addr×Value)}(r:KT H kvs xs)(k:List Key):gz (valV kvs k) ((atKey xs k).map (·.2)):=by
 induction r with
 |nil=>exact True.intro
 | @cons p q ps qs h t ih=>
  obtain⟨h1,_,h2⟩:=h
  by_cases e:p.1=k
  ·have e':q.1=k:=h1.symm.trans e
   have b:atKey (q::qs) k=some q.2:=by simp[atKey,List.find?_cons,e']
   rw[bN e,b];exact h2
  ·have e':¬q.1=k:=fun z=>e (h1.trans z)
   have b:atKey (q::qs) k=atKey qs k:=by simp[atKey,List.find?_cons,e']
   rw[bD e,b];exact ih
theorem KT.repl{H:Hp}{kvs:List (List Key×V)}{xs:List (List Key×Addr×Value)}(r:KT H kvs xs)(k:List Key){y:V}{u:Value}(ry:RelV y u):
  KT H (kvs.map fun kv=>if kv.1=k then(kv.1,y) else kv) (xs.map (putAt k u)):=by
 induction r with
 |nil=>exact .nil
 | @cons p q ps qs h t ih=>
  rw[List.map_cons,List.map_cons]
  refine .cons ?_ ih
  obtain⟨h1,h2,h3⟩:=h
  unfold putAt
  by_cases e:p.1=k
  ·rw[if_pos e,if_pos (h1.symm.trans e)];exact⟨h1,h2,ry⟩
  ·rw[if_neg e,if_neg (fun z=>e (h1.trans z))];exact⟨h1,h2,h3⟩
theorem KT.put{H:Hp}{kvs:List (List Key×V)}{xs:List (List Key×Addr×Value)}(r:KT H kvs xs)(k:List Key){b:Addr}{y:V}{u:Value}(hb:H b=some (.tup (k.map kV)))(ry:RelV y u):
  KT H (putK kvs k y) (storedH xs k b u):=by
 have e:(kvs.any fun kv=>decide (kv.1=k))=(atKey xs k).isSome:=by
  rw[eI,(r.val k).isSome_eq,Option.isSome_map]
 unfold putK storedH
 rw[e]
 by_cases q:(atKey xs k).isSome=true
 ·rw[if_pos q,if_pos q];exact r.repl k ry
 ·rw[if_neg q,if_neg q];exact Paired.snoc r ⟨rfl,hb,ry⟩
theorem KT.keeps{H H':Hp}{kvs:List (List Key×V)}{xs:List (List Key×Addr×Value)}(r:KT H kvs xs)(ht:∀b ys,H b=some (.tup ys)->H' b=some (.tup ys)):KT H' kvs xs:=
 Paired.mapP r fun _ _ z=>⟨z.1,ht _ _ z.2.1,z.2.2⟩
section
variable {P : Program} {w : World} {H : Hp} {h : Heap} {a : Addr}
theorem Bd{u:HO}(ok:HOk P w H h)(e:Rd H a u):ba P w H h a u:=e.ok ok
theorem ir{kvs:List (Key×V)}(ok:HOk P w H h)(e:Rd H a (.dK kvs)):kvs.length<=sizeLine/\(a==sysModules)=false/\∃vs,KV kvs vs/\h.DictOf (aQ P w) a vs:=
 show ba P w H h a (.dK kvs) from Bd ok e
theorem mz{kvs:List (Key×V)}(ok:HOk P w H h)(e:H a=some (.dK kvs)):kvs.length<=sizeLine/\(a==sysModules)=false/\∃vs,KV kvs vs/\h.DictOf (aQ P w) a vs:=ir ok (.inl e)
theorem jk{ks:List Key}(ok:HOk P w H h)(e:H a=some (.tup (ks.map kV))):(tupleKind (aQ P w)).is h ks a:=by
 obtain⟨_,its,r,o,h1,h2,n,h3⟩:=(show ba P w H h a (.tup (ks.map kV)) from ok a _ e)
 exact⟨o,its.toArray,n,h1,h2,h3,by simpa using pF r⟩
theorem lx{kvs:List (List Key×V)}(ok:HOk P w H h)(e:Rd H a (.dT kvs)):kvs.length<=sizeLine/\(a==sysModules)=false/\
  ∃xs,KT H kvs xs/\h.DictOfH (tupleKind (aQ P w)) a xs:=by
 obtain⟨z,y,xs,r,o,es,ep,h1,h2,h3,h4,h5⟩:=(show ba P w H h a (.dT kvs) from Bd ok e)
 refine⟨z,y,xs,r,o,es,ep,h1,h2,h3,h4,fun x hx=>?_,h5⟩
 have all:∀{l:List (List Key×V)} {m:List (List Key×Addr×Value)},KT H l m->∀x∈m,(tupleKind (aQ P w)).is h x.1 x.2.1:=by
  intro l m q
  induction q with
  |nil=>intro x hx;exact nomatch hx
  | @cons p q ps qs hq t ih=>
   intro x hx
   rcases List.mem_cons.mp hx with e |hx
   ·subst e
    exact jk ok (by rw[<-hq.1];exact hq.2.1)
   ·exact ih x hx
 exact all r x hx
theorem Cv{kvs:List (List Key×V)}(ok:HOk P w H h)(e:H a=some (.dT kvs)):kvs.length<=sizeLine/\(a==sysModules)=false/\
  ∃xs,KT H kvs xs/\h.DictOfH (tupleKind (aQ P w)) a xs:=lx ok (.inl e)
end
def gb(H:Hp)(a:Addr)(y:V)(r:Option V):Prop:=
 (∃kvs k,Rd H a (.dK kvs)/\y=kV k/\r=valV kvs k)∨∃kvs k b,Rd H a (.dT kvs)/\y= .ref b/\H b=some (.tup (k.map kV))/\r=valV kvs k
def lH(H:Hp)(a:Addr)(y v:V)(H':Hp):Prop:=
 (∃kvs k,H a=some (.dK kvs)/\y=kV k/\kvs.length<sizeLine/\H'=upd H a (.dK (putK kvs k v)))∨
 ∃kvs k b,H a=some (.dT kvs)/\y= .ref b/\H b=some (.tup (k.map kV))/\kvs.length<sizeLine/\H'=upd H a (.dT (putK kvs k v))
theorem gb.k{H:Hp}{a:Addr}{kvs:List (Key×V)}{k:Key}(e:H a=some (.dK kvs)):gb H a (kV k) (valV kvs k):= .inl ⟨kvs,k,.inl e,rfl,rfl⟩
theorem lH.k{H:Hp}{a:Addr}{kvs:List (Key×V)}{k:Key}{v:V}(e:H a=some (.dK kvs))(hl:kvs.length<sizeLine):lH H a (kV k) v (upd H a (.dK (putK kvs k v))):= .inl ⟨kvs,k,e,rfl,hl,rfl⟩
section
variable {X : Cx} {pins : List (Addr × Obj)} {σ : St} {H : Hp} {s : Shared} {a : Addr} {y v : V} {u r : Value} {o : Option V} {A : Around} {E : Value → Shared → Prop}
theorem Inv.big(I:Inv X pins σ H s):sysModules<s.heap.objs.size:=by
 have h:mainGlobals<s.heap.objs.size:=(I.mod.glob.keeps I.bk).lt
 exact Nat.lt_trans (by decide) h
theorem vY{Q:Value->Shared->Prop}(hu:A.units+1<cLine)(I:Inv X pins σ H s)(g:gb H a y (some v))(ry:RelV y u)(h:∀w' s',Inv X pins σ H s'->RelV v w'->Q w' s'):
  wpAny (model X.prog X.w) A (getItem (.ref a) u) Q E s:=by
 rcases g with ⟨kvs,k,e,ey,l⟩ |⟨kvs,k,b,e,ey,eb,l⟩
 ·subst ey
  obtain⟨z,hd,vs,rel,dd⟩:=ir I.hok e
  obtain⟨w',hw,rw'⟩:=gz.some_of (v:=v) (o:=valueAt vs k) (by rw[l];exact rel.val k)
  exact wpAny_getItem_of (jd ry) dd.mapOf hw (h w' _ (I.tok _) rw')
 ·subst ey
  cases (show u=Value.ref b from ry)
  obtain⟨z,hd,xs,rel,dd⟩:=lx I.hok e
  obtain⟨w',hw,rw'⟩:=gz.some_of (v:=v) (o:=(atKey xs k).map (·.2)) (by rw[l];exact rel.val k)
  obtain⟨p,hp,hp2⟩:=Option.map_eq_some_iff.mp hw
  refine wpAny_getItem_heap (tupleKind_room_in1 hu) (jk I.hok eb) dd hp ?_
  rw[hp2]
  exact h w' _ (I.tok _) rw'
theorem C1{Q:Value->Shared->Prop}(hu:A.units+1<cLine)(I:Inv X pins σ H s)(g:gb H a y o)(ry:RelV y u)(h:∀s',Inv X pins σ H s'->Q (.bool o.isSome) s'):
  wpAny (model X.prog X.w) A (compareOp .In u (.ref a)) Q E s:=by
 rcases g with ⟨kvs,k,e,ey,l⟩ |⟨kvs,k,b,e,ey,eb,l⟩
 ·subst ey
  obtain⟨z,hd,vs,rel,dd⟩:=ir I.hok e
  refine wpAny_in_of (jd ry) hd dd.mapOf ?_
  rw[<-(rel.val k).isSome_eq,<-l]
  exact h _ (I.tok _)
 ·subst ey
  cases (show u=Value.ref b from ry)
  obtain⟨z,hd,xs,rel,dd⟩:=lx I.hok e
  refine wpAny_in_heap (tupleKind_room_in1 hu) (jk I.hok eb) hd dd ?_
  have q:=(rel.val k).isSome_eq
  rw[Option.isSome_map] at q
  rw[<-q,<-l]
  exact h _ (I.tok _)
theorem zF{Q:Value->Shared->Prop}(hu:A.units+1<cLine)(I:Inv X pins σ H s)(g:gb H a y o)(ry:RelV y u)(h:∀s',Inv X pins σ H s'->Q (.bool (!o.isSome)) s'):
  wpAny (model X.prog X.w) A (compareOp .NotIn u (.ref a)) Q E s:=by
 rcases g with ⟨kvs,k,e,ey,l⟩ |⟨kvs,k,b,e,ey,eb,l⟩
 ·subst ey
  obtain⟨z,hd,vs,rel,dd⟩:=ir I.hok e
  refine wpAny_notIn_of (jd ry) hd dd.mapOf ?_
  rw[<-(rel.val k).isSome_eq,<-l]
  exact h _ (I.tok _)
 ·subst ey
  cases (show u=Value.ref b from ry)
  obtain⟨z,hd,xs,rel,dd⟩:=lx I.hok e
  refine wpAny_notIn_heap (tupleKind_room_in1 hu) (jk I.hok eb) hd dd ?_
  have q:=(rel.val k).isSome_eq
  rw[Option.isSome_map] at q
  rw[<-q,<-l]
  exact h _ (I.tok _)
theorem lU{h':Heap}{t':Nat}{ob:HO}(I:Inv X pins σ H s)(mu:Mut (H a))(hs:Heap.SameBut a s.heap h')(he:∃q,h'.get? a=some q)(new:ba X.prog X.w (upd H a ob) h' a ob):
  Inv X pins σ (upd H a ob) {s with heap:=h',toks:=t'}:=
 I.write (x:=a) (e:=a) mu (.inl rfl) (fun b q hb z=>(hs.2 b hb).trans z) he new
theorem tR{P:Program}{w:World}{H':Hp}{h':Heap}{kvs:List (Key×V)}{vs:List (Key×Value)}(z:kvs.length<=sizeLine)(hd:(a==sysModules)=false)(rel:KV kvs vs)(dd:h'.DictOf (aQ P w) a vs):
  ba P w H' h' a (.dK kvs):=⟨z,hd,vs,rel,dd⟩
theorem vZ{H':Hp}{Q:Unit->Shared->Prop}(hu:A.units+1<cLine)(I:Inv X pins σ H s)(g:lH H a y v H')(ry:RelV y u)(rv:RelV v r)(h:∀s',Inv X pins σ H' s'->Q () s'):
  wpAny (model X.prog X.w) A (setItem (.ref a) u r) Q E s:=by
 rcases g with ⟨kvs,k,e,ey,l,eH⟩ |⟨kvs,k,b,e,ey,eb,l,eH⟩
 ·subst ey eH
  obtain⟨z,hd,vs,rel,dd⟩:=mz I.hok e
  have hz:vs.length<=sizeLine:=by rw[<-rel.length];exact z
  have hl:(putK kvs k v).length<=sizeLine:=by have:=iy kvs k v;omega
  refine wpAny_setItem_pairs (hsz:=hz) (jd ry) dd fun h' dd' hs=>h _ ?_
  have he:∃q,h'.get? a=some q:=let ⟨q,_,_,hq,_⟩:=dd';⟨q,hq⟩
  exact lU I (by rw[e];exact True.intro) hs he (tR hl hd (rel.put k rv) dd')
 ·subst ey eH
  cases (show u=Value.ref b from ry)
  obtain⟨z,hd,xs,rel,dd⟩:=Cv I.hok e
  have hz:xs.length<=sizeLine:=by rw[<-Paired.length rel];exact z
  have hl:(putK kvs k v).length<=sizeLine:=by have:=iy kvs k v;omega
  refine wpAny_setItem_heap (hsz:=hz) (tupleKind_room_in1 hu) (jk I.hok eb) dd fun h' dd' hs=>h _ ?_
  obtain⟨q,es,ep,hq,h2,h3,h4,_,h5⟩:=dd'
  refine lU I (by rw[e];exact True.intro) hs ⟨q,hq⟩ ⟨hl,hd,_,(rel.put k eb rv).keeps fun c ys ec=>?_,q,es,ep,hq,h2,h3,h4,h5⟩
  rw[aj (cu ec e (fun z=>nomatch z))]
  exact ec
end
section
variable {X : Cx} {pins : List (Addr × Obj)} {σ : St} {H : Hp} {s : Shared} {a : Addr} {kvs : List (Key × V)} {k : Key} {u : Value} {A : Around} {E : Value → Shared → Prop}
theorem Cr{v:V}{more:List Value}{Q:Value->Shared->Prop}(I:Inv X pins σ H s)(e:H a=some (.dK kvs))(ry:RelV (kV k) u)(l:valV kvs k=some v)(hm:more=[]∨∃x,more=[x])
  (h:∀w' s',Inv X pins σ (upd H a (.dK (cj kvs k))) s'->RelV v w'->Q w' s'):wpAny (model X.prog X.w) A (call (.builtin "dict.pop") (.ref a::u::more)) Q E s:=by
 obtain⟨z,hd,vs,rel,dd⟩:=mz I.hok e
 obtain⟨w',hw,rw'⟩:=gz.some_of (v:=v) (o:=valueAt vs k) (by rw[<-l];exact rel.val k)
 have hp:(keyPart u).isSome=true:=by
  cases k with
  |inl i=>obtain⟨t,q⟩:=(show ∃t,u=Value.int i t from ry);subst q;rfl
  |inr x=>obtain⟨t,q⟩:=(show ∃t,u=Value.str x t from ry);subst q;rfl
 have ha:argsOk "dict.pop" ⟨.ref a::u::more,[]⟩:=by
  rcases hm with q |⟨x,q⟩
  ·subst q;exact PySem.F.args_dict_pop_2 _ _
  ·subst q;exact PySem.F.args_dict_pop_3 _ _ _
 refine call_meetsIn PySem.F.slot_dict_pop dd.typeIs PySem.F.entry_dict_pop ha (meets_dict_pop_there (aQ X.prog X.w) a (jd ry) more hm hp)
  ⟨vs,w',dd,by rw[<-rel.length];exact z,hw,fun h' dd' hs=>h w' _ ?_ rw'⟩
 have he:∃q,h'.get? a=some q:=let ⟨q,_,_,hq,_⟩:=dd';⟨q,hq⟩
 exact lU I (by rw[e];exact True.intro) hs he (tR (Nat.le_trans (xm kvs k) z) hd (rel.drop k) dd')
theorem Bq{r:Value}{Q:Value->Shared->Prop}(I:Inv X pins σ H s)(e:H a=some (.dK kvs))(ry:RelV (kV k) u)(l:valV kvs k=none)(h:∀s',Inv X pins σ H s'->Q r s'):
  wpAny (model X.prog X.w) A (call (.builtin "dict.pop") [.ref a,u,r]) Q E s:=by
 obtain⟨z,hd,vs,rel,dd⟩:=mz I.hok e
 have hn:valueAt vs k=none:=gz.none_of (by rw[<-l];exact rel.val k)
 have hp:(keyPart u).isSome=true:=by
  cases k with
  |inl i=>obtain⟨t,q⟩:=(show ∃t,u=Value.int i t from ry);subst q;rfl
  |inr x=>obtain⟨t,q⟩:=(show ∃t,u=Value.str x t from ry);subst q;rfl
 exact call_meetsIn PySem.F.slot_dict_pop dd.typeIs PySem.F.entry_dict_pop (PySem.F.args_dict_pop_3 _ _ _) (meets_dict_pop_default (aQ X.prog X.w) a (jd ry) hd hp r) ⟨vs,dd,hn,h _ (I.tok _)⟩
end
def Cn(i:Expr):Prop:=∀ov iv,subscripted i false ov iv=operate [ov,iv] (getItem ov iv)
theorem AQ{prog:Program}{w:World}{A:Around}{E:Value->Shared->Prop}{s:Shared}{env:Env}{value slice:Expr}{pos:Pos}{T id:String}{Q:Value->Shared->Prop}
  (hl:typeLookup (.type T) "__getitem__"=pure (some (.builtin id)))(hs:Cn slice)
  (h:wpAny (model prog w) A (eval value env) (fun o s₁=>wpAny (model prog w) A (eval slice env) (fun i s₂=>s₂.TypeIs o T/\wpAny (model prog w) A (getItem o i) Q E s₂) E s₁) E s):
  wpAny (model prog w) A (eval (.Subscript value slice pos) env) Q E s:=by
 refine Subscript_ (wpAny_mono h (fun o s₁ h₁=>wpAny_mono h₁ (fun i s₂ h₂=>?_) fun _ _ x=>x) fun _ _ x=>x)
 obtain⟨hT,h₂⟩:=h₂
 unfold subscriptTail
 refine wpAny_bind ?_
 rw[getitemInPython_of_ne hT.not_modules]
 refine wpAny_bind (wpAny_specialOf hT hl ?_)
 have fin:wpAny (model prog w) A (subscripted slice false o i) (fun r s₃=>wpAny (model prog w) A (letTemporaryGo value o r >>=fun _=>pure r) Q E s₃) E s₂:=by
  rw[hs o i]
  exact wpAny_operating (wpAny_mono h₂ (fun r s₃ h₃=>wpAny_bind (wpAny_letTemporaryGo (wpAny_pure h₃))) fun _ _ x=>x)
 first
  |exact wpAny_pure (wpAny_bind fin)
  |exact wpAny_bind (wpAny_pure (wpAny_bind fin))
  |exact wpAny_bind fin
theorem sw{X:Cx}{pins:List (Addr×Obj)}{σ:St}{H:Hp}{s:Shared}{a:Addr}{y:V}{o:Option V}(I:Inv X pins σ H s)(g:gb H a y o):s.TypeIs (.ref a) "dict":=by
 rcases g with ⟨kvs,k,e,_,_⟩ |⟨kvs,k,b,e,_,_,_⟩
 ·obtain⟨_,_,vs,_,dd⟩:=ir I.hok e
  exact dd.typeIs
 ·obtain⟨_,_,xs,_,dd⟩:=lx I.hok e
  exact dd.typeIs
def tDGet(td ty:TE):TE:=fun σ H Q=>td σ H fun x H1=>ty σ H1 fun y H2=>∃a v,x= .ref a/\gb H2 a y (some v)/\Q v H2
def tDIn(ty td:TE):TE:=fun σ H Q=>ty σ H fun y H1=>td σ H1 fun x H2=>∃a o,x= .ref a/\gb H2 a y o/\Q (.bl o.isSome) H2
def tDNotIn(ty td:TE):TE:=fun σ H Q=>ty σ H fun y H1=>td σ H1 fun x H2=>∃a o,x= .ref a/\gb H2 a y o/\Q (.bl (!o.isSome)) H2
def sDPut(td ty tv:TE):TS:=fun D σ H=>tv σ H fun v H1=>td σ H1 fun x H2=>ty σ H2 fun y H3=>∃a H4,x= .ref a/\lH H3 a y v H4/\D.nx σ H4
section
variable {X : Cx} {o i e value : Expr} {pos pos' tpos : Pos} {td ty tv : TE}
theorem au(hu:X.A.units+1<cLine)(ho:PE X o td)(hi:PE X i ty)(hs:Cn i):PE X (.Subscript o i pos) (tDGet td ty):=by
 intro pins s σ H Q I h
 refine AQ PySem.F.slot_dict_getitem.lookup hs (thn (ho pins s σ H _ I h) fun u s1 ⟨x,H1,I1,rx,q1⟩=>thn (hi pins s1 σ H1 _ I1 q1) fun iv s2 ⟨y,H2,I2,ry,a,v,ex,g,q2⟩=>?_)
 subst ex
 obtain rfl:u=Value.ref a:=rx
 exact⟨sw I2 g,vY hu I2 g ry fun w' s3 I3 rw'=>⟨v,H2,I3,rw',q2⟩⟩
theorem yD(hu:X.A.units+1<cLine)(hi:PE X i ty)(ho:PE X o td):PC X .In i o (tDIn ty td):=by
 intro pins s σ H Q I h
 refine thn (hi pins s σ H _ I h) fun iv s1 ⟨y,H1,I1,ry,q1⟩=>thn (ho pins s1 σ H1 _ I1 q1) fun u s2 ⟨x,H2,I2,rx,a,ov,ex,g,q2⟩=>?_
 subst ex
 obtain rfl:u=Value.ref a:=rx
 exact C1 hu I2 g ry fun s3 I3=>⟨.bl ov.isSome,H2,I3,rfl,q2⟩
theorem kQ(hu:X.A.units+1<cLine)(hi:PE X i ty)(ho:PE X o td):PC X .NotIn i o (tDNotIn ty td):=by
 intro pins s σ H Q I h
 refine thn (hi pins s σ H _ I h) fun iv s1 ⟨y,H1,I1,ry,q1⟩=>thn (ho pins s1 σ H1 _ I1 q1) fun u s2 ⟨x,H2,I2,rx,a,ov,ex,g,q2⟩=>?_
 subst ex
 obtain rfl:u=Value.ref a:=rx
 exact zF hu I2 g ry fun s3 I3=>⟨.bl (!ov.isSome),H2,I3,rfl,q2⟩
theorem bB(hu:X.A.units+1<cLine)(ho:PE X o td)(hi:PE X i ty)(hv:PE X value tv)(hs:swapsWith value (some (.Subscript o i pos')) pos.line X.env=pure false):
  PS X (.Assign [.Subscript o i pos'] value pos) (sDPut td ty tv):=by
 intro pins s σ H D I h
 refine wpAny_Assign_Subscript (thn (hv pins s σ H _ I h) fun r s1 ⟨v,H1,I1,rv,q1⟩=>thn (ho pins s1 σ H1 _ I1 q1) fun u s2 ⟨x,H2,I2,rx,q2⟩=>thn (hi pins s2 σ H2 _ I2 q2) fun iv s3 ⟨y,H3,I3,ry,a,H4,ex,g,q3⟩=>?_) hs
 subst ex
 obtain rfl:u=Value.ref a:=rx
 exact vZ hu I3 g ry rv fun s4 I4=>⟨σ,H4,I4,q3⟩
end
theorem sx{P:Program}{w:World}{H:Hp}(h:Heap)(hb:sysModules<h.objs.size):ba P w H (h.push {cls:= .type "dict",data:= .dict #[]}) h.objs.size (.dK []):=
 ⟨Nat.zero_le _,beq_eq_false_iff_ne.mpr (Ne.symm (Nat.ne_of_lt hb)),[],.nil,Heap.DictOf.new h⟩
def tDNewK:TE:=fun _ H Q=>∀p,H p=none->Q (.ref p) (upd H p (.dK []))
section
variable {X : Cx} {pos : Pos}
theorem ck:PE X (.Dict [] [] pos) tDNewK:=fun pins s σ H Q I h=>
 wpAny_Dict_empty ⟨.ref s.heap.objs.size,_,I.laid (a:=s.heap.objs.size) (o:= .dK []) (t':=s.toks) (fun _ _ q=>Heap.get?_push_of_some _ q) (Nat.le_refl _) (sx s.heap I.big),rfl,h _ (I.hok.fresh (Nat.le_refl _))⟩
end
def uN:List (TE×TE)->St->Hp->(List (V×V)->Hp->Prop)->Prop
 | [],_,H,Q=>Q [] H
 |(tk,tv)::r,σ,H,Q=>tk σ H fun x H1=>tv σ H1 fun y H2=>uN r σ H2 fun ps H3=>Q ((x,y)::ps) H3
abbrev VV:List (V×V)->List (Value×Value)->Prop:=Paired fun p q=>RelV p.1 q.1/\RelV p.2 q.2
def PPs(X:Cx)(pos:Pos)(keys:List (Option Expr))(values:List Expr)(trs:List (TE×TE)):Prop:=
 ∀(pins:List (Addr×Obj)) (s:Shared) (σ:St) (H:Hp) (Q:List (V×V)->Hp->Prop),Inv X pins σ H s->uN trs σ H Q->
  wpAny (model X.prog X.w) X.A (evalPairs (pairTrees keys values X.env pos)) (fun vs s'=>∃ps H',Inv X pins σ H' s'/\VV ps vs/\Q ps H') X.xe s
theorem vH{X:Cx}{pos:Pos}:PPs X pos [] [] []:=fun pins s σ H Q I h=>pairTrees_nil_walk ⟨[],H,I,.nil,h⟩
theorem fS{X:Cx}{pos:Pos}{k v:Expr}{ks:List (Option Expr)}{vs:List Expr}{tk tv:TE}{trs:List (TE×TE)}(hk:PE X k tk)(hv:PE X v tv)(hr:PPs X pos ks vs trs):
  PPs X pos (some k::ks) (v::vs) ((tk,tv)::trs):=fun pins s σ H Q I h=>
 pairTrees_cons_walk (thn (hk pins s σ H _ I h) fun u s1 ⟨x,H1,I1,rx,q1⟩=>thn (hv pins s1 σ H1 _ I1 q1) fun w2 s2 ⟨y,H2,I2,ry,q2⟩=>
  thn (hr pins s2 σ H2 _ I2 q2) fun ws s3 ⟨ps,H3,I3,rel,q3⟩=>⟨(x,y)::ps,H3,I3,.cons ⟨rx,ry⟩ rel,q3⟩)
def gT(kvs more:List (Key×V)):List (Key×V):=more.foldl (fun acc kv=>putK acc kv.1 kv.2) kvs
theorem KV.merge:∀{more:List (Key×V)} {rs:List (Key×Value)} {kvs:List (Key×V)} {vs:List (Key×Value)},KV more rs->KV kvs vs->KV (gT kvs more) (merged vs rs):=by
 intro more rs kvs vs r
 unfold KV at r
 induction r generalizing kvs vs with
 |nil=>intro q;exact q
 | @cons p q ps qs h t ih=>
  intro r0
  have e:KV (putK kvs p.1 p.2) (stored vs q.1 q.2):=by
   have:=r0.put p.1 h.2
   rw[<-h.1];exact this
  exact ih e
theorem je:∀(more kvs:List (Key×V)),(gT kvs more).length<=kvs.length+more.length
 | [],kvs=>by show kvs.length<=kvs.length+0;omega
 |p::r,kvs=>by
  have h1:=je r (putK kvs p.1 p.2)
  have h2:=iy kvs p.1 p.2
  show(gT (putK kvs p.1 p.2) r).length<=_
  rw[List.length_cons];omega
theorem ms{P:Program}{w:World}:∀{kvs:List (Key×V)} {ws:List (Value×Value)},VV (kvs.map fun kv=>(kV kv.1,kv.2)) ws->∃rs,Carries (aQ P w) ws rs/\KV kvs rs
 | [],_,r=>by rw[List.map_nil] at r;cases r;exact⟨[],True.intro,.nil⟩
 |p::kvs,_,r=>by
  rw[List.map_cons] at r
  cases r with
  | @cons a b as bs h t=>
   obtain⟨rs,c,q⟩:=ms (P:=P) (w:=w) t
   obtain⟨b1,b2⟩:=b
   exact⟨(p.1,b2)::rs,⟨jd h.1,rfl,c⟩,.cons ⟨rfl,h.2⟩ q⟩
def zk(trs:List (TE×TE)):TE:=fun σ H Q=>∀p,H p=none->uN trs σ (upd H p (.dK [])) fun ps H2=>H2 p=some (.dK [])/\∃kvs:List (Key×V),ps=kvs.map (fun kv=>(kV kv.1,kv.2))/\kvs.length<=15/\Q (.ref p) (upd H2 p (.dK (gT [] kvs)))
theorem vD{X:Cx}{pos:Pos}{keys:List (Option Expr)}{values:List Expr}{trs:List (TE×TE)}(h:PPs X pos keys values trs)(hall:keys.all (·.isSome)=true)(hl:keys.length=values.length)(h0:keys≠[])
  (h15:keys.length<=15):PE X (.Dict keys values pos) (zk trs):=by
 intro pins s σ H Q I q
 have hn:=I.hok.fresh (Nat.le_refl s.heap.objs.size)
 have I1:=I.laid (a:=s.heap.objs.size) (o:= .dK []) (h':=s.heap.push {cls:= .type "dict",data:= .dict #[]}) (t':=s.toks) (fun _ _ q=>Heap.get?_push_of_some _ q) (Nat.le_refl _) (sx s.heap I.big)
 refine wpAny_Dict_walk (knd:=aQ X.prog X.w) hall hl h0 h15 (thn (h pins _ σ _ _ I1 (q _ hn)) fun ws s2 ⟨ps,H2,I2,rel,e,kvs,ep,lk,q2⟩=>?_)
 subst ep
 obtain⟨rs,c,rk⟩:=ms (P:=X.prog) (w:=X.w) rel
 obtain⟨z,hd,vs0,r0,dd⟩:=mz I2.hok e
 cases r0
 refine⟨rs,c,dd,fun h' dd' hs=>⟨.ref s.heap.objs.size,_,?_,rfl,q2⟩⟩
 have hz:(gT [] kvs).length<=sizeLine:=by
  have h1:=je kvs []
  rw[List.length_nil] at h1
  rw[sizeLine_eq];omega
 have he:∃q,h'.get? s.heap.objs.size=some q:=let ⟨q,_,_,hq,_⟩:=dd';⟨q,hq⟩
 exact lU I2 (by rw[e];exact True.intro) hs he (tR hz hd (rk.merge .nil) dd')
structure M1 (X:Cx) (o:Expr) (m:Str) (apos:Pos) (e:Expr) (cpos:Pos):Prop where
 base:attributeBase o m X.env (eval o X.env)=eval o X.env
 few:((backTo cpos (starEach [e] X.env)).all (fun x=> !x.1)&&(backToKw cpos (keywordEach [] X.env)).all (fun x=>x.1.isSome)
  &&decide (([e]:List Expr).length+([]:List Keyword).length+(if ([]:List Keyword).isEmpty then 0 else 1)<30))=true
 line:(apos.endLine==cpos.line)=true
 trees:backTo cpos (starEach [e] X.env)=[(false,eval e X.env)]
structure M2 (X:Cx) (o:Expr) (m:Str) (apos:Pos) (e f:Expr) (cpos:Pos):Prop where
 base:attributeBase o m X.env (eval o X.env)=eval o X.env
 few:((backTo cpos (starEach [e,f] X.env)).all (fun x=> !x.1)&&(backToKw cpos (keywordEach [] X.env)).all (fun x=>x.1.isSome)
  &&decide (([e,f]:List Expr).length+([]:List Keyword).length+(if ([]:List Keyword).isEmpty then 0 else 1)<30))=true
 line:(apos.endLine==cpos.line)=true
 trees:backTo cpos (starEach [e,f] X.env)=[(false,eval e X.env),(false,eval f X.env)]
def IsD(H:Hp)(a:Addr):Prop:=(∃kvs,Rd H a (.dK kvs))∨∃kvs,Rd H a (.dT kvs)
theorem mI{X:Cx}{pins:List (Addr×Obj)}{σ:St}{H:Hp}{s:Shared}{a:Addr}(I:Inv X pins σ H s)(d:IsD H a):
  s.TypeIs (.ref a) "dict"/\(∀b,Value.ref a= .ref b->∃ob,s.heap.get? b=some ob/\ob.dict=none)/\(a==sysModules)=false:=by
 rcases d with ⟨kvs,e⟩ |⟨kvs,e⟩
 ·obtain⟨_,hd,vs,_,dd⟩:=ir I.hok e
  refine⟨dd.typeIs,fun b q=>?_,hd⟩
  cases q
  obtain⟨ob,_,_,h1,h2,_⟩:=dd
  exact⟨ob,h1,h2.2.1⟩
 ·obtain⟨_,hd,xs,_,dd⟩:=lx I.hok e
  refine⟨dd.typeIs,fun b q=>?_,hd⟩
  cases q
  obtain⟨ob,_,_,h1,h2,_⟩:=dd
  exact⟨ob,h1,h2.2.1⟩
section
variable {X : Cx} {pins : List (Addr × Obj)} {σ : St} {H : Hp} {s : Shared} {a : Addr} {y d : V} {u r : Value} {o : Option V} {A : Around} {E : Value → Shared → Prop}
theorem Bo{Q:Value->Shared->Prop}(hu:A.units+1<cLine)(I:Inv X pins σ H s)(g:gb H a y o)(ry:RelV y u)(h:∀w' s',Inv X pins σ H s'->RelV (o.getD .non) w'->Q w' s'):
  wpAny (model X.prog X.w) A (call (.builtin "dict.get") [.ref a,u]) Q E s:=by
 rcases g with ⟨kvs,k,e,ey,l⟩ |⟨kvs,k,b,e,ey,eb,l⟩
 ·subst ey
  obtain⟨z,hd,vs,rel,dd⟩:=ir I.hok e
  refine call_meetsIn PySem.F.slot_dict_get dd.typeIs PySem.F.entry_dict_get (PySem.F.args_dict_get_2 _ _) (meets_dict_get (aQ X.prog X.w) a (jd ry) hd) ⟨_,dd.mapOf,h _ _ (I.tok _) ?_⟩
  rw[l]
  exact(rel.val k).getD rfl
 ·subst ey
  cases (show u=Value.ref b from ry)
  obtain⟨z,hd,xs,rel,dd⟩:=lx I.hok e
  refine call_meetsIn PySem.F.slot_dict_get dd.typeIs PySem.F.entry_dict_get (PySem.F.args_dict_get_2 _ _) (meetsH_dict_get (tupleKind (aQ X.prog X.w)) a b hd) ⟨tupleKind_room_in1 hu,k,xs,jk I.hok eb,dd,h _ _ (I.tok _) ?_⟩
  rw[l]
  exact(rel.val k).getD rfl
theorem Bp{Q:Value->Shared->Prop}(hu:A.units+1<cLine)(I:Inv X pins σ H s)(g:gb H a y o)(ry:RelV y u)(rd:RelV d r)(h:∀w' s',Inv X pins σ H s'->RelV (o.getD d) w'->Q w' s'):
  wpAny (model X.prog X.w) A (call (.builtin "dict.get") [.ref a,u,r]) Q E s:=by
 rcases g with ⟨kvs,k,e,ey,l⟩ |⟨kvs,k,b,e,ey,eb,l⟩
 ·subst ey
  obtain⟨z,hd,vs,rel,dd⟩:=ir I.hok e
  refine call_meetsIn PySem.F.slot_dict_get dd.typeIs PySem.F.entry_dict_get (PySem.F.args_dict_get_3 _ _ _) (meets_dict_get_default (aQ X.prog X.w) a (jd ry) hd r) ⟨_,dd.mapOf,h _ _ (I.tok _) ?_⟩
  rw[l]
  exact(rel.val k).getD rd
 ·subst ey
  cases (show u=Value.ref b from ry)
  obtain⟨z,hd,xs,rel,dd⟩:=lx I.hok e
  refine call_meetsIn PySem.F.slot_dict_get dd.typeIs PySem.F.entry_dict_get (PySem.F.args_dict_get_3 _ _ _) (meetsH_dict_get_default (tupleKind (aQ X.prog X.w)) a b hd r) ⟨tupleKind_room_in1 hu,k,xs,jk I.hok eb,dd,h _ _ (I.tok _) ?_⟩
  rw[l]
  exact(rel.val k).getD rd
end
def tDGet1(td ty:TE):TE:=fun σ H Q=>td σ H fun x H1=>∃a,x= .ref a/\IsD H1 a/\ty σ H1 fun y H2=>∃o,gb H2 a y o/\Q (o.getD .non) H2
def uM(td ty tx:TE):TE:=fun σ H Q=>td σ H fun x H1=>∃a,x= .ref a/\IsD H1 a/\ty σ H1 fun y H2=>tx σ H2 fun z H3=>∃o,gb H3 a y o/\Q (o.getD z) H3
def tDPop2(td ty tx:TE):TE:=fun σ H Q=>td σ H fun x H1=>∃a,x= .ref a/\IsD H1 a/\ty σ H1 fun y H2=>tx σ H2 fun z H3=>∃kvs k,H3 a=some (.dK kvs)/\y=kV k/\
 (∀v,valV kvs k=some v->Q v (upd H3 a (.dK (cj kvs k))))/\(valV kvs k=none->Q z H3)
section
variable {X : Cx} {o e f : Expr} {apos cpos : Pos} {td ty tx : TE}
theorem yF(hu:X.A.units+1<cLine)(ho:PE X o td)(he:PE X e ty)(m:M1 X o "get" apos e cpos):PE X (.Call (.Attribute o "get" apos) [e] [] cpos) (tDGet1 td ty):=by
 intro pins s σ H Q I h
 refine wpAny_Call_method m.base m.few m.line PySem.F.plainAttrs_dict PySem.F.slot_dict_get PySem.F.type_dict_get (thn (ho pins s σ H _ I h) fun u s1 ⟨x,H1,I1,rx,a,ex,d,q1⟩=>?_)
 subst ex
 obtain rfl:u=Value.ref a:=rx
 obtain⟨t1,t2,_⟩:=mI I1 d
 refine⟨t1,t2,?_⟩
 rw[m.trees]
 refine Calls.callWith_builtin rfl (Calls.evalArgs_plain (Calls.spliced_cons (thn (he pins s1 σ H1 _ I1 q1) fun iv s2 ⟨y,H2,I2,ry,ov,g,q2⟩=>Calls.spliced_nil ?_)))
 exact Bo hu I2 g ry fun w' s3 I3 rw'=>⟨_,H2,I3,rw',q2⟩
theorem yG(hu:X.A.units+1<cLine)(ho:PE X o td)(he:PE X e ty)(hf:PE X f tx)(m:M2 X o "get" apos e f cpos):PE X (.Call (.Attribute o "get" apos) [e,f] [] cpos) (uM td ty tx):=by
 intro pins s σ H Q I h
 refine wpAny_Call_method m.base m.few m.line PySem.F.plainAttrs_dict PySem.F.slot_dict_get PySem.F.type_dict_get (thn (ho pins s σ H _ I h) fun u s1 ⟨x,H1,I1,rx,a,ex,d,q1⟩=>?_)
 subst ex
 obtain rfl:u=Value.ref a:=rx
 obtain⟨t1,t2,_⟩:=mI I1 d
 refine⟨t1,t2,?_⟩
 rw[m.trees]
 refine Calls.callWith_builtin rfl (Calls.evalArgs_plain (Calls.spliced_cons (thn (he pins s1 σ H1 _ I1 q1) fun iv s2 ⟨y,H2,I2,ry,q2⟩=>
  Calls.spliced_cons (thn (hf pins s2 σ H2 _ I2 q2) fun fv s3 ⟨z,H3,I3,rz,ov,g,q3⟩=>Calls.spliced_nil ?_))))
 exact Bp hu I3 g ry rz fun w' s4 I4 rw'=>⟨_,H3,I4,rw',q3⟩
theorem gE(ho:PE X o td)(he:PE X e ty)(hf:PE X f tx)(m:M2 X o "pop" apos e f cpos):PE X (.Call (.Attribute o "pop" apos) [e,f] [] cpos) (tDPop2 td ty tx):=by
 intro pins s σ H Q I h
 refine wpAny_Call_method m.base m.few m.line PySem.F.plainAttrs_dict PySem.F.slot_dict_pop PySem.F.type_dict_pop (thn (ho pins s σ H _ I h) fun u s1 ⟨x,H1,I1,rx,a,ex,d,q1⟩=>?_)
 subst ex
 obtain rfl:u=Value.ref a:=rx
 obtain⟨t1,t2,_⟩:=mI I1 d
 refine⟨t1,t2,?_⟩
 rw[m.trees]
 refine Calls.callWith_builtin rfl (Calls.evalArgs_plain (Calls.spliced_cons (thn (he pins s1 σ H1 _ I1 q1) fun iv s2 ⟨y,H2,I2,ry,q2⟩=>
  Calls.spliced_cons (thn (hf pins s2 σ H2 _ I2 q2) fun fv s3 ⟨z,H3,I3,rz,kvs,k,ea,ey,q3,q4⟩=>Calls.spliced_nil ?_))))
 subst ey
 cases l:valV kvs k with
 |some v=>exact Cr I3 ea ry l (.inr ⟨fv,rfl⟩) fun w' s4 I4 rw'=>⟨v,_,I4,rw',q3 v l⟩
 |none=>exact Bq I3 ea ry l fun s4 I4=>⟨z,H3,I4,rz,q4 l⟩
end
end L2
namespace Att
open PySem PySem.W PySem.Calls PyProof.Rows
theorem lL{P:Params}{h:Heap}:∀(ns:List Int) (vs:List Value),WellAll P h vs (ns.map WData.int)->IntsAre vs ns:=by
 intro ns
 induction ns with
 |nil=>
  intro vs w
  rw[List.map_nil] at w
  cases w
  exact .nil
 |cons n ns ih=>
  intro vs w
  rw[List.map_cons] at w
  cases w with
  |cons a b=>
   cases a
   exact .cons _ _ (ih _ b)
theorem wO{l:OpenLaw}{n:Nat}(hn:l.most=some n){P:Params}{h:Heap}{args:List WData}{vals:List Value}
  (hpre:l.row.toRowW.claim.pre args=true)(hwl:WellAll P h vals args):
  ∃a vs ns,vals=[Value.ref a]/\args=[WData.list (ns.map WData.int)]/\h.get? a=some {cls:= .type "list",data:= .seq vs.toArray}/\IntsAre vs ns/\ns.length<=n:=by
 have hsh:WShape.hasAll [] args [.list .int]=true:=(pre_splitW hpre).1
 have hc:l.pre.holds [] {args:=args}=true:=(pre_splitW hpre).2
 obtain⟨d,r,rfl,h1,h2⟩:=hasAllW_cons hsh
 obtain rfl:=hasAllW_nil h2
 obtain⟨xs,rfl,h3⟩:=hasW_list h1
 obtain⟨ns,rfl⟩:=items_int h3
 have hlen:ns.length<=n:=by
  unfold OpenLaw.pre at hc
  have h4:(WTm.not (.lt (.lit (.int (n:Int))) (.len (.arg 0)))).holds [] {args:=[.list (ns.map .int)]}=true:=by
   have h4:=(holds_andW hc).1
   rw[hn] at h4
   exact h4
  have h5:=condW_of h4 (w_not (w_lt w_lit (w_len_list (w_arg rfl))))
  rw[List.length_map] at h5
  refine Nat.le_of_not_lt fun q=>?_
  have q':(n:Int)<((ns.length:Nat):Int):=by omega
  first
   |(rw[decide_eq_true q'] at h5;exact absurd h5 (by decide))
   |(simp at h5;omega)
 cases hwl with
 |cons w1 w2=>
  cases w2
  cases w1 with
  |list ho hall=>exact⟨_,_,ns,rfl,rfl,ho,lL ns _ hall,hlen⟩
theorem wG(l:OpenLaw)(args:List WData):l.row.toRowW.claim.post args (.bool true) args=true:=
 postW_of (r:=l.row.toRowW) (X:=(true==true))
  (show WShape.has [] (.bool true) .bool=true by first |rfl |decide |simp[WShape.has,WShape.arms,WShape.armsAll])
  (show(WTm.eq .res (.lit (.bool true))).value [] {args:=args,res:=some (.bool true),after:=args}=some (.bool (true==true)) from w_eq_bool (w_res rfl) w_lit) rfl
theorem attach_call{l:OpenLaw}{n:Nat}{q:Program}{loose:List Str}{XP:(Str->Option Value)->Heap->Prop}{YP:World->Heap->Prop}{d:DefRec}
  (hn:l.most=some n)(hdf:d.params.defaults=[])
  (call:∀(w:World) (s₀ s₁:Shared) (mg mb:Str->Option Value) (fa:Addr) (o:Obj) (pm cd doc:Value) (a:Addr) (vs:List Value) (ns:List Int),
   Ground q loose [] XP w s₀ mg mb s₁.heap->YP w s₁.heap->
   s₁.heap.get? fa=some o->o.data= .func (docDef d.name d.params d.body d.scope pm cd doc)->s₁.heap.CodeRec cd d.name->mg d.name=some (.ref fa)->
   s₁.heap.get? a=some {cls:= .type "list",data:= .seq vs.toArray}->IntsAre vs ns->ns.length<=n->s₁.gens= #[]->
   codeAny (model l.prog w) callerA (.call (.ref fa) ⟨[.ref a],[]⟩) (fun r s'=>r= .ok (.ret (.bool true))/\OldK s₁.heap s'.heap/\s'.os=s₁.os/\AllBare s'.gens) s₁):
  WalkO q loose XP YP l.row.toRowW d [] (fun f vs=>PySem.call f vs):=by
 intro w s₀ s₁ mg mb G Y fa o pm cd doc dV kV ho hd hcd hD hmg hg args vals as hpre hlay hrd hwl hlo
 obtain rfl:dV= .none:=Dflts.none hD hdf
 obtain rfl:kV= .none:=Dflts.noKw hD
 obtain⟨a,vs,ns,rfl,rfl,hobj,hints,hlen⟩:=wO hn hpre hwl
 refine enter_call (codeAny_mono (call w s₀ s₁ mg mb fa o pm cd doc a vs ns G Y ho (fd_plain hd) hcd hmg hobj hints hlen hg) fun r s' hq=>?_)
 obtain⟨rfl,h2,h3,h4⟩:=hq
 exact⟨.inl ⟨.bool true,.bool true,[],rfl,fun _=>rfl,.bool true,wG l _,fun _=>⟨List.Pairwise.nil,fun _ hm=>(nomatch hm)⟩⟩,h2,h3,h4⟩
end Att
namespace L2
open PySem PySem.Spec PyProof.Rows
theorem pW:∀{vs:List Value} {ns:List Int},IntsAre vs ns->Vals (ns.map V.int) vs
 |_,_,.nil=> .nil
 |_,_,.cons n t h=> .cons ⟨t,rfl⟩ (pW h)
def Bk(H:Hp):Prop:=∀b,H b=none∨∃o xs,H b=some (.frz o (.lst xs))
theorem xL{P:Program}{w:World}{K:PySem.W.Frag}{mg mb:Str->Option Value}{CX:CXT}{k:Nat}{fa a:Addr}{fd:FuncData}{x:Str}{sp:Sp}{s₁:Shared}{vs:List Value}{ns:List Int}
  (KX:K.In s₁.heap)(hns:s₁.heap.Ns mainGlobals mg)(hb:s₁.heap.Ns builtinsNs mb)(hbb:∀x:Str,x≠"__name__"->mb x=bootBuiltins x)(hlim:s₁.heap.NoLimit)(hg:s₁.gens= #[])
  (ha:s₁.heap.get? a=some {cls:= .type "list",data:= .seq vs.toArray})(hi:IntsAre vs ns)(hl:ns.length<=sizeLine)(hr:Room k callerA)
  (F:∀base:Heap,K.In base->base.Ns mainGlobals mg->FnOk P w K mg base CX k fa fd [x] sp)(hbind:∀(s:Shared) (u:Value),BindsTo s fd ⟨[u],[]⟩ [(x,u)])
  (hsp:∀H:Hp,Bk H->SqL K H a (ns.map V.int)->sp [.ref a] H (fun v _=>v= .bl true) fun _ _ _=>False)
  (hCX:∀H e s',CX [] H s₁ (fun _ _ _=>False) e s'->False):
  codeAny (model P w) callerA (.call (.ref fa) ⟨[.ref a],[]⟩) (fun r s'=>r= .ok (.ret (.bool true))/\OldK s₁.heap s'.heap/\s'.os=s₁.os/\AllBare s'.gens) s₁:=by
 have rv:=pW hi
 have lenV:=hi.length
 have core:∀H:Hp,Bk H->SqL K H a (ns.map V.int)->HOk P w H s₁.heap->(∀b,H b≠none->b=a)->(H a≠none->K.lookup a=none)->
   codeAny (model P w) callerA (.call (.ref fa) ⟨[.ref a],[]⟩) (fun r s'=>r= .ok (.ret (.bool true))/\OldK s₁.heap s'.heap/\s'.os=s₁.os/\AllBare s'.gens) s₁:=by
  intro H hO hS hok hA hK
  have base_of:∀{b:Addr} {o:Obj},s₁.heap.get? b=some o->H b=none->(qA s₁.heap H).get? b=some o:=fun e n=>xz e n
  have noA:∀{b:Addr} {o:Obj} {es:Array DictEntry} {ep:Nat},s₁.heap.get? b=some o->o.data= .dict es ep->H b=none:=fun {b o es ep} e d=>by
   cases q:H b with
   |none=>rfl
   |some u=>
    have e':b=a:=hA b (by rw[q];simp)
    subst e'
    rw[ha] at e;cases e
    have d':Data.seq vs.toArray _=Data.dict es ep:=d
    cases d'
  have nsK:∀{b:Addr} {m:Str->Option Value},s₁.heap.Ns b m->(qA s₁.heap H).Ns b m:=fun {b m} ⟨o,es,ep,e,d,r⟩=>⟨o,es,ep,base_of e (noA e d),d,r⟩
  have hKb:K.In (qA s₁.heap H):=fun b o e=>base_of (KX b o e) (by
   cases q:H b with
   |none=>rfl
   |some u=>
    have e':b=a:=hA b (by rw[q];simp)
    subst e'
    rw[hK (by rw[q];simp)] at e;cases e)
  have hM:Mod K mg (qA s₁.heap H):=⟨hKb,nsK hns,⟨mb,nsK hb,hbb⟩,let ⟨mc,h1,h2⟩:=hlim;⟨mc,nsK h1,h2⟩⟩
  have e0:Env0 P w K mg (qA s₁.heap H) callerA [] s₁ H:=⟨rfl,hM,fun b o e=>Ag e,Nat.le_of_eq (wj _ _),trivial,fun b hb=>absurd (show b∈([]:List Addr) from hb) (by simp),hok,.of_eq hg⟩
  refine codeAny_mono ((F _ hKb (nsK hns)).run callerA [] s₁ H ⟨[.ref a],[]⟩ [.ref a] [.ref a] _ _ hr e0 (hbind s₁ (.ref a)) (.cons rfl .nil) (hsp H hO hS)) fun r s' h=>?_
  cases r with
  |error e=>exact(hCX H e s' h).elim
  |ok fl=>
   cases fl with
   |next=>exact False.elim h
   |brk=>exact False.elim h
   |cont=>exact False.elim h
   |ret u=>
    obtain⟨v,H',os,bare,un,hok',r',q⟩:=h
    have q':v= .bl true:=q
    subst q'
    obtain rfl:u=Value.bool true:=r'
    refine⟨rfl,OldK.of_keep fun b o e=>?_,os,bare⟩
    cases q:H b with
    |none=>exact un.keep b o e q (by intro z;exact absurd (show b∈([]:List Addr) from z) (by simp)) (by simp)
    |some u=>
     rcases hO b with z |⟨ob,xs,z⟩
     ·rw[q] at z;cases z
     ·have z2:=un.frzs b ob _ z
      obtain⟨e1,_⟩:=hok b _ z
      obtain⟨e2,_⟩:=hok' b _ z2
      rw[e] at e1;cases e1
      exact e2
 cases hk:K.lookup a with
 |some o=>
  have e:=KX a o hk
  rw[ha] at e
  cases e
  refine core (fun _=>none) (fun _=> .inl rfl) (.inr ⟨_,vs.toArray,_,hk,rfl,rfl,rfl,by rw[List.size_toArray,lenV];exact hl,by simpa using rv⟩) (fun b u z=>by have z':(none:Option HO)=some u:=z;cases z') (fun b z=>absurd rfl z) fun z=>absurd rfl z
 |none=>
  refine core (fun b=>if b=a then some (.frz {cls:= .type "list",data:= .seq vs.toArray} (.lst (ns.map V.int))) else none) (fun b=>?_) (.inl (.inr ⟨{cls:= .type "list",data:= .seq vs.toArray},if_pos rfl⟩)) (fun b u z=>?_) (fun b z=>?_) fun _=>hk
  ·by_cases hb:b=a
   ·exact .inr ⟨_,_,if_pos hb⟩
   ·exact .inl (if_neg hb)
  ·by_cases hb:b=a
   ·have z':=(if_pos hb).symm.trans z
    cases z'
    subst hb
    exact⟨ha,by rw[List.length_map];exact hl,vs,_,rv,ha⟩
   ·have z':=(if_neg hb).symm.trans z
    cases z'
  ·by_cases hb:b=a
   ·exact hb
   ·exact absurd (if_neg hb) z
end L2
namespace L2
open PySem PySem.Spec PyProof.Rows
abbrev KOf{K:PySem.W.Frag}{h:Heap}(_:K.In h):PySem.W.Frag:=K
theorem vR{l:PySem.W.OpenLaw}{n k:Nat}{q:Program}{loose:List Str}{XP:(Str->Option Value)->Heap->Prop}{YP:World->Heap->Prop}{d:DefRec}{K:Params->PySem.W.Frag}{CX:World->CXT}{sp:World->Sp}{x:Str}
  (hn:l.most=some n)(hn2:n<=sizeLine)(hdf:d.params.defaults=[])(hr:Room k callerA)
  (hY:∀(w:World) (h:Heap),YP w h->(K w.params).In h)
  (F:∀(w:World) (mg:Str->Option Value) (fa:Addr) (h:Heap),(K w.params).In h->h.Ns mainGlobals mg->mg d.name=some (.ref fa)->
   ∃fd:FuncData,(∀(s:Shared) (u:Value),BindsTo s fd ⟨[u],[]⟩ [(x,u)])/\
    ∀base:Heap,(K w.params).In base->base.Ns mainGlobals mg->FnOk l.prog w (K w.params) mg base (CX w) k fa fd [x] (sp w))
  (hsp:∀(w:World) (H:Hp) (a:Addr) (ns:List Int),ns.length<=n->Bk H->SqL (K w.params) H a (ns.map V.int)->sp w [.ref a] H (fun v _=>v= .bl true) fun _ _ _=>False)
  (hCX:∀(w:World) (H:Hp) (s:Shared) (e:Value) (s':Shared),CX w [] H s (fun _ _ _=>False) e s'->False):
  PySem.W.WalkO q loose XP YP l.row.toRowW d [] (fun f vs=>PySem.call f vs):=by
 refine Att.attach_call hn hdf fun w s₀ s₁ mg mb fa o pm cd doc a vs ns G Y ho hd hcd hmg hobj hints hlen hg=>?_
 have KX:=hY w _ Y
 obtain⟨fd,hb,hF⟩:=F w mg fa _ KX G.T.g hmg
 exact xL KX G.T.g G.T.b G.T.builtins G.T.nolimit hg hobj hints (Nat.le_trans hlen hn2) hr hF hb (fun H hO hS=>hsp w H a ns hlen hO hS) fun H e s'=>hCX w H s₁ e s'
end L2
/- THE LAST THEOREM (shape; LID, My.* are yours):
   My.Adr: a structure of the addresses that your layer names (classes, functions); My.Txt K t: a structure (Prop) of the equations over K;
   My.txt_mk : {K} {implicit addresses ..} (e1 : nsIn K mainGlobals "law" = some (some (.ref f))) (e2 : K.lookup f = some ⟨oc, od, .func (fnOf "law" "law" params body scope dV kV doc pm an cdv ct), sl⟩) (e3 : codeIn K cdv "law" = true) .. : ∃ t, My.Txt K t
set_option maxRecDepth 100000 in
set_option maxHeartbeats 0 in
theorem PySem.Challenge.cw_LID_holds : PySem.Challenge.rw_LID.Holds := by
  w_on; o_law; k_head; (case hw => w_witness2)
  k_fill
  refine L2.vR (l := PySem.Challenge.rw_LID) (n := 63) (k := 40) (x := "script") (CX := fun w => ..) (sp := fun _ => My.sp_law) rfl (by decide) rfl ⟨rfl, by decide, by decide⟩ (fun w h Y => PySem.W.kIn_of Y) ?F ?S ?C
  case F =>
    intro w mg fa h KX G hmg
    have T : ∃ t, My.Txt (L2.KOf KX) t := by
      dsimp only [L2.KOf]                          -- K must stand as «<heap const> w.params» for k_is
      refine' My.txt_mk ?e1 ?e2 ?e3 ..
      (case e1 => PySem.W.k_is)                    -- in the order: a name -> its address -> its object -> its parts
      (case e2 => PySem.W.k_is)
      ..
    obtain ⟨t, T⟩ := T
    have e0 := hmg.symm.trans (PySem.W.mg_of KX G T.law)
    cases e0                                       -- fa is the law's own address
    exact ⟨_, fun s u => .of_eq rfl, fun base kb nb => My.law_fn T kb nb⟩     -- if «.of_eq rfl» comes too early: refine' ⟨_, ?b, fun base kb nb => My.law_fn T kb nb⟩; exact fun s u => .of_eq rfl
  case S => exact fun w H a ns hl hO hS => ..
  case C => exact ..
(the tactic k_is has no namespace: write k_is) -/
namespace L2
open PySem PySem.Spec PyProof.Rows
def inClass(s:Stmt)(j:Nat):Stmt:=match s with
 | .ClassDef _ _ _ body _ _ _ _ _ _ _=>body.getD j (.Pass ⟨0,0,0,0⟩)
 |_=> .Pass ⟨0,0,0,0⟩
def defArgs(s:Stmt):Arguments:=match s with
 | .FunctionDef _ a _ _ _ _ _ _ _ _=>a
 |_=>{posonlyargs:=[],args:=[],vararg:=none,kwonlyargs:=[],kw_defaults:=[],kwarg:=none,defaults:=[]}
def defBody(s:Stmt):List Stmt:=match s with
 | .FunctionDef _ _ b _ _ _ _ _ _ _=>b
 |_=>[]
def defScope(s:Stmt):Scope:=match s with
 | .FunctionDef _ _ _ _ _ _ sc _ _ _=>sc
 |_=>{kind:= .function,names:=[],isGenerator:=false,isCoroutine:=false}
abbrev CX0:CXT:=fun _ _ _ _ _ _=>False
abbrev E0:XK:=fun _ _ _=>False
theorem sP{X:Cx}:eK CX0 X E0:=fun _ _ _ _ _ _ _ h=>h.elim
structure Fun (K:PySem.W.Frag) (x qual:Str) (st:Stmt) (f:Addr) (fd:FuncData):Prop where
 ex:∃(oc:Value) (od:Option Addr) (kV doc pm:Value) (an:Option Addr) (cdv ct:Value) (osl:Array (Option Value)),
  fd=PySem.W.fnOf x qual (defArgs st) (defBody st) (defScope st) .none kV doc pm an cdv ct/\K.lookup f=some ⟨oc,od,.func fd,osl⟩/\PySem.W.codeIn K cdv qual=true
 kp:PySem.W.keepIn K (.ref f)=true
section
variable {P : Program} {w : World} {K : PySem.W.Frag} {mg : Str → Option Value} {base : Heap}
theorem Fun.ok{x qual:Str}{st:Stmt}{f:Addr}{fd:FuncData}{N ps:List Str}{k:Nat}{sp:Sp}(F:Fun K x qual st f fd)(S:FnScope N ps (defScope st))(len:∀vs H Q E,sp vs H Q E->vs.length=ps.length)
  (hbody:∀(cdv:Value) (A:Around) (outer:List Env) (s:Shared) (H:Hp) (vs:List V) (Q:VK) (E:XK),Room k (A.deeper (envOfC qual (defScope st) s.heap.objs.size f cdv))->sp vs H Q E->
   ∃t,PSs (qt CX0 P w K mg base N qual (defScope st) f cdv A outer s H E).nox (defBody st) t/\t {nx:=fun _ H'=>Q .non H',rt:=Q} (start N vs) H):FnOk P w K mg base CX0 (k+1) f fd ps sp:=by
 obtain⟨oc,od,kV,doc,pm,an,cdv,ct,osl,rfl,lk,hcd⟩:=F.ex
 refine A3 lk hcd S len fun A outer s H vs Q E hr hsp=>?_
 obtain⟨t,h,q⟩:=hbody cdv A outer s H vs Q E hr hsp
 exact⟨t,h.nox,q⟩
theorem Fun.binds{x qual:Str}{st:Stmt}{f:Addr}{fd:FuncData}{ps:List Str}(F:Fun K x qual st f fd)
  (h:∀(kV doc pm:Value) (an:Option Addr) (cdv ct:Value) (us:List Value),us.length=ps.length->bindArgs (PySem.W.fnOf x qual (defArgs st) (defBody st) (defScope st) .none kV doc pm an cdv ct) ⟨us,[]⟩=pure (ps.zip us)):Binds K fd ps []:=by
 obtain⟨oc,od,kV,doc,pm,an,cdv,ct,osl,rfl,lk,hcd⟩:=F.ex
 exact .all (h kV doc pm an cdv ct)
theorem aC{x qual:Str}{st:Stmt}{f:Addr}{oc:Value}{od an:Option Addr}{osl:Array (Option Value)}{kV doc pm cdv ct:Value}(l:K.lookup f=some ⟨oc,od,.func (PySem.W.fnOf x qual (defArgs st) (defBody st) (defScope st) .none kV doc pm an cdv ct),osl⟩)
  (c:PySem.W.codeIn K cdv qual=true)(k:PySem.W.keepIn K (.ref f)=true):Fun K x qual st f (PySem.W.fnOf x qual (defArgs st) (defBody st) (defScope st) .none kV doc pm an cdv ct):=⟨⟨oc,od,kV,doc,pm,an,cdv,ct,osl,rfl,l,c⟩,k⟩
end
theorem cx{A:Around}{k:Nat}(hr:Room k A):A.units+1<cLine:=Nat.lt_of_le_of_lt (Nat.add_le_add_left (by decide:1<=64) _) hr.units
theorem bu{n:Nat}(h:n<=1000):n<sizeLine:=Nat.lt_of_le_of_lt h (by decide)
section
variable {X : Cx}
theorem pv(i:Nat){x:Str}{pos:Pos}(hN:X.N[i]?=some x:=by rfl)(hv:Vis X.env.scope x:=by first |exact Or.inl rfl |exact Or.inr (Or.inl rfl) |exact Or.inr (Or.inr rfl))(hd:(x==("__debug__":Str))=false:=by decide)
  (hcd:(x==("__classdict__":Str))=false:=by decide):PE X (.Name x pos) (tVar i):=BS hN hv hd hcd
end
theorem fK{A B:Prop}(h:B):if false=true then A else B:=by
 rw[if_neg Bool.false_ne_true]
 exact h
theorem eZ{A B:Prop}(h:A):if true=true then A else B:=by
 rw[if_pos rfl]
 exact h
theorem lA{c A B:Prop}[Decidable c](hc:c)(h:B):if (!decide c)=true then A else B:=by
 rw[decide_eq_true hc]
 exact fK h
def Same(H H':Hp):Prop:=∀b o,H b=some o->H' b=some o
theorem Same.refl(H:Hp):Same H H:=fun _ _ h=>h
theorem Same.trans{H H1 H2:Hp}(a:Same H H1)(b:Same H1 H2):Same H H2:=fun c o h=>b c o (a c o h)
theorem Same.free{H H':Hp}(e:Same H H'){l:Addr}(h:H' l=Option.none):H l=Option.none:=by
 cases q:H l with
 |none=>rfl
 |some o=>
  rw[e l o q] at h
  cases h
theorem Same.seq{K:PySem.W.Frag}{H H':Hp}{a:Addr}{xs:List V}(e:Same H H')(h:SqL K H a xs):SqL K H' a xs:=by
 rcases h with (h |⟨o,h⟩) |h
 ·exact .inl (.inl (e _ _ h))
 ·exact .inl (.inr ⟨o,e _ _ h⟩)
 ·exact .inr h
section
variable {κ : Type} [DecidableEq κ]
theorem oG{kvs:List (κ×V)}{k:κ}(h:valV kvs k=none):¬k∈kvs.map (·.1):=by
 intro m
 obtain⟨p,hp,e⟩:=List.mem_map.mp m
 have q:(kvs.any fun kv=>decide (kv.1=k))=true:=List.any_eq_true.mpr ⟨p,hp,decide_eq_true e⟩
 rw[eI,h] at q
 exact absurd q (by simp)
theorem vz:∀{l:List κ} {k:κ},l.Nodup->¬k∈l->(l++ [k]).Nodup
 | [],k,_,_=>by simp
 |a::r,k,h,hk=>by
  obtain⟨h1,h2⟩:=List.nodup_cons.mp h
  show(a::(r++ [k])).Nodup
  refine List.nodup_cons.mpr ⟨fun m=>?_,vz h2 fun m=>hk (List.mem_cons.mpr (Or.inr m))⟩
  rcases List.mem_append.mp m with q |q
  ·exact h1 q
  ·exact hk (List.mem_cons.mpr (Or.inl (List.mem_singleton.mp q).symm))
theorem Ae{kvs:List (κ×V)}{k:κ}(v:V)(hn:(kvs.map (·.1)).Nodup)(h:valV kvs k=none):((putK kvs k v).map (·.1)).Nodup:=by
 rw[sT v h,List.map_append]
 exact vz hn (oG h)
theorem pD{p:κ×V}{r:List (κ×V)}{k:κ}(e:p.1=k):cj (p::r) k=cj r k:=by
 unfold cj
 rw[List.filter_cons,if_neg (by simp[e])]
theorem kC{p:κ×V}{r:List (κ×V)}{k:κ}(e:¬p.1=k):cj (p::r) k=p::cj r k:=by
 unfold cj
 rw[List.filter_cons,if_pos (by simp[e])]
theorem jD:∀{kvs:List (κ×V)} {k:κ},¬k∈kvs.map (·.1)->cj kvs k=kvs
 | [],_,_=>rfl
 |p::r,k,h=>by
  have h':¬k∈r.map (·.1):=fun m=>by
   obtain⟨q,hq,e⟩:=List.mem_map.mp m
   exact h (List.mem_map.mpr ⟨q,List.mem_cons.mpr (Or.inr hq),e⟩)
  rw[kC fun e=>h (List.mem_map.mpr ⟨p,List.mem_cons.mpr (Or.inl rfl),e⟩),jD h']
theorem iU{kvs:List (κ×V)}{k:κ}{p:κ×V}(h:p∈cj kvs k):p∈kvs:=(List.mem_filter.mp h).1
theorem iD:∀{kvs:List (κ×V)} {k:κ},(kvs.map (·.1)).Nodup->((cj kvs k).map (·.1)).Nodup
 | [],_,_=>List.nodup_nil
 |p::r,k,h=>by
  have h:(p.1::r.map (·.1)).Nodup:=h
  obtain⟨h1,h2⟩:=List.nodup_cons.mp h
  by_cases e:p.1=k
  ·rw[pD e]
   exact iD h2
  ·rw[kC e]
   show(p.1::(cj r k).map (·.1)).Nodup
   refine List.nodup_cons.mpr ⟨fun m=>h1 ?_,iD h2⟩
   obtain⟨q,hq,eq⟩:=List.mem_map.mp m
   exact List.mem_map.mpr ⟨q,iU hq,eq⟩
end
end L2
section
set_option maxHeartbeats 4000000
namespace L2
open PySem PySem.Spec PyProof.Rows
theorem tN(env:Env):∀(names:List (Str×NameKind)) (cs:List (Str×Addr)),(∀x∈names,x.2= .free->∃c,env.cells.lookup x.1=some c)->(∀x c,cs.lookup x=some c->env.cells.lookup x=some c)->
  ∃cl,(forIn names cs fun(x:Str×NameKind) (r:List (Str×Addr))=>match x with
   |(name,kind)=>if (kind==NameKind.free)=true then(do let c <-cellOf env name;pure (ForInStep.yield ((name,c)::r))) else(pure (ForInStep.yield r):Sem (ForInStep (List (Str×Addr)))))=(pure cl:Sem (List (Str×Addr)))/\
   (∀x c,cl.lookup x=some c->env.cells.lookup x=some c)/\(∀x,((∃c,cs.lookup x=some c)∨(x,NameKind.free)∈names)->∃c,cl.lookup x=some c):=by
 intro names
 induction names with
 |nil=>intro cs _ h;exact⟨cs,by simp,h,fun x hx=>hx.elim id (fun z=>nomatch z)⟩
 |cons p r ih=>
  intro cs hf h
  obtain⟨name,kind⟩:=p
  by_cases hk:kind= .free
  ·subst hk
   obtain⟨c,hc⟩:=hf _ List.mem_cons_self rfl
   have hc':env.cells.lookup name=some c:=hc
   have e:cellOf env name=pure c:=by unfold cellOf;rw[hc']
   obtain⟨cl,h1,h2,h3⟩:=ih ((name,c)::cs) (fun x hx=>hf x (List.mem_cons_of_mem _ hx)) (fun x c' hx=>by
    rw[List.lookup_cons] at hx
    split at hx
    ·rename_i hb
     have:x=name:=by simpa using hb
     subst this
     cases hx;exact hc'
    ·exact h x c' hx)
   refine⟨cl,?_,h2,fun x hx=>h3 x ?_⟩
   ·rw[List.forIn_cons]
    simp only[beq_self_eq_true,if_true,e,pure_bind]
    exact h1
   ·rcases hx with ⟨c',hx⟩ |hx
    ·by_cases q:x=name
     ·subst q;exact .inl ⟨c,by simp⟩
     ·exact .inl ⟨c',by rw[List.lookup_cons,show(x==name)=false from beq_eq_false_iff_ne.mpr q];exact hx⟩
    ·rcases List.mem_cons.mp hx with z |z
     ·cases z;exact .inl ⟨c,by simp⟩
     ·exact .inr z
  ·obtain⟨cl,h1,h2,h3⟩:=ih cs (fun x hx=>hf x (List.mem_cons_of_mem _ hx)) h
   refine⟨cl,?_,h2,fun x hx=>h3 x ?_⟩
   ·rw[List.forIn_cons]
    have hb:(kind==NameKind.free)=false:=by simpa using hk
    simp only[hb,Bool.false_eq_true,if_false,pure_bind]
    exact h1
   ·rcases hx with hx |hx
    ·exact .inl hx
    ·rcases List.mem_cons.mp hx with z |z
     ·cases z;exact absurd rfl hk
     ·exact .inr z
theorem sj(scope:Scope)(env:Env)(hf:∀x∈scope.names,x.2= .free->∃c,env.cells.lookup x.1=some c):
  ∃cl,closureFor scope env=pure cl/\(∀x c,cl.lookup x=some c->env.cells.lookup x=some c)/\(∀x,(x,NameKind.free)∈scope.names->∃c,cl.lookup x=some c):=by
 obtain⟨cl,h1,h2,h3⟩:=tN env scope.names [] hf (fun x c h=>by simp at h)
 refine⟨cl,?_,h2,fun x hx=>h3 x (.inr hx)⟩
 unfold closureFor
 have e:∀(t:Sem (List (Str×Addr))),t=pure cl->(t >>=fun cs=>pure cs)=pure cl:=fun t ht=>by rw[ht,pure_bind]
 exact e _ h1
theorem qr{prog:Program}{w:World}{A:Around}{R:Result->Shared->Prop}{s:Shared}{elt target iter:Expr}{ifs:List Expr}{scope:Scope}{pos:Pos}{it acc:Value}{env:Env}(I:Nat->Shared->Prop)
  (turn:∀n s,I n s->wpAny (model prog w) A (pyNext it) (fun r s₁=>match r with
   |none=>R (.ok .next) s₁
   |some v=>wpAny (model prog w) A (letOwnedTupleGo target it v) (fun _ s₁'=>wpAny (model prog w) A (assign target env v) (fun _ s₂=>
     wpAny (model prog w) A (forIn ifs true fun c r=>if r=true then do let ok <-isTrue c env (eval c env);pure (ForInStep.yield ok) else pure (ForInStep.yield r)) (fun ok s₃=>
      if ok=true then wpAny (model prog w) A (eval elt env) (fun x s₄=>
       wpAny (model prog w) A (call (.builtin "list.append") [acc,x]) (fun _ s₅=>∃m,m<n/\I m s₅) (fun _ _=>False) s₄) (fun _ _=>False) s₃
      else ∃m,m<n/\I m s₃) (fun _ _=>False) s₂) (fun _ _=>False) s₁') (fun _ _=>False) s₁) (fun _ _=>False) s)
  (n:Nat)(h:I n s):
  codeAny (model prog w) A (.compLoop (.ListComp elt [⟨target,iter,ifs,0⟩] scope pos) 0 it acc env) R s:=by
 refine codeAny_loop rfl I (fun n s hI=>?_) n h
 show wpAny _ A ((compTurn (.ListComp elt [⟨target,iter,ifs,0⟩] scope pos) 0 it acc env).onRaise (fun x=>do noteFrame x env;theTreesLotGoes x)) _ _ s
 refine wpAny_noted ?_
 rw[compTurn_list]
 refine wpAny_bind (wpAny_standAt (wpAny_bind (wpAny_mono (turn n s hI) (fun r s₁ h₁=>?_) fun _ _ h'=>h'.elim)))
 cases r with
 |none=>exact wpAny_pure h₁
 |some v=>
  refine wpAny_bind (wpAny_mono h₁ (fun _ s₁' h₁'=>?_) fun _ _ h'=>h'.elim)
  refine wpAny_bind (wpAny_mono h₁' (fun _ s₂ h₂=>wpAny_bind (wpAny_mono h₂ (fun ok s₃ h₃=>?_) fun _ _ h'=>h'.elim)) fun _ _ h'=>h'.elim)
  cases ok with
  |false=>exact wpAny_pure ⟨rfl,h₃⟩
  |true=>
   exact wpAny_bind (wpAny_bind (wpAny_mono h₃ (fun x s₄ h₄=>wpAny_bind (wpAny_mono h₄ (fun _ s₅ h₅=>wpAny_pure (wpAny_pure ⟨rfl,h₅⟩)) fun _ _ h'=>h'.elim)) fun _ _ h'=>h'.elim))
def cL(X:Cx)(scope:Scope)(own:List Str)(cl:List (Str×Addr))(C:Addr)(s:Shared)(H:Hp)(fp:List Addr):Cx:=
 {X with N:=X.N++own,s₀:=s,H₀:=H,env:=compEnvC scope cl C X.env,outer:=X.stack,ex:=fp,fn:=fun _=>false,pn:=[],xe:=fun _ _=>False}
def PTs(X:Cx)(ifs:List Expr)(t:TT):Prop:=
 ∀(pins:List (Addr×Obj)) (s:Shared) (σ:St) (H:Hp) (Q:Bool->Hp->Prop),Inv X pins σ H s->t σ H Q->
  wpAny (model X.prog X.w) X.A (forIn ifs true fun c r=>if r=true then do let ok <-isTrue c X.env (eval c X.env);pure (ForInStep.yield ok) else pure (ForInStep.yield r)) (TP X pins σ Q) X.xe s
def tYes:TT:=fun _ H Q=>Q true H
theorem fe{X:Cx}:PTs X [] tYes:=fun _ _ _ H _ I h=>wpAny_tests_nil ⟨H,I,h⟩
theorem rA{X:Cx}{c:Expr}{t:TT}(h:PT X c t):PTs X [c] t:=fun pins s σ H Q I q=>wpAny_tests_one (h pins s σ H Q I q)
structure LcScope (X:Cx) (scope:Scope) (own:List Str):Prop where
 kind:scope.kind= .function
 cell:∀y∈scope.names,y.2≠ .cell
 names:∀y∈scope.names,y.2= .local->scope.names.lookup y.1=some .local
 free:∀y∈scope.names,y.2= .free->X.env.kindOf y.1=some .cell∨X.env.kindOf y.1=some .free
 loc:∀y∈scope.names,y.2= .local->y.1∉X.N
theorem cB{scope:Scope}{env:Env}{x:Str}:∀{names:List (Str×NameKind)},(∀y∈names,y.2≠NameKind.cell)->
  ∀k,(names.map fun(n,k)=>if (k==NameKind.free&&env.scope.kind== .function&&env.kindOf n==some .cell) then(n,NameKind.cell) else(n,k)).lookup x=some k->
   (k= .cell->(x,NameKind.free)∈names)/\(k= .free->(x,NameKind.free)∈names)/\(k= .local->(x,NameKind.local)∈names)
 | [],_,k,h=>by simp at h
 |(n,k0)::r,hc,k,h=>by
  have ih:=cB (scope:=scope) (env:=env) (x:=x) (names:=r) (fun y hy=>hc y (List.mem_cons_of_mem _ hy))
  have h:List.lookup x ((if (k0==NameKind.free&&env.scope.kind== .function&&env.kindOf n==some .cell)=true then(n,NameKind.cell) else(n,k0))::_)=some k:=h
  cases hx:x==n with
  |true=>
   have e:x=n:=by simpa using hx
   subst e
   by_cases hb:(k0==NameKind.free&&env.scope.kind== .function&&env.kindOf x==some .cell)=true
   ·have e0:k0=NameKind.free:=by
     simp only[Bool.and_eq_true] at hb
     simpa using hb.1.1
    rw[if_pos hb] at h
    simp only[List.lookup_cons,hx] at h
    have ek:NameKind.cell=k:=Option.some.inj h
    clear h
    subst ek
    rw[e0]
    exact⟨fun _=>List.mem_cons_self,fun z=>(nomatch z),fun z=>(nomatch z)⟩
   ·rw[if_neg hb] at h
    simp only[List.lookup_cons,hx] at h
    cases h
    exact⟨fun z=>absurd z (hc _ List.mem_cons_self),fun z=>by subst z;exact List.mem_cons_self,fun z=>by subst z;exact List.mem_cons_self⟩
  |false=>
   have h':List.lookup x (r.map fun(n,k)=>if (k==NameKind.free&&env.scope.kind== .function&&env.kindOf n==some .cell) then(n,NameKind.cell) else(n,k))=some k:=by
    by_cases hb:(k0==NameKind.free&&env.scope.kind== .function&&env.kindOf n==some .cell)=true
    ·rw[if_pos hb] at h
     simp only[List.lookup_cons,hx] at h
     exact h
    ·rw[if_neg hb] at h
     simp only[List.lookup_cons,hx] at h
     exact h
   obtain⟨a,b,c⟩:=ih k h'
   exact⟨fun z=>List.mem_cons_of_mem _ (a z),fun z=>List.mem_cons_of_mem _ (b z),fun z=>List.mem_cons_of_mem _ (c z)⟩
def Cz(scope:Scope)(en:List (Str×NameKind))(N:List Str):Bool:=
 (match scope.kind with | .function=>true |_=>false)&&scope.names.all fun y=>match y.2 with
  | .cell=>false
  | .local=>(match scope.names.lookup y.1 with |some .local=>true |_=>false)&& !N.contains y.1
  | .free=>(match en.lookup y.1 with |some .cell=>true |some .free=>true |_=>false)
  |_=>true
theorem LcScope.of{X:Cx}{scope:Scope}{own:List Str}(h:Cz scope X.env.scope.names X.N=true):LcScope X scope own:=by
 unfold Cz at h
 obtain⟨h1,h2⟩:=(Bool.and_eq_true _ _).mp h
 have h2:=List.all_eq_true.mp h2
 refine⟨?_,fun y hy e=>?_,fun y hy e=>?_,fun y hy e=>?_,fun y hy e=>?_⟩
 ·revert h1;cases scope.kind<;>simp
 ·have:=h2 y hy
  simp[e] at this
 ·have:=h2 y hy
  simp only[e,Bool.and_eq_true] at this
  have z:=this.1
  revert z
  cases q:scope.names.lookup y.1 with
  |none=>simp
  |some k=>cases k<;>simp
 ·have:=h2 y hy
  simp only[e] at this
  show X.env.scope.names.lookup y.1=some .cell∨X.env.scope.names.lookup y.1=some .free
  revert this
  cases q:X.env.scope.names.lookup y.1 with
  |none=>simp
  |some k=>cases k<;>simp
 ·have:=h2 y hy
  simp only[e,Bool.and_eq_true] at this
  simpa using this.2
section
variable {X : Cx} {pins : List (Addr × Obj)} {σ : St} {H : Hp} {s : Shared}
theorem tO{scope:Scope}{own:List Str}{cl:List (Str×Addr)}{C:Addr}{fp:List Addr}{h1:Heap}{tk:Nat}{m:Str->Option Value}(S:LcScope X scope own)
  (c1:∀x c,cl.lookup x=some c->X.env.cells.lookup x=some c)(c2:∀x,(x,NameKind.free)∈scope.names->∃c,cl.lookup x=some c)
  (I:Inv X pins σ H s)(hf:∀b∈fp,FpOk X pins H b)(ho:∀b∈fp,∃o,s.heap.get? b=some o)(hC:C=s.heap.objs.size)(hn:h1.Ns C m)(k:∀b o,s.heap.get? b=some o->h1.get? b=some o):
  Inv (cL X scope own cl C s H fp) [] (σ++List.replicate own.length none) H {s with heap:=h1,toks:=tk}:=by
 subst hC
 have e0:=I.env0
 refine⟨⟨e0.mod,S.kind,I.ok.glob,I.ok.blt,Nat.le_refl _,fun x y c h1 h2=>I.ok.inj x y c (c1 x c h1) (c1 y c h2),fun x hx=>?_,fun x c h _=>absurd h Bool.false_ne_true,I.ok.hd,I.ok.frames,.inl rfl,fun b hb=>⟨?_,fun x c h z=>?_⟩,e0.bs,e0.bsz,fun b o e hb=>?_,fun b hb z=>?_,e0.funs,e0.frf⟩,
  rfl,I.bare,Un.kept k,⟨m,hn,fun i x v e1 e2 e3=>?_⟩,fun x c h=>?_,I.hok.fresh (Nat.le_refl _),fun x c h=>I.freeC x c (c1 x c h),fun p hp=>absurd (show p∈([]:List (Addr×Obj)) from hp) (by simp),I.hok.kept k,?_⟩
 ·have hx:(relabel scope X.env).names.lookup x=some .cell∨(relabel scope X.env).names.lookup x=some .free:=hx
  rcases hx with hx |hx
  ·exact c2 x ((cB (scope:=scope) S.cell _ hx).1 rfl)
  ·exact c2 x ((cB (scope:=scope) S.cell _ hx).2.1 rfl)
 ·obtain⟨o,e⟩:=ho b hb
  exact Nat.ne_of_lt (Heap.lt_size e)
 ·exact(hf b hb).2.2.2.2.1 x c (c1 x c h) z
 ·obtain⟨_,_,_,f3,_⟩:=hf b hb
  rcases f3 with z |z
  ·exact I.ok.noex b o e z
  ·exact absurd (Nat.lt_of_lt_of_le (Heap.lt_size (I.ok.bs b o e).1) z) (Nat.lt_irrefl _)
 ·obtain⟨_,f1,f2,_⟩:=hf b hb
  rcases List.mem_cons.mp (I.stkSub b z) with q |q
  ·exact f1 q
  ·exact f2 q
 ·have hi:i<σ.length:=by
   by_cases hi:i<σ.length
   ·exact hi
   ·rw[List.getElem?_append_right (by omega),List.getElem?_replicate] at e2
    split at e2<;>cases e2
  rw[List.getElem?_append_left hi] at e2
  have e1:X.N[i]?=some x:=by
   have hl:i<X.N.length:=by rw[<-I.len];exact hi
   rw[<-e1]
   show X.N[i]?=(X.N++own)[i]?
   rw[List.getElem?_append_left hl]
  have e3:(relabel scope X.env).names.lookup x=some .local∨(relabel scope X.env).names.lookup x=some .cell∨(relabel scope X.env).names.lookup x=some .free:=e3
  have fr:(x,NameKind.free)∈scope.names:=by
   rcases e3 with z |z |z
   ·exact absurd (List.mem_of_getElem? e1) (S.loc _ ((cB (scope:=scope) S.cell _ z).2.2 rfl) rfl)
   ·exact(cB (scope:=scope) S.cell _ z).1 rfl
   ·exact(cB (scope:=scope) S.cell _ z).2.1 rfl
  have kk:=S.free _ fr rfl
  have vs:Vis X.env.scope x:=by
   rcases kk with z |z
   ·exact .inr (.inl z)
   ·exact .inr (.inr z)
  obtain⟨m0,hn0,hl0⟩:=I.loc
  obtain⟨u,r,l⟩:=hl0 i x v e1 e2 vs
  refine⟨u,r,?_⟩
  have k2:X.env.kindOf x=some .cell∨X.env.kindOf x=some .free:=kk
  rcases l with ⟨l,_⟩ |⟨_,c,hc,hce⟩
  ·rcases k2 with z |z
   ·rw[z] at l;cases l
   ·rw[z] at l;cases l
  ·obtain⟨c',hc'⟩:=c2 x fr
   have:c'=c:=Option.some.inj ((c1 x c' hc').symm.trans hc)
   subst this
   refine .inr ⟨?_,c',hc',?_⟩
   ·rcases e3 with z |z |z
    ·exact absurd (List.mem_of_getElem? e1) (S.loc _ ((cB (scope:=scope) S.cell _ z).2.2 rfl) rfl)
    ·exact .inl z
    ·exact .inr z
   ·obtain⟨o,ho',hd⟩:=hce
    exact⟨o,k _ _ ho',hd⟩
 ·obtain⟨v,o,ho',hd⟩:=I.cell x c (c1 x c h)
  exact⟨v,o,k _ _ ho',hd⟩
 ·show(σ++List.replicate own.length none).length=(X.N++own).length
  rw[List.length_append,List.length_append,List.length_replicate,I.len]
def LcW(J:It)(D:Addr)(n:Nat)(g:TG)(tc:TT)(te:TE)(σ:St)(Qd:Addr->Hp->Prop)(H1:Hp):Prop:=
 ∃W:Nat->Nat->Hp->Prop,(∃m,W 0 m (upd H1 D (.lst [])))/\
  ∀i m H,W i m H->(J.stop i H/\Qd D H)∨(J.go i H/\∃N:Hp->Prop,(∀H',N H'->∃m',m'<m/\W (i+1) m' H')/\∀x H',J.yld i H x H'->g x (σ++List.replicate n none) H' fun σ2 H2=>(∀(j:Nat) v,(σ++List.replicate n none)[j]?=some (some v)->σ2[j]?=some (some v))/\tc σ2 H2 fun b H3=>
   if b=true then te σ2 H3 fun y H4=>∃ys,H4 D=some (.lst ys)/\ys.length<sizeLine/\N (upd H4 D (.lst (ys++ [y]))) else N H3)
def tLcR(n:Nat)(wi:TI)(g:TG)(tc:TT)(te:TE)(σ:St)(H:Hp)(Qd:Addr->Hp->Prop):Prop:=wi σ H fun J H1=>∀D,H1 D=none->LcW J D n g tc te σ Qd H1
theorem sk {elt iter tg : Expr} {ifs : List Expr} {scope : Scope} {pos cpos : Pos} {own : List Str} {wi : TI} {g : TG} {tc : TT} {te : TE} {use : Option (Value -> Sem Unit)} {Q : Value -> Shared -> Prop} {Qd : Addr -> Hp -> Prop}
    (hc : X.calm = true) (S : LcScope X scope own) (hi : PI X tg iter wi)
    (hb : ∀ cl C s H fp, PG (cL X scope own cl C s H fp) tg g /\ PTs (cL X scope own cl C s H fp) ifs tc /\ PE (cL X scope own cl C s H fp) elt te)
    (hs : ∀ x, foldedSetIterable iter X.env x = pure x)
    (I : Inv X pins σ H s) (h : tLcR own.length wi g tc te σ H Qd)
    (hpost : ∀ D C H' s' m, Inv X pins σ H' s' -> FpOk X pins H' C -> s'.heap.Ns C m -> Qd D H' -> compPost (model X.prog X.w) X.A X.xe use Q (.ref D) C (.ok .next) s') :
    wpAny (model X.prog X.w) X.A (comprehension (.ListComp elt [⟨tg, iter, ifs, 0⟩] scope pos) scope X.env cpos (newList []) false (eval iter X.env) use) Q X.xe s := by
  have hf : ∀ x ∈ scope.names, x.2 = .free -> ∃ c, X.env.cells.lookup x.1 = some c := fun x hx e => I.ok.has x.1 (S.free x hx e)
  obtain ⟨cl, hcl, c1, c2⟩ := sj scope X.env hf
  refine wpAny_comprehension_free (g := ⟨tg, iter, ifs, 0⟩) rfl hs hcl S.kind S.names (thn (hi pins s σ H _ I h) fun v s1 h1 => thn h1 fun itv s2 h2 => ?_)
  obtain ⟨it, fp, tn, J, H2, rfl, I2, T, st2, f2, q2⟩ := h2
  refine wpAny_newObj_type (hd := by size_fits) (wpAny_newFunctionEnv S.cell (by intro y hy; simp at hy) (fun h₁ hns₁ hsb₁ => ?_) S.kind)
  dsimp only at hns₁ hsb₁ ⊢
  have hD := I2.fresh
  obtain ⟨W, ⟨m0, w0⟩, turn⟩ := q2 _ hD
  have I3 : Inv X pins σ (upd H2 s2.heap.objs.size (.lst [])) { s2 with heap := s2.heap.push { cls := .type "list", data := .seq ([] : List Value).toArray }, toks := s2.toks } := I2.lnew .nil (Nat.zero_le _)
  generalize hs3 : ({ s2 with heap := s2.heap.push { cls := .type "list", data := .seq ([] : List Value).toArray }, toks := s2.toks } : Shared) = s3 at I3
  have e3 : s3.heap = s2.heap.push { cls := .type "list", data := .seq ([] : List Value).toArray } := by rw [<- hs3]
  have k3 : ∀ b o, s2.heap.get? b = some o -> s3.heap.get? b = some o := fun b o e => by rw [e3]; exact Heap.get?_push_of_some _ e
  have hC : (s2.heap.push { cls := .type "list", data := .seq ([] : List Value).toArray }).objs.size = s3.heap.objs.size := by rw [e3]
  have k4 : ∀ b o, s3.heap.get? b = some o -> h₁.get? b = some o := fun b o e => by
    have hb : b ≠ s3.heap.objs.size := Nat.ne_of_lt (Heap.lt_size e)
    refine (hsb₁.2 b (by rw [hC]; exact hb)).trans ?_
    rw [e3] at e
    exact Heap.get?_push_of_some _ e
  have nD : ∀ b ∈ fp, b ≠ s2.heap.objs.size := fun b hb => by
    obtain ⟨o, e, _⟩ := T.obj _ _ st2 b hb
    exact Nat.ne_of_lt (Heap.lt_size e)
  have f3 : ∀ b ∈ fp, FpOk X pins (upd H2 s2.heap.objs.size (.lst [])) b := fun b hb => by
    obtain ⟨g0, g1⟩ := f2 b hb
    exact ⟨by rw [aj (nD b hb)]; exact g0, g1⟩
  have o3 : ∀ b ∈ fp, ∃ o, s3.heap.get? b = some o := fun b hb => by
    obtain ⟨o, e, _⟩ := T.obj _ _ st2 b hb
    exact ⟨o, k3 b o e⟩
  have hgen : s3.gens = s2.gens /\ s3.os = s2.os /\ s3.drawn = s2.drawn /\ s3.toks = s2.toks := by rw [<- hs3]; exact ⟨rfl, rfl, rfl, rfl⟩
  have I4 := tO (tk := s2.toks) (h1 := h₁) S c1 c2 I3 f3 o3 hC hns₁ k4
  generalize hCC : (s2.heap.push { cls := .type "list", data := .seq ([] : List Value).toArray }).objs.size = C at *
  have e4 : ({ s3 with heap := h₁, toks := s2.toks } : Shared) = { s2 with heap := h₁, toks := s2.toks } := by rw [<- hs3]
  rw [e4] at I4
  have st4 : tn 0 h₁ := T.keep _ _ _ st2 fun b hb o e => k4 b o (k3 b o e)
  obtain ⟨bG, bT, bE⟩ := hb cl C s3 (upd H2 s2.heap.objs.size (.lst [])) fp
  generalize hX : cL X scope own cl C s3 (upd H2 s2.heap.objs.size (.lst [])) fp = X' at *
  have xP : X'.prog = X.prog := by rw [<- hX]; rfl
  have xw : X'.w = X.w := by rw [<- hX]; rfl
  have xK : X'.K = X.K := by rw [<- hX]; rfl
  have xA : X'.A = X.A := by rw [<- hX]; rfl
  have xc : X'.calm = true := by rw [<- hX]; exact hc
  have xE : X'.env = compEnvC scope cl C X.env := by rw [<- hX]; rfl
  have xx : X'.xe = fun _ _ => False := by rw [<- hX]; rfl
  have xpn : X'.pn = [] := by rw [<- hX]; rfl
  have hCs : C = s3.heap.objs.size := hC
  -- the iterator's objects through the loop
  have stat : ∀ {H' : Hp}, (∀ b ∈ fp, H' b = none) -> ∀ b ∈ fp, FpOk X' [] H' b := fun {H'} hn b hb => by
    have z := (I4.ok.exf b (by rw [<- hX]; exact hb))
    refine ⟨hn b hb, z.1, I4.ok.exfs b (by rw [<- hX]; exact hb), .inl (by rw [<- hX]; exact hb), z.2, fun p hp => ?_⟩
    rw [xpn] at hp
    exact absurd hp (by simp)
  -- behind the block
  have fin : ∀ {H' : Hp} {s' : Shared} {σ' : St}, Inv X' [] σ' H' s' -> Qd s2.heap.objs.size H' -> compPost (model X.prog X.w) X.A X.xe use Q (.ref s2.heap.objs.size) C (.ok .next) s' := fun {H' s' σ'} I' q => by
    have un : Un (frs X.stack) fp (upd H2 s2.heap.objs.size (.lst [])) H' s3.heap s'.heap := by
      have z := I'.base
      rw [<- hX] at z
      exact z
    have os : s'.os = s3.os := by
      have z := I'.os
      rw [<- hX] at z
      exact z
    have hok : HOk X.prog X.w H' s'.heap := by rw [<- xP, <- xw]; exact I'.hok
    obtain ⟨hh, gg, dd, tt, oo⟩ := s'
    obtain rfl : oo = s3.os := os
    have IX : Inv X pins σ H' { s3 with heap := hh, gens := gg, drawn := dd, toks := tt } := I3.call (ch := fp) un hok I'.bare fun b hb => by
      obtain ⟨g0, g1, g2, g3, g4, g5⟩ := f3 b hb
      exact ⟨g3, g1, g4, g5⟩
    obtain ⟨m, hn, _⟩ := I'.loc
    have hn : hh.Ns C m := by rw [xE] at hn; exact hn
    have hfr : H' C = none := by have z := I'.free; rw [xE] at z; exact z
    refine hpost _ C H' _ m IX ?_ hn q
    refine ⟨hfr, ?_, ?_, .inr ?_, fun x c hx z => ?_, fun p hp z => ?_⟩
    · rw [hCs]; exact Nat.ne_of_gt I3.lt
    · rw [hCs]; exact I3.nofs (Nat.le_refl _)
    · rw [hCs]; exact I3.sz
    · obtain ⟨v, o, ho, _⟩ := I3.cell x c hx
      exact absurd (Heap.lt_size ho) (by rw [z, hCs]; exact Nat.lt_irrefl _)
    · exact absurd (Heap.lt_size (I3.pin p hp).1) (by rw [z, hCs]; exact Nat.lt_irrefl _)
  have loop : ∀ s₃ : Shared, s₃ = { s2 with heap := h₁, toks := s2.toks } ->
      codeAny (model X.prog X.w) X.A (.compLoop (.ListComp elt [⟨tg, iter, ifs, 0⟩] scope pos) 0 (.ref it) (.ref s2.heap.objs.size) (compEnvC scope cl C X.env)) (compPost (model X.prog X.w) X.A X.xe use Q (.ref s2.heap.objs.size) C) s₃ := by
    rintro s₃ rfl
    rw [<- xP, <- xw, <- xA, <- xE]
    refine qr (fun n s' => ∃ i H', Inv X' [] (σ ++ List.replicate own.length none) H' s' /\ tn i s'.heap /\ (∀ b ∈ fp, H' b = none) /\ W i n H') ?_ m0 ⟨0, _, I4, st4, fun b hb => (f3 b hb).1, w0⟩
    rintro n s5 ⟨i, H5, I5, st5, fr5, w5⟩
    rcases turn i n H5 w5 with ⟨stop, qn⟩ | ⟨go, N, hN, step⟩
    · have zd := T.done X' xP xw xK xc i [] s5 _ H5 (fun _ _ => False) I5 (stat fr5) st5 stop
      rw [<- xP, <- xw] at zd
      refine thn zd fun r s6 ⟨hr, I6⟩ => ?_
      subst hr
      have z := fin I6 qn
      rw [<- xP, <- xw, <- xA] at z
      exact z
    · have zi := T.item X' xP xw xK xc i [] s5 _ H5 (fun _ _ => False) I5 (stat fr5) st5 go
      rw [<- xP, <- xw] at zi
      refine thn zi fun r s6 ⟨u, hr, h6⟩ => ?_
      subst hr
      refine thn h6 fun _ s7 ⟨x, H7, I7, r7, y7, st7, fr7⟩ => ?_
      have I7' := I7.pinned (stat fr7) (T.obj _ _ st7)
      have bG' := bG _ s7 _ H7 x u _ I7' r7 (step x H7 y7)
      rw [xx] at bG'
      refine thn bG' fun _ s8 ⟨σ8, H8, I8, w8, q8⟩ => ?_
      have bT' := bT _ s8 σ8 H8 _ I8 q8
      rw [xx] at bT'
      refine thn bT' fun b s9 ⟨H9, I9, q9⟩ => ?_
      have again : ∀ {H10 : Hp} {s10 : Shared}, Inv X' ([] ++ nM fp s7.heap) σ8 H10 s10 -> N H10 -> ∃ m, m < n /\ ∃ i H', Inv X' [] (σ ++ List.replicate own.length none) H' s10 /\ tn i s10.heap /\ (∀ b ∈ fp, H' b = none) /\ W i m H' := fun {H10 s10} I10 n10 => by
        obtain ⟨m', hm, w10⟩ := hN H10 n10
        refine ⟨m', hm, i + 1, H10, ?_, T.keep _ _ _ st7 fun b hb o e => (I10.pin (b, o) (List.mem_append_right _ (List.mem_append_right _ (gS hb e)))).1, fun b hb => ?_, w10⟩
        · exact I10.unpinned.weak (by rw [I5.len, I10.len]) w8
        · obtain ⟨o, e, d⟩ := T.obj _ _ st7 b hb
          exact (I10.pin (b, o) (List.mem_append_right _ (List.mem_append_right _ (gS hb e)))).2.1
      cases b with
      | false =>
        rw [if_neg Bool.false_ne_true] at q9 ⊢
        exact again I9 q9
      | true =>
        rw [if_pos rfl] at q9 ⊢
        have bE' := bE _ s9 σ8 H9 _ I9 q9
        rw [xx] at bE'
        refine thn bE' fun y s10 ⟨vy, H10, I10, r10, ys, hy1, hy2, hy3⟩ => ?_
        have ap := dX (X := X') _ s10 σ8 H10 (.ref s2.heap.objs.size) [vy] (.ref s2.heap.objs.size) [y] (fun _ H' => N H') I10 rfl (.cons r10 .nil) ⟨_, ys, vy, rfl, rfl, hy1, hy2, hy3⟩
        rw [xx] at ap
        exact thn ap fun _ s11 ⟨_, H11, I11, _, n11⟩ => again I11 n11
  exact codeAny_compStart_list (loop _ rfl) (wpAny_mono (T.self X.A 0 _ (fun v s' => v = .ref it /\ s' = { s2 with heap := h₁, toks := s2.toks }) _ st4 ⟨rfl, rfl⟩) (fun v s' ⟨e1, e2⟩ => by subst e1; exact loop _ e2) fun _ _ z => z)
end
end L2
end
section
set_option maxHeartbeats 4000000
namespace L2
open PySem PySem.Spec PyProof.Rows
section
variable {X : Cx} {elt iter tg : Expr} {ifs : List Expr} {scope : Scope} {pos : Pos} {own : List Str} {wi : TI} {g : TG} {tc : TT} {te : TE}
def tLc(n:Nat)(wi:TI)(g:TG)(tc:TT)(te:TE):TE:=fun σ H Q=>tLcR n wi g tc te σ H fun D H'=>Q (.ref D) H'
theorem jf(hc:X.calm=true)(S:LcScope X scope own)(hi:PI X tg iter wi)
  (hb:∀cl C s H fp,PG (cL X scope own cl C s H fp) tg g/\PTs (cL X scope own cl C s H fp) ifs tc/\PE (cL X scope own cl C s H fp) elt te)
  (hs:∀x,foldedSetIterable iter X.env x=pure x:=by intro _;rfl):PE X (.ListComp elt [⟨tg,iter,ifs,0⟩] scope pos) (tLc own.length wi g tc te):=by
 intro pins s σ H Q I h
 rw[eval_ListComp]
 refine sk (use:=none) hc S hi hb hs I h fun D C H' s' m I' f hn q=>?_
 refine⟨m,hn,fun h' sb=>⟨.ref D,H',?_,rfl,q⟩⟩
 obtain⟨f0,f1,f2,f3,f4,f5⟩:=f
 exact I'.turned (t':=s'.toks) (fun b o hb e=>(sb.2 b hb).trans e) f0 f1 f3 f4 f5
def sLc(n i:Nat)(wi:TI)(g:TG)(tc:TT)(te:TE):TS:=fun D σ H=>tLcR n wi g tc te σ H fun d H'=>D.nx (σ.set i (some (.ref d))) H'
theorem sS{i:Nat}{x:Str}{px spos:Pos}(hc:X.calm=true)(S:LcScope X scope own)(hi:PI X tg iter wi)
  (hb:∀cl C s H fp,PG (cL X scope own cl C s H fp) tg g/\PTs (cL X scope own cl C s H fp) ifs tc/\PE (cL X scope own cl C s H fp) elt te)
  (hN:X.N.Nodup)(hx:X.N[i]?=some x)(hl:Loc X.env.scope x)
  (hsw:swapsWith (.ListComp elt [⟨tg,iter,ifs,0⟩] scope pos) (some (.Name x px)) spos.line X.env=pure true)
  (hs:∀x,foldedSetIterable iter X.env x=pure x:=by intro _;rfl)(hf:X.fn x=true∨X.env.scope.names.lookup x=some .local:=by first |exact .inl rfl |exact .inr rfl |assumption):
  PS X (.Assign [.Name x px] (.ListComp elt [⟨tg,iter,ifs,0⟩] scope pos) spos) (sLc own.length i wi g tc te):=by
 intro pins s σ H D I h
 rw[exec_Assign_Name_used _ _ _ _ hsw]
 refine wpAny_bind (wpAny_standAt (wpAny_bind ?_))
 show wpAny _ X.A (do let _ <-comprehension (.ListComp elt [⟨tg,iter,ifs,0⟩] scope pos) scope X.env _ (newList []) false (eval iter X.env) (some (assign (.Name x px) X.env))) _ _ s
 refine wpAny_bind (thn (sk (use:=some (assign (.Name x px) X.env)) (Q:=fun _ s'=>SP X pins D .next s') hc S hi hb hs I h fun d C H' s' m I' f hn q=>?_) fun _ s' hq=>wpAny_pure (wpAny_pure hq))
 obtain⟨f0,f1,f2,f3,f4,f5⟩:=f
 obtain⟨o,es,ep,ho,hd,hr⟩:=id hn
 have Ip:Inv X (pins++ [(C,o)]) σ H' s':=I'.pins_of fun p hp=>by
  rcases List.mem_append.mp hp with z |z
  ·exact I'.pin p (List.mem_append_right _ z)
  ·obtain rfl:p=(C,o):=by simpa using z
   exact⟨ho,f0,f1,f2,fun v z=>by rw[hd] at z;cases z⟩
 refine thn (aV hN hx hl hf (X:=X) (pos:=px) (pins++ [(C,o)]) s' σ H' (.ref d) (.ref d) (fun σ' H''=>D.nx σ' H'') Ip rfl q) fun _ s2 ⟨σ2,H2,I2,q2⟩=>?_
 obtain⟨k1,k2,_⟩:=I2.pin (C,o) (List.mem_append_right _ (List.mem_append_right _ (by simp)))
 refine⟨m,⟨o,es,ep,k1,hd,hr⟩,fun h' sb=>⟨σ2,H2,?_,q2⟩⟩
 exact I2.unpinned.turned (t':=s2.toks) (fun b o hb e=>(sb.2 b hb).trans e) k2 f1 f3 f4 f5
end
mutual
inductive Dt (K : PySem.W.Frag) (H : Hp) : V → PyData → Prop
  | non : Dt K H .non .none
  | bl (b : Bool) : Dt K H (.bl b) (.bool b)
  | int (i : Int) : Dt K H (.int i) (.int i)
  | str (x : Str) : Dt K H (.str x) (.str x)
  | lst {a : Addr} {xs : List V} {ds : List PyData} : SqL K H a xs → Dts K H xs ds → Dt K H (.ref a) (.list ds)
  | tup {a : Addr} {xs : List V} {ds : List PyData} : SqT K H a xs → Dts K H xs ds → Dt K H (.ref a) (.tuple ds)
inductive Dts (K : PySem.W.Frag) (H : Hp) : List V → List PyData → Prop
  | nil : Dts K H [] []
  | cons {v : V} {d : PyData} {vs : List V} {ds : List PyData} : Dt K H v d → Dts K H vs ds → Dts K H (v :: vs) (d :: ds)
end
section
variable {X : Cx} {pins : List (Addr × Obj)} {σ : St} {H : Hp} {s : Shared}
mutual
theorem Dt.reads (I : Inv X pins σ H s) : ∀ {v : V} {d : PyData} {u : Value}, Dt X.K H v d → RelV v u → ∃ as, Reads s.heap u d as
  | _, _, _, .non, r => by cases r; exact ⟨_, .none⟩
  | _, _, _, .bl b, r => by cases r; exact ⟨_, .bool b⟩
  | _, _, _, .int i, r => by obtain ⟨t, rfl⟩ := r; exact ⟨_, .int i t⟩
  | _, _, _, .str x, r => by obtain ⟨t, rfl⟩ := r; exact ⟨_, .str x t⟩
  | _, _, _, .lst q ds, r => by
    cases r
    obtain ⟨its, rv, ⟨o, n, e, hc, _, hd⟩, _⟩ := I.list q
    obtain ⟨as, ra⟩ := Dts.reads I ds rv
    exact ⟨_, .list e hc hd (by simpa using ra)⟩
  | _, _, _, .tup q ds, r => by
    cases r
    obtain ⟨its, rv, ⟨o, e, hc, n, hd⟩, _⟩ := I.tuple q
    obtain ⟨as, ra⟩ := Dts.reads I ds rv
    exact ⟨_, .tuple e hc hd (by simpa using ra)⟩
theorem Dts.reads (I : Inv X pins σ H s) : ∀ {vs : List V} {ds : List PyData} {us : List Value}, Dts X.K H vs ds → Vals vs us → ∃ as, ReadsAll s.heap us ds as
  | _, _, _, .nil, r => by cases r; exact ⟨_, .nil⟩
  | _, _, _, .cons d ds, r => by
    cases r with
    | cons r rr =>
      obtain ⟨as, ra⟩ := Dt.reads I d r
      obtain ⟨bs, rb⟩ := Dts.reads I ds rr
      exact ⟨_, .cons ra rb⟩
end
def CO(K:PySem.W.Frag)(A:Around):R2:=fun x y H Q=>∃d e,Dt K H x d/\Dt K H y e/\d.canLay0=true/\e.canLay0=true/\A.units+min d.depth e.depth<cLine/\Q (.bl (PyData.eqv d e)) H
def CP(K:PySem.W.Frag)(A:Around):R2:=fun x y H Q=>∃d e,Dt K H x d/\Dt K H y e/\d.canLay0=true/\e.canLay0=true/\A.units+min d.depth e.depth<cLine/\Q (.bl (!PyData.eqv d e)) H
theorem uu:OpR X (compareOp .Eq) (CO X.K X.A):=by
 intro pins s σ H x y v u Q I rx ry h
 obtain⟨d,e,dx,dy,h1,h2,hu,q⟩:=h
 obtain⟨as,ra⟩:=dx.reads I rx
 obtain⟨bs,rb⟩:=dy.reads I ry
 exact SeqAt.rcAt_reads ra rb h1 h2 hu X.prog X.w X.xe _ ⟨.bl _,H,I,rfl,q⟩
theorem uv:OpR X (compareOp .NotEq) (CP X.K X.A):=by
 intro pins s σ H x y v u Q I rx ry h
 obtain⟨d,e,dx,dy,h1,h2,hu,q⟩:=h
 obtain⟨as,ra⟩:=dx.reads I rx
 obtain⟨bs,rb⟩:=dy.reads I ry
 exact SeqAt.rcNeAt_reads ra rb h1 h2 hu X.prog X.w X.xe _ ⟨.bl _,H,I,rfl,q⟩
def tyN(H:Hp):V->Option String
 | .non=>some "NoneType"
 | .bl _=>some "bool"
 | .int _=>some "int"
 | .str _=>some "str"
 | .ref a=>match H a with
  |some (.lst _)=>some "list"
  |some (.frz _ (.lst _))=>some "list"
  |some (.tup _)=>some "tuple"
  |some (.dK _)=>some "dict"
  |some (.dT _)=>some "dict"
  |_=>none
 |_=>none
def bv(a b:String):Bool:=a==b||(a=="bool"&&b=="int")
abbrev cU:List String:=["bool","int","str","list","tuple","dict"]
theorem zn{H:Hp}{x:V}{tn:String}(h:tyN H x=some tn):TyOf X.K H x (.type tn)/\(tn="NoneType"∨tn∈cU):=by
 cases x with
 |non=>cases h;exact⟨.non,by decide⟩
 |bl b=>cases h;exact⟨.bl b,by decide⟩
 |int i=>cases h;exact⟨.int i,by decide⟩
 |str z=>cases h;exact⟨.str z,by decide⟩
 |byt _=>cases h
 |flt _=>cases h
 |ty _=>cases h
 |ref a=>
  simp only[tyN] at h
  split at h
  ·rename_i xs e;cases h;exact⟨.lst e,by decide⟩
  ·rename_i o xs e;cases h;exact⟨.frz e,by decide⟩
  ·rename_i xs e;cases h;exact⟨.tup e,by decide⟩
  ·rename_i kvs e;cases h;exact⟨.dK e,by decide⟩
  ·rename_i kvs e;cases h;exact⟨.dT e,by decide⟩
  ·cases h
theorem jK{K:PySem.W.Frag}:PySem.W.kitOne K (.type "NoneType") (.type "bool")=some false:=by kernel_rfl
theorem kI{K:PySem.W.Frag}:PySem.W.kitOne K (.type "NoneType") (.type "int")=some false:=by kernel_rfl
theorem kJ{K:PySem.W.Frag}:PySem.W.kitOne K (.type "NoneType") (.type "str")=some false:=by kernel_rfl
theorem jM{K:PySem.W.Frag}:PySem.W.kitOne K (.type "NoneType") (.type "list")=some false:=by kernel_rfl
theorem jl{K:PySem.W.Frag}:PySem.W.kitOne K (.type "NoneType") (.type "tuple")=some false:=by kernel_rfl
theorem jL{K:PySem.W.Frag}:PySem.W.kitOne K (.type "NoneType") (.type "dict")=some false:=by kernel_rfl
theorem oK{K:PySem.W.Frag}:PySem.W.kitOne K (.type "bool") (.type "bool")=some true:=by kernel_rfl
theorem qD{K:PySem.W.Frag}:PySem.W.kitOne K (.type "bool") (.type "int")=some true:=by kernel_rfl
theorem qE{K:PySem.W.Frag}:PySem.W.kitOne K (.type "bool") (.type "str")=some false:=by kernel_rfl
theorem oN{K:PySem.W.Frag}:PySem.W.kitOne K (.type "bool") (.type "list")=some false:=by kernel_rfl
theorem mM{K:PySem.W.Frag}:PySem.W.kitOne K (.type "bool") (.type "tuple")=some false:=by kernel_rfl
theorem oM{K:PySem.W.Frag}:PySem.W.kitOne K (.type "bool") (.type "dict")=some false:=by kernel_rfl
theorem qH{K:PySem.W.Frag}:PySem.W.kitOne K (.type "int") (.type "bool")=some false:=by kernel_rfl
theorem sB{K:PySem.W.Frag}:PySem.W.kitOne K (.type "int") (.type "int")=some true:=by kernel_rfl
theorem sC{K:PySem.W.Frag}:PySem.W.kitOne K (.type "int") (.type "str")=some false:=by kernel_rfl
theorem qJ{K:PySem.W.Frag}:PySem.W.kitOne K (.type "int") (.type "list")=some false:=by kernel_rfl
theorem oS{K:PySem.W.Frag}:PySem.W.kitOne K (.type "int") (.type "tuple")=some false:=by kernel_rfl
theorem qI{K:PySem.W.Frag}:PySem.W.kitOne K (.type "int") (.type "dict")=some false:=by kernel_rfl
theorem qM{K:PySem.W.Frag}:PySem.W.kitOne K (.type "str") (.type "bool")=some false:=by kernel_rfl
theorem sD{K:PySem.W.Frag}:PySem.W.kitOne K (.type "str") (.type "int")=some false:=by kernel_rfl
theorem sE{K:PySem.W.Frag}:PySem.W.kitOne K (.type "str") (.type "str")=some true:=by kernel_rfl
theorem qO{K:PySem.W.Frag}:PySem.W.kitOne K (.type "str") (.type "list")=some false:=by kernel_rfl
theorem oX{K:PySem.W.Frag}:PySem.W.kitOne K (.type "str") (.type "tuple")=some false:=by kernel_rfl
theorem qN{K:PySem.W.Frag}:PySem.W.kitOne K (.type "str") (.type "dict")=some false:=by kernel_rfl
theorem oU{K:PySem.W.Frag}:PySem.W.kitOne K (.type "list") (.type "bool")=some false:=by kernel_rfl
theorem qK{K:PySem.W.Frag}:PySem.W.kitOne K (.type "list") (.type "int")=some false:=by kernel_rfl
theorem qL{K:PySem.W.Frag}:PySem.W.kitOne K (.type "list") (.type "str")=some false:=by kernel_rfl
theorem oW{K:PySem.W.Frag}:PySem.W.kitOne K (.type "list") (.type "list")=some true:=by kernel_rfl
theorem mP{K:PySem.W.Frag}:PySem.W.kitOne K (.type "list") (.type "tuple")=some false:=by kernel_rfl
theorem oV{K:PySem.W.Frag}:PySem.W.kitOne K (.type "list") (.type "dict")=some false:=by kernel_rfl
theorem mQ{K:PySem.W.Frag}:PySem.W.kitOne K (.type "tuple") (.type "bool")=some false:=by kernel_rfl
theorem oY{K:PySem.W.Frag}:PySem.W.kitOne K (.type "tuple") (.type "int")=some false:=by kernel_rfl
theorem oZ{K:PySem.W.Frag}:PySem.W.kitOne K (.type "tuple") (.type "str")=some false:=by kernel_rfl
theorem mS{K:PySem.W.Frag}:PySem.W.kitOne K (.type "tuple") (.type "list")=some false:=by kernel_rfl
theorem lM{K:PySem.W.Frag}:PySem.W.kitOne K (.type "tuple") (.type "tuple")=some true:=by kernel_rfl
theorem mR{K:PySem.W.Frag}:PySem.W.kitOne K (.type "tuple") (.type "dict")=some false:=by kernel_rfl
theorem oO{K:PySem.W.Frag}:PySem.W.kitOne K (.type "dict") (.type "bool")=some false:=by kernel_rfl
theorem qF{K:PySem.W.Frag}:PySem.W.kitOne K (.type "dict") (.type "int")=some false:=by kernel_rfl
theorem qG{K:PySem.W.Frag}:PySem.W.kitOne K (.type "dict") (.type "str")=some false:=by kernel_rfl
theorem oQ{K:PySem.W.Frag}:PySem.W.kitOne K (.type "dict") (.type "list")=some false:=by kernel_rfl
theorem mO{K:PySem.W.Frag}:PySem.W.kitOne K (.type "dict") (.type "tuple")=some false:=by kernel_rfl
theorem oP{K:PySem.W.Frag}:PySem.W.kitOne K (.type "dict") (.type "dict")=some true:=by kernel_rfl
theorem kK{K:PySem.W.Frag}{a b:String}(ha:a="NoneType"∨a∈cU)(hb:b∈cU):PySem.W.kitOne K (.type a) (.type b)=some (bv a b):=by
 simp only[cU,List.mem_cons,List.not_mem_nil,or_false] at ha hb
 rcases ha with rfl |rfl |rfl |rfl |rfl |rfl |rfl<;>rcases hb with rfl |rfl |rfl |rfl |rfl |rfl
 ·exact jK
 ·exact kI
 ·exact kJ
 ·exact jM
 ·exact jl
 ·exact jL
 ·exact oK
 ·exact qD
 ·exact qE
 ·exact oN
 ·exact mM
 ·exact oM
 ·exact qH
 ·exact sB
 ·exact sC
 ·exact qJ
 ·exact oS
 ·exact qI
 ·exact qM
 ·exact sD
 ·exact sE
 ·exact qO
 ·exact oX
 ·exact qN
 ·exact oU
 ·exact qK
 ·exact qL
 ·exact oW
 ·exact mP
 ·exact oV
 ·exact mQ
 ·exact oY
 ·exact oZ
 ·exact mS
 ·exact lM
 ·exact mR
 ·exact oO
 ·exact qF
 ·exact qG
 ·exact oQ
 ·exact mO
 ·exact oP
theorem bd:ic X (.builtin "isinstance") (fun xs H Q=>∃x n tn,xs=[x,.ty n]/\tyN H x=some tn/\n∈cU/\Q (.bl (bv tn n)) H):=by
 intro pins s σ H xs us Q I r h
 obtain⟨x,n,tn,rfl,ty,hn,q⟩:=h
 obtain⟨u,w',rfl,ru,rw'⟩:=vals2 r
 cases rw'
 obtain⟨t1,t2⟩:=zn (X:=X) ty
 exact wl I ru t1 (kK t2 hn) fun tk=>⟨.bl _,H,I.tok tk,rfl,q⟩
theorem vV:ic X (.builtin "isinstance") (fun xs H Q=>∃x p n m tn,xs=[x,.ref p]/\H p=some (.tup [.ty n,.ty m])/\tyN H x=some tn/\n∈cU/\m∈cU/\Q (.bl (bv tn n||bv tn m)) H):=by
 intro pins s σ H xs us Q I r h
 obtain⟨x,p,n,m,tn,rfl,hp,ty,hn,hm,q⟩:=h
 obtain⟨u,w',rfl,ru,rw'⟩:=vals2 r
 cases rw'
 obtain⟨t1,t2⟩:=zn (X:=X) ty
 obtain⟨_,its,rv,o,ho,hc,k,hd⟩:=(show ba X.prog X.w H s.heap p (.tup [.ty n,.ty m]) from I.hok p _ hp)
 obtain⟨a,b,rfl,ra,rb⟩:=vals2 rv
 cases ra
 cases rb
 obtain⟨oc,od,odt,osl⟩:=o
 simp only at hc hd
 subst hc hd
 have e:PySem.W.kitAny X.K (.type tn) [.type n,.type m]=some (bv tn n||bv tn m):=by
  simp only[PySem.W.kitAny,kK t2 hn,kK t2 hm]
  cases bv tn n<;>cases bv tn m<;>rfl
 have fin:∀tk,EP X pins σ Q (.bool (bv tn n||bv tn m)) {s with toks:=tk}:=fun tk=>⟨.bl _,H,I.tok tk,rfl,q⟩
 cases t1 with
 |non=>cases (show u=Value.none from ru);exact PySem.W.kia_tup PySem.W.kitx_none I.kIn True.intro ho e (fun z=>nomatch z) fin
 |bl y=>cases (show u=Value.bool y from ru);exact PySem.W.kia_tup PySem.W.kitx_bool I.kIn True.intro ho e (fun z=>nomatch z) fin
 |int i=>obtain⟨t,z⟩:=(show ∃t,u=Value.int i t from ru);cases z;exact PySem.W.kia_tup PySem.W.kitx_int I.kIn True.intro ho e (fun z=>nomatch z) fin
 |str y=>obtain⟨t,z⟩:=(show ∃t,u=Value.str y t from ru);cases z;exact PySem.W.kia_tup PySem.W.kitx_str I.kIn True.intro ho e (fun z=>nomatch z) fin
 |flt y=>obtain⟨t,z⟩:=(show ∃t,u=Value.float y t from ru);cases z;exact PySem.W.kia_tup PySem.W.kitx_float I.kIn True.intro ho e (fun z=>nomatch z) fin
 | @lst a xs ea=>
  cases (show u=Value.ref a from ru)
  obtain⟨_,_,_,_,h1⟩:=(show ba X.prog X.w H s.heap a (.lst xs) from I.hok a _ ea)
  exact PySem.W.kia_tup PySem.W.kitx_list I.kIn ⟨_,h1,rfl⟩ ho e (fun z=>nomatch z) fin
 | @frz a ob xs ea=>
  cases (show u=Value.ref a from ru)
  obtain⟨_,_,_,_,_,h1⟩:=(show ba X.prog X.w H s.heap a (.frz ob (.lst xs)) from I.hok a _ ea)
  exact PySem.W.kia_tup PySem.W.kitx_list I.kIn ⟨_,h1,rfl⟩ ho e (fun z=>nomatch z) fin
 | @tup a xs ea=>
  cases (show u=Value.ref a from ru)
  obtain⟨_,_,_,o2,h1,h2,_⟩:=(show ba X.prog X.w H s.heap a (.tup xs) from I.hok a _ ea)
  exact PySem.W.kia_tup PySem.W.kitx_tuple I.kIn ⟨o2,h1,h2⟩ ho e (fun z=>nomatch z) fin
 | @dK a kvs ea=>
  cases (show u=Value.ref a from ru)
  obtain⟨_,_,vs,_,o2,es,ep,h1,h2,_⟩:=(show ba X.prog X.w H s.heap a (.dK kvs) from I.hok a _ ea)
  exact PySem.W.kia_tup PySem.W.kitx_dict I.kIn ⟨o2,h1,h2.1⟩ ho e (fun z=>nomatch z) fin
 | @dT a kvs ea=>
  cases (show u=Value.ref a from ru)
  obtain⟨_,_,xs,_,o2,es,ep,h1,h2,_⟩:=(show ba X.prog X.w H s.heap a (.dT kvs) from I.hok a _ ea)
  exact PySem.W.kia_tup PySem.W.kitx_dict I.kIn ⟨o2,h1,h2.1⟩ ho e (fun z=>nomatch z) fin
def tDVals(td:TE):TE:=fun σ H Q=>td σ H fun x H1=>∃a kvs,x= .ref a/\Rd H1 a (.dK kvs)/\∀l,H1 l=none->Q (.ref l) (upd H1 l (.lst (kvs.map (·.2))))
theorem KV.valsOf{κ:Type}{kvs:List (κ×V)}{vs:List (κ×Value)}(r:KV kvs vs):Vals (kvs.map (·.2)) (vs.map (·.2)):=by
 unfold KV at r
 induction r with
 |nil=>exact .nil
 |cons h _ ih=>exact .cons h.2 ih
theorem yH{o:Expr}{td:TE}{apos cpos p pos:Pos}(hc:X.calm=true)(hg:Gl X "list")(hm:X.mg "list"=none)(ho:PE X o td)(hb:attributeBase o "values" X.env (eval o X.env)=eval o X.env)(hl:(apos.endLine==cpos.line)=true)
  (he:starEach [.Call (.Attribute o "values" apos) [] [] cpos] X.env=[(false,eval (.Call (.Attribute o "values" apos) [] [] cpos) X.env)]:=by rfl):
  PE X (.Call (.Name "list" p) [.Call (.Attribute o "values" apos) [] [] cpos] [] pos) (tDVals td):=by
 intro pins s σ H Q I h
 refine wpAny_Call_Name_kw (kM I hg hm boot_list ?_)
 have inner:wpAny (model X.prog X.w) X.A (eval (.Call (.Attribute o "values" apos) [] [] cpos) X.env) (fun u s1=>∃(r a:Addr) (kvs:List (Key×V)) (H1:Hp),u= .ref r/\Inv X pins σ H1 s1/\Rd H1 a (.dK kvs)/\s1.heap.IsValuesView r a/\∀l,H1 l=none->Q (.ref l) (upd H1 l (.lst (kvs.map (·.2))))) X.xe s:=by
  refine wpAny_Call_method hb rfl hl PySem.F.plainAttrs_dict PySem.F.slot_dict_values PySem.F.type_dict_values (thn (ho pins s σ H _ I h) fun u s1 ⟨x,H1,I1,rx,a,kvs,ex,d,q1⟩=>?_)
  subst ex
  obtain rfl:u=Value.ref a:=rx
  obtain⟨t1,t2,_⟩:=mI I1 (.inl ⟨kvs,d⟩)
  refine⟨t1,t2,?_⟩
  show wpAny _ _ (callWith cpos (.builtin "dict.values") [.ref a] [] []) _ _ s1
  obtain⟨z,hd,vs,rel,dd⟩:=ir I1.hok d
  refine Calls.callWith_builtin rfl (PySem.evalArgs_none ?_)
  refine call_meetsIn PySem.F.slot_dict_values dd.typeIs PySem.F.entry_dict_values (PySem.F.args_dict_values_1 _) (meets_dict_values (aQ X.prog X.w) a hd) ⟨⟨vs,dd⟩,?_⟩
  exact⟨_,a,kvs,H1,rfl,I1.kept (t':=s1.toks) fun b o e=>Heap.get?_push_of_some _ e,d,⟨_,Heap.get?_push_size _ rfl,rfl,rfl⟩,q1⟩
 have hdo:X.A.handled=none->wpAny (model X.prog X.w) X.A (callWith pos (.type "list") [] (backTo pos (starEach [.Call (.Attribute o "values" apos) [] [] cpos] X.env)) []) (EP X pins σ Q) X.xe s:=fun hh=>by
  refine PyProof.Rows.callWith_type1 ?_ he rfl
  rw[he]
  show wpAny _ _ (spliced ((false,eval (.Call (.Attribute o "values" apos) [] [] cpos) X.env)::[])) _ _ s
  refine Calls.spliced_cons (thn inner fun u s1 ⟨r,a,kvs,H1,eu,I1,d,hv,q1⟩=>Calls.spliced_nil ?_)
  subst eu
  obtain⟨z,hd,vs,rel,dd⟩:=ir I1.hok d
  obtain⟨ep,hat⟩:=dd.dictAt
  refine PySem.W.kdl_call (PySem.W.kdl_values (knd:=aQ X.prog X.w) (kvs:=vs) (ep:=ep)) hh ⟨hv,hat⟩ (by rw[<-rel.length];exact z) fun h' tk acc c kp hD hacc=>?_
  have hv2:acc.toList=vs.map (·.2):=PySem.W.kdl_vals_eq acc.toList (by rw[Array.length_toList];exact hacc.1) fun j v e=>hacc.2 j v (by rw[<-Array.getElem?_toList];exact e)
  refine⟨.ref s1.heap.objs.size,_,I1.laid (t':=tk) kp (Nat.le_refl _) (show ba X.prog X.w _ h' _ (.lst (kvs.map (·.2))) from⟨by rw[List.length_map];exact z,acc.toList,c,by rw[hv2];exact rel.valsOf,by simpa using hD⟩),rfl,q1 _ I1.fresh⟩
 exact hdo (I.ok.hd hc)
section
variable {prog : Program} {w : World} {A : Around} {R : Result → Shared → Prop} {I : Addr} {fp wr : List Addr} {n : Nat} {P : Nat → Value → Prop} {St : Nat → Heap → Prop}
theorem CD(W:Walks prog w A.in1 I fp wr n P St)(bt:Nat->Nat->Bool)(hcmp:CmpOf prog w A.in1 .Gt P bt)(B:Addr)(nB:B∉fp)(kw:List (Str×Value)):
  ∀(left j:Nat) (sh:Shared) (top:Value) (c:Nat),n - (j+1)=left->j+1<=n->St (j+1) sh.heap->P (argBest bt j) top->
  sh.heap.get? B=some {cls:= .type "list",dict:=none,data:= .seq #[top,top] c,slots:= #[]}->
  (∀v h' tk,P (argBest bt (n - 1)) v->(∀b o,b∉wr->b≠B->sh.heap.get? b=some o->h'.get? b=some o)->R (.ok (.ret v)) {sh with heap:=h',toks:=tk})->
  codeAny (model prog w) A (.builtin "max.loop" ⟨[.ref I,.none,.ref B],kw⟩) R sh:=by
 have wB:B∉wr:=fun z=>nB (W.sub _ z)
 have nm:(toString "max"++toString ".loop":String)="max.loop":=by decide
 intro left
 induction left with
 |zero=>
  intro j sh top c e1 e2 st pt hB fin
  have last:j+1=n:=by omega
  refine codeAny_builtin PySem.F.entry_max_loop ?_
  rw[Around.under_plainId PySem.F.plain_max_loop _]
  show wpAny _ A.in1 (seqItems? (.ref B) >>=_) _ _ sh
  refine wpAny_bind (wpAny_seqItems hB rfl ?_)
  show wpAny _ A.in1 (tryCatch (pyNext (.ref I)) _ >>=_) _ _ sh
  refine wpAny_bind (wpAny_tryCatch (W.done sh _ _ (last▸st) fun h' tk kp=>?_))
  have hB2:=kp B _ wB hB
  show wpAny _ A.in1 (updateSeq B (fun _=> #[]) >>=_) _ _ _
  refine wpAny_bind ?_
  refine wpAny_updateSeq hB2 rfl (wpAny_bind (wpAny_letGo (wpAny_pure ?_)))
  exact fin top _ tk (by rw[<-last];exact pt) fun b o z1 z2 e=>(Heap.get?_update_other _ _ (Ne.symm z2)).trans (kp b o z1 e)
 |succ left ih=>
  intro j sh top c e1 e2 st pt hB fin
  have more:j+1<n:=by omega
  refine codeAny_builtin PySem.F.entry_max_loop ?_
  rw[Around.under_plainId PySem.F.plain_max_loop _]
  show wpAny _ A.in1 (seqItems? (.ref B) >>=_) _ _ sh
  refine wpAny_bind (wpAny_seqItems hB rfl ?_)
  show wpAny _ A.in1 (tryCatch (pyNext (.ref I)) _ >>=_) _ _ sh
  refine wpAny_bind (wpAny_tryCatch (W.item (j+1) sh _ _ more st fun v h' tk pv st' kp=>?_))
  have hB2:=kp B _ wB hB
  show wpAny _ A.in1 (tryCatch (holding [v,v] (richCompare .Gt v top >>=_)) _ >>=_) _ _ _
  refine wpAny_bind (wpAny_tryCatch (wpAny_holding (wpAny_bind (hcmp (j+1) (argBest bt j) v top _ _ _ pv pt ?_))))
  refine wpAny_bind (wpAny_holding (wpAny_truthy_bool ?_))
  refine wpAny_bind (wpAny_letGo (wpAny_pure ?_))
  cases q:bt (j+1) (argBest bt j) with
  |true=>
   simp only[if_true]
   refine wpAny_bind ?_
   refine wpAny_updateSeq hB2 rfl (wpAny_bind (wpAny_letGo ?_))
   rw[nm]
   refine wpAny_pure ⟨plainId_quiet PySem.F.plain_max_loop _,ih (j+1) _ v _ (by omega) more (W.frame _ _ _ st' fun b z o e=>?_) (by simp only[argBest,q,if_true];exact pv) (Heap.get?_update_self _ hB2 rfl) fun v' h2 tk2 p2 kp2=>?_⟩
   ·exact(Heap.get?_update_other _ _ (fun y:B=b=>nB (by rw[y];exact z))).trans e
   ·exact fin v' h2 tk2 p2 fun b o z1 z2 e=>kp2 b o z1 z2 ((Heap.get?_update_other _ _ (Ne.symm z2)).trans (kp b o z1 e))
  |false=>
   simp only[Bool.false_eq_true,if_false]
   refine wpAny_bind (wpAny_letGo ?_)
   rw[nm]
   refine wpAny_pure ⟨plainId_quiet PySem.F.plain_max_loop _,ih (j+1) _ top c (by omega) more st' (by simp only[argBest,q,Bool.false_eq_true,if_false];exact pt) hB2 fun v' h2 tk2 p2 kp2=>?_⟩
   exact fin v' h2 tk2 p2 fun b o z1 z2 e=>kp2 b o z1 z2 (kp b o z1 e)
theorem xW(W:Walks prog w A.in1 I fp wr n P St)(bt:Nat->Nat->Bool)(hcmp:CmpOf prog w A.in1 .Gt P bt)(B:Addr)(nB:B∉fp)(nm0:Str)(d:Value){sh:Shared}{c:Nat}(st:St 0 sh.heap)
  (hB:sh.heap.get? B=some {cls:= .type "list",dict:=none,data:= .seq #[] c,slots:= #[]})
  (fin0:n=0->∀h' tk,(∀b o,b∉wr->sh.heap.get? b=some o->h'.get? b=some o)->R (.ok (.ret d)) {sh with heap:=h',toks:=tk})
  (fin:0<n->∀v h' tk,P (argBest bt (n - 1)) v->(∀b o,b∉wr->b≠B->sh.heap.get? b=some o->h'.get? b=some o)->R (.ok (.ret v)) {sh with heap:=h',toks:=tk}):
  codeAny (model prog w) A (.builtin "max.loop" ⟨[.ref I,.none,.ref B],[(nm0,d)]⟩) R sh:=by
 have wB:B∉wr:=fun z=>nB (W.sub _ z)
 have nm:(toString "max"++toString ".loop":String)="max.loop":=by decide
 refine codeAny_builtin PySem.F.entry_max_loop ?_
 rw[Around.under_plainId PySem.F.plain_max_loop _]
 show wpAny _ A.in1 (seqItems? (.ref B) >>=_) _ _ sh
 refine wpAny_bind (wpAny_seqItems hB rfl ?_)
 show wpAny _ A.in1 (tryCatch (pyNext (.ref I)) _ >>=_) _ _ sh
 by_cases hn:0<n
 ·refine wpAny_bind (wpAny_tryCatch (W.item 0 sh _ _ hn st fun v h' tk pv st' kp=>?_))
  have hB2:=kp B _ wB hB
  show wpAny _ A.in1 (updateSeq B (fun _=> #[v,v]) >>=_) _ _ _
  refine wpAny_bind ?_
  refine wpAny_updateSeq hB2 rfl ?_
  rw[nm]
  refine wpAny_pure ⟨plainId_quiet PySem.F.plain_max_loop _,CD W bt hcmp B nB _ _ 0 _ v _ rfl hn (W.frame _ _ _ st' fun b z o e=>?_) pv (Heap.get?_update_self _ hB2 rfl) fun v' h2 tk2 p2 kp2=>?_⟩
  ·exact(Heap.get?_update_other _ _ (fun y:B=b=>nB (by rw[y];exact z))).trans e
  ·exact fin hn v' h2 tk2 p2 fun b o z1 z2 e=>kp2 b o z1 z2 ((Heap.get?_update_other _ _ (Ne.symm z2)).trans (kp b o z1 e))
 ·have e0:n=0:=by omega
  refine wpAny_bind (wpAny_tryCatch (W.done sh _ _ (e0▸st) fun h' tk kp=>?_))
  show wpAny _ A.in1 (rule _ >>=_) _ _ _
  exact wpAny_bind (wpAny_rule (wpAny_pure (fin0 e0 h' tk kp)))
end
theorem gJ{f:Nat->Int}:∀k,argBest (fun i j=>decide (f i > f j)) k<=k/\∀i,i<=k->f i<=f (argBest (fun i j=>decide (f i > f j)) k)
 |0=>⟨Nat.le_refl _,fun i h=>by have:i=0:=(by omega);subst this;exact Int.le_refl _⟩
 |k+1=>by
  obtain⟨h1,h2⟩:=gJ (f:=f) k
  by_cases q:f (k+1) > f (argBest (fun i j=>decide (f i > f j)) k)
  ·have e:argBest (fun i j=>decide (f i > f j)) (k+1)=k+1:=by simp only[argBest];rw[if_pos (by simpa using q)]
   rw[e]
   refine⟨Nat.le_refl _,fun i hi=>?_⟩
   by_cases z:i<=k
   ·have:=h2 i z;omega
   ·have:i=k+1:=by omega
    subst this;exact Int.le_refl _
  ·have e:argBest (fun i j=>decide (f i > f j)) (k+1)=argBest (fun i j=>decide (f i > f j)) k:=by simp only[argBest];rw[if_neg (by simpa using q)]
   rw[e]
   refine⟨by omega,fun i hi=>?_⟩
   by_cases z:i<=k
   ·exact h2 i z
   ·have:i=k+1:=by omega
    subst this;omega
def CV(K:PySem.W.Frag)(te td:TE):TE:=fun σ H Q=>te σ H fun x H1=>td σ H1 fun z H2=>∃a ns,x= .ref a/\SqL K H2 a (ns.map V.int)/\(ns=[]->Q z H2)/\∀m,m∈ns->(∀y∈ns,y<=m)->Q (.int m) H2
theorem vU(a v:Value):argsOk "max" ⟨[a],[(Str.ofString "default",v)]⟩:=by unfold argsOk;kernel_rfl
theorem eJ:∀{ns:List Int} {us:List Value},Vals (ns.map V.int) us->∀(i:Nat) (v:Value),us.toArray[i]?=some v->∃t,v= .int (ns.getD i 0) t
 | [],_,r,i,v,e=>by cases r;simp at e
 |n::ns,_,r,i,v,e=>by
  cases r with
  |cons r rr=>
   cases i with
   |zero=>obtain⟨t,rfl⟩:=r;simp at e;exact⟨t,by simp[<-e]⟩
   |succ i=>
    obtain⟨t,ht⟩:=eJ rr i v (by simpa using e)
    exact⟨t,by simpa using ht⟩
theorem vX{A:Around}{E:Value->Shared->Prop}{a:Addr}{ns:List Int}{dv:Value}{Q:Value->Shared->Prop}(hh:A.handled=none)(I:Inv X pins σ H s)(hq:SqL X.K H a (ns.map V.int))
  (q0:ns=[]->∀s',Inv X pins σ H s'->Q dv s')(qm:∀m t s',m∈ns->(∀y∈ns,y<=m)->Inv X pins σ H s'->Q (.int m t) s'):
  wpAny (model X.prog X.w) A (call (.builtin "max") [.ref a] [(Str.ofString "default",dv)]) Q E s:=by
 obtain⟨its,rv,pl,hz⟩:=I.list hq
 have hlen:=rv.length
 rw[List.length_map] at hlen
 have nm:(toString "max"++toString ".loop":String)="max.loop":=by decide
 refine kmb_tree PySem.F.kind_max PySem.F.plain_max PySem.F.entry_max (vU _ _) ?_
 show wpAny _ A.in1 (Builtin.Builtins.bindParams "max" ["key","default"] 0 ⟨[],[(Str.ofString "default",dv)]⟩ >>=_) _ _ s
 refine wpAny_bind (wpAny_of_eq (show Builtin.Builtins.bindParams "max" ["key","default"] 0 ⟨[],[(Str.ofString "default",dv)]⟩=pure [none,some dv] from rfl) ?_)
 refine wpAny_bind (wpAny_pure ?_)
 refine wpAny_bind (wpAny_pyIter_list pl.isList ?_)
 refine wpAny_bind (wpAny_newObj_type ?_)
 have ha:a<s.heap.objs.size:=by
  obtain⟨o,n,e,_⟩:=pl
  exact Heap.lt_size e
 have W:=Walks.list (prog:=X.prog) (w:=X.w) (A:=A.in1) hh s.heap.objs.size a (Nat.ne_of_lt ha) its.toArray
 have k1:∀b o,s.heap.get? b=some o->((s.heap.push {cls:= .type "list_iterator",data:= .fields #[.ref a,.int 0 0]}).push {cls:= .type "list",dict:=none,data:= .seq ([]:List Value).toArray}).get? b=some o:=fun b o e=>Heap.get?_push_of_some _ (Heap.get?_push_of_some _ e)
 have st:((s.heap.push {cls:= .type "list_iterator",data:= .fields #[.ref a,.int 0 0]}).push {cls:= .type "list",dict:=none,data:= .seq ([]:List Value).toArray}).IsListIter s.heap.objs.size a 0:=⟨_,Heap.get?_push_of_some _ (Heap.get?_push_size _ rfl),rfl,rfl⟩
 have nS:(s.heap.push {cls:= .type "list_iterator",data:= .fields #[.ref a,.int 0 0]}).objs.size=s.heap.objs.size+1:=by rw[Heap.size_push]
 rw[nm]
 refine wpAny_pure ⟨plainId_quiet PySem.F.plain_max_loop _,?_⟩
 refine xW (c:=0) W (fun i j=>decide (ns.getD i 0 > ns.getD j 0)) (CmpOf.ints_gt (fun i=>ns.getD i 0) fun i v e=>eJ rv i v e) (s.heap.push {cls:= .type "list_iterator",data:= .fields #[.ref a,.int 0 0]}).objs.size ?_ _ _ ⟨st,?_⟩ (Heap.get?_push_size _ rfl) ?_ ?_
 ·rw[nS];intro z
  simp only[List.mem_cons,List.not_mem_nil,or_false] at z
  rcases z with z |z
  ·exact absurd z (Nat.succ_ne_self _)
  ·rw[<-z] at ha
   exact absurd ha (Nat.not_lt.mpr (Nat.le_succ _))
 ·obtain⟨o,ho,hc,n,hd⟩:=pl.isList
  exact⟨o,k1 _ _ ho,hc,n,hd⟩
 ·intro e0 h' tk kp
  have n0:ns.length=0:=by rw[hlen];simpa using e0
  refine q0 (List.length_eq_zero_iff.mp n0) _ (I.kept fun b o e=>kp b o (fun z=>?_) (k1 b o e))
  have:b=s.heap.objs.size:=by simpa using z
  exact absurd (Heap.lt_size e) (by rw[this];exact Nat.lt_irrefl _)
 ·intro hn v h' tk pv kp
  obtain⟨b1,b2⟩:=gJ (f:=fun i=>ns.getD i 0) (its.toArray.size - 1)
  have hsz:its.toArray.size=ns.length:=by simp[hlen]
  obtain⟨t,rfl⟩:=eJ rv _ v pv
  refine qm _ t _ ?_ (fun y hy=>?_) (I.kept fun b o e=>kp b o (fun z=>?_) ?_ (k1 b o e))
  ·have hlt:argBest (fun i j=>decide (ns.getD i 0 > ns.getD j 0)) (its.toArray.size - 1)<ns.length:=by omega
   rw[List.getD_eq_getElem?_getD,List.getElem?_eq_getElem hlt]
   exact List.getElem_mem hlt
  ·obtain⟨i,hi,e⟩:=List.mem_iff_getElem.mp hy
   have:=b2 i (by omega)
   have e2:ns.getD i 0=y:=by rw[List.getD_eq_getElem?_getD,List.getElem?_eq_getElem hi];exact e
   rw[e2] at this
   exact this
  ·have:b=s.heap.objs.size:=by simpa using z
   exact absurd (Heap.lt_size e) (by rw[this];exact Nat.lt_irrefl _)
  ·intro z
   rw[nS] at z
   exact absurd (Heap.lt_size e) (by rw[z];exact Nat.not_lt.mpr (Nat.le_succ _))
theorem AE{e d:Expr}{te td:TE}{p pos kp:Pos}(hc:X.calm=true)(hg:Gl X "max")(hm:X.mg "max"=none)(he:PE X e te)(hd:PE X d td)
  (hs:starEach [e] X.env=[(false,eval e X.env)]:=by rfl):PE X (.Call (.Name "max" p) [e] [⟨some "default",d,kp⟩] pos) (CV X.K te td):=by
 intro pins s σ H Q I h
 refine wpAny_Call_Name_kw (kM I hg hm boot_max ?_)
 refine callWith_kw (e:=e) (rest:=[]) (kws:=[⟨some "default",d,kp⟩]) ?_ (by rw[hs];rfl) (by rw[hs];rfl)
 rw[hs]
 show wpAny _ _ (spliced ((false,eval e X.env)::[])) _ _ s
 refine Calls.spliced_cons (thn (he pins s σ H _ I h) fun u s1 ⟨x,H1,I1,rx,q1⟩=>Calls.spliced_nil ?_)
 refine kws_cons (thn (hd pins s1 σ H1 _ I1 q1) fun dv s2 ⟨z,H2,I2,rd,a,ns,ex,hq,q0,qm⟩=>kws_nil ?_)
 subst ex
 obtain rfl:u=Value.ref a:=rx
 exact vX (I.ok.hd hc) I2 hq (fun e0 s' I'=>⟨z,H2,I',rd,q0 e0⟩) fun m t s' h1 h2 I'=>⟨.int m,H2,I',⟨t,rfl⟩,qm m h1 h2⟩
theorem nG:OpR X (binaryOp .Mult) (fun x y H Q=>∃z n,x= .str z/\y= .int n/\MulOk z n/\Q (.str (Txt.mul z n)) H):=by
 intro pins s σ H x y v u Q I rx ry h
 obtain⟨z,n,rfl,rfl,ok,q⟩:=h
 obtain⟨t,rfl⟩:=rx
 obtain⟨t',rfl⟩:=ry
 exact SB.mul ok fun t2 k=>⟨.str _,H,I.tok _,⟨t2,rfl⟩,q⟩
end
structure Def (P:Program) (w:World) (K:PySem.W.Frag) (mg:Str->Option Value) (base:Heap) (x:Str) (k:Nat) (ps:List Str) (sp:Sp):Prop where
 ex:∃f fd,mg x=some (.ref f)/\PySem.W.keepIn K (.ref f)=true/\Binds K fd ps []/\FnOk P w K mg base CX0 k f fd ps sp
structure MDef (P:Program) (w:World) (K:PySem.W.Frag) (mg:Str->Option Value) (base:Heap) (C:Addr) (m:Str) (k:Nat) (ps:List Str) (sp:Sp):Prop where
 cl:Cls K C
 ex:∃f fd,Meth K C m f/\Binds K fd ps []/\FnOk P w K mg base CX0 k f fd ps sp
structure CDef (P:Program) (w:World) (K:PySem.W.Frag) (mg:Str->Option Value) (base:Heap) (x:Str) (C:Addr) (k:Nat) (ps:List Str) (sp:Sp):Prop where
 mgc:mg x=some (.ref C)
 ex:∃f fd,Mk K C f/\Binds K fd ps []/\FnOk P w K mg base CX0 k f fd ps sp
section
variable {X : Cx} {k : Nat} {C : Addr} {ps : List Str} {sp : Sp} {x m : Str} {p pos apos : Pos} {e o : Expr} {es : List Expr} {ta : TE} {t : TA}
theorem aL(D:Def X.prog X.w X.K X.mg X.base x k ps sp)(hr:Room k X.A)(hg:Gl X x)(ha:PA X (e::es) t)(hdb:(x==("__debug__":Str))=false:=by decide)
  (he:starEach (e::es) X.env=(false,eval e X.env)::starEach es X.env:=by rfl)(hpl:(backTo pos (starEach es X.env)).any (·.1)=false:=by rfl):PE X (.Call (.Name x p) (e::es) [] pos) (tCall sp [] E0 t):=by
 obtain⟨f,fd,h1,h2,h3,h4⟩:=D.ex
 exact vC h4 hr hg h1 h2 h3 .nil sP ha hdb he hpl
theorem bV{pl:Sem Bool}(ho:PE X o ta)(D:MDef X.prog X.w X.K X.mg X.base C m k ps sp)(hr:Room k X.A)(ha:PA X (e::es) t)
  (hst:starEach (e::es) X.env=(false,eval e X.env)::starEach es X.env:=by rfl)(hpl:(backTo pos (starEach es X.env)).any (·.1)=false:=by rfl)
  (ht:eval (.Call (.Attribute o m apos) (e::es) [] pos) X.env=(do
   let ov <-eval o X.env
   standAt apos.atName
   let (f,first) <-holding [ov] (getMethod ov m pl)
   callWith pos f first (backTo pos (starEach (e::es) X.env)) (backToKw pos (keywordEach [] X.env))):=by rfl):
  PE X (.Call (.Attribute o m apos) (e::es) [] pos) (tMeth C m sp [] E0 ta t):=by
 obtain⟨f,fd,h1,h3,h4⟩:=D.ex
 exact vE ho D.cl h1 h4 hr h3 .nil sP ha hst hpl ht
theorem iE{pl:Sem Bool}(ho:PE X o ta)(D:MDef X.prog X.w X.K X.mg X.base C m k ps sp)(hr:Room k X.A)
  (ht:eval (.Call (.Attribute o m apos) [] [] pos) X.env=(do
   let ov <-eval o X.env
   standAt apos.atName
   let (f,first) <-holding [ov] (getMethod ov m pl)
   callWith pos f first (backTo pos (starEach [] X.env)) (backToKw pos (keywordEach [] X.env))):=by rfl):
  PE X (.Call (.Attribute o m apos) [] [] pos) (tMeth C m sp [] E0 ta tNil):=by
 obtain⟨f,fd,h1,h3,h4⟩:=D.ex
 exact yJ ho D.cl h1 h4 hr h3 .nil sP ht
theorem rg(D:CDef X.prog X.w X.K X.mg X.base x C k ps sp)(hr:Room (k+1) X.A)(hg:Gl X x)(ha:PA X (e::es) t)(hdb:(x==("__debug__":Str))=false:=by decide)
  (he:starEach (e::es) X.env=(false,eval e X.env)::starEach es X.env:=by rfl)(hpl:(backTo pos (starEach es X.env)).any (·.1)=false:=by rfl):PE X (.Call (.Name x p) (e::es) [] pos) (tMake C sp [] E0 t):=by
 obtain⟨f,fd,h1,h3,h4⟩:=D.ex
 exact AD h1 h4 hr hg D.mgc h3 .nil sP ha hdb he hpl
theorem AB(D:CDef X.prog X.w X.K X.mg X.base x C k ps sp)(hr:Room (k+1) X.A)(hg:Gl X x)(hdb:(x==("__debug__":Str))=false:=by decide):PE X (.Call (.Name x p) [] [] pos) (tMake C sp [] E0 tNil):=by
 obtain⟨f,fd,h1,h3,h4⟩:=D.ex
 exact yI h1 h4 hr hg D.mgc h3 .nil sP hdb
end
end L2
end
section
set_option maxHeartbeats 4000000
namespace L2
open PySem PySem.Spec PyProof.Rows
section
variable {CX : CXT} {P : Program} {w : World} {K : PySem.W.Frag} {mg : Str → Option Value} {base : Heap} {N : List Str} {qual : Str} {scope : Scope} {f : Addr} {cd : Value} {A : Around} {outer : List Env} {s : Shared} {H : Hp} {E : XK}
theorem cxOf_K:(qt CX P w K mg base N qual scope f cd A outer s H E).K=K:=rfl
theorem cxOf_A:(qt CX P w K mg base N qual scope f cd A outer s H E).A=A.deeper (envOfC qual scope s.heap.objs.size f cd):=rfl
theorem cxComp_K{X:Cx}{own:List Str}{cl:List (Str×Addr)}{C:Addr}{fp:List Addr}:(cL X scope own cl C s H fp).K=X.K:=rfl
theorem cxComp_A{X:Cx}{own:List Str}{cl:List (Str×Addr)}{C:Addr}{fp:List Addr}:(cL X scope own cl C s H fp).A=X.A:=rfl
end
def aR(J:It)(xs:List V)(H:Hp):Prop:=(∀(i:Nat) x,xs[i]?=some x->J.go i H/\∀y H',J.yld i H y H'->H'=H/\y=x)/\J.stop xs.length H
theorem aR.list{K:PySem.W.Frag}{a:Addr}{xs:List V}{H:Hp}(h:SqL K H a xs):aR (Itl K a) xs H:=
 ⟨fun i x e=>⟨⟨xs,x,h,e⟩,fun y H' ⟨e1,e2⟩=>⟨e1,Option.some.inj ((e2 xs h).symm.trans e)⟩⟩,⟨xs,h,Nat.le_refl _⟩⟩
theorem aR.tup{K:PySem.W.Frag}{a:Addr}{xs:List V}{H:Hp}(h:SqT K H a xs):aR (Itt K a) xs H:=
 ⟨fun i x e=>⟨⟨xs,x,h,e⟩,fun y H' ⟨e1,e2⟩=>⟨e1,Option.some.inj ((e2 xs h).symm.trans e)⟩⟩,⟨xs,h,Nat.le_refl _⟩⟩
def nQ(lo:Int)(n:Nat):List V:=(List.range n).map fun i=>V.int (lo+((i:Nat):Int))
theorem iJ(lo:Int)(n:Nat):(nQ lo n).length=n:=by simp[nQ]
theorem gZ{lo:Int}{n i:Nat}{x:V}(h:(nQ lo n)[i]?=some x):i<n/\x= .int (lo+(i:Int)):=by
 unfold nQ at h
 rw[List.getElem?_map] at h
 by_cases hi:i<n
 ·rw[List.getElem?_range hi] at h
  exact⟨hi,(Option.some.inj h).symm⟩
 ·rw[List.getElem?_eq_none (by simpa using hi)] at h
  cases h
theorem aR.range{lo:Int}{n:Nat}{H:Hp}:aR (Itr lo n) (nQ lo n) H:=
 ⟨fun i x e=>by
  obtain⟨h1,h2⟩:=gZ e
  exact⟨h1,fun y H' ⟨e1,e2⟩=>⟨e1,e2.trans h2.symm⟩⟩,by rw[iJ];exact Nat.le_refl n⟩
def wY(J:It)(g:TG)(tb:TS)(D:Ends)(σ:St)(H:Hp):Prop:=∃W:Nat->Nat->St->Hp->Prop,(∃m,W 0 m σ H)/\∀i m σ H,W i m σ H->
 (J.stop i H/\D.nx σ H)∨(J.go i H/\∃N:St->Hp->Prop,(∀σ' H',N σ' H'->∃m',m'<m/\W (i+1) m' σ' H')/\∀x H',J.yld i H x H'->g x σ H' fun σ2 H2=>tb {D with nx:=N,ct:=N,bk:=D.nx} σ2 H2)
def tForG(wi:TI)(g:TG)(tb:TS):TS:=fun D σ H=>wi σ H fun J H1=>wY J g tb D σ H1
theorem cG{X:Cx}{tg iter:Expr}{body:List Stmt}{wi:TI}{g:TG}{tb:TS}{pos:Pos}(hp:PassesOwn (model X.prog X.w) X.A X.env X.xe)(hc:X.calm=true)(hi:PI X tg iter wi)(hg:PG X tg g)(hb:PSs X body tb)
  (hs:∀x,foldedSetIterable iter X.env x=pure x:=by intro _;rfl):PS X (.For tg iter body [] pos) (tForG wi g tb):=BU hp hc hi hg hb hs
theorem bR{J:It}{xs:List V}{g:TG}{tb:TS}{D:Ends}{σ:St}{H:Hp}(Pv:Nat->St->Hp->Prop)(h0:Pv 0 σ H)(hl:∀i σ H,i<=xs.length->Pv i σ H->aR J xs H)
  (hs:∀i x σ H,xs[i]?=some x->Pv i σ H->g x σ H fun σ2 H2=>tb {D with nx:=Pv (i+1),ct:=Pv (i+1),bk:=D.nx} σ2 H2)(hd:∀σ H,Pv xs.length σ H->D.nx σ H):wY J g tb D σ H:=by
 refine⟨fun i m σ H=>m=xs.length - i/\i<=xs.length/\Pv i σ H,⟨xs.length,by simp,Nat.zero_le _,h0⟩,?_⟩
 rintro i m σ H ⟨rfl,hi,p⟩
 obtain⟨y1,y2⟩:=hl i σ H hi p
 by_cases hlt:i<xs.length
 ·have e:xs[i]?=some xs[i]:=by simp[hlt]
  obtain⟨g1,g2⟩:=y1 i _ e
  refine .inr ⟨g1,Pv (i+1),fun σ' H' p'=>⟨xs.length - (i+1),by omega,rfl,hlt,p'⟩,fun x H' y=>?_⟩
  obtain⟨e1,e2⟩:=g2 x H' y
  subst e1 e2
  exact hs i _ σ _ e p
 ·have e:i=xs.length:=by omega
  subst e
  exact .inl ⟨y2,hd σ H p⟩
theorem kL{J:It}{xs:List V}{D:Addr}{n:Nat}{g:TG}{tc:TT}{te:TE}{σ:St}{Qd:Addr->Hp->Prop}{H1:Hp}(Pv:Nat->Hp->Prop)(h0:Pv 0 (upd H1 D (.lst [])))(hl:∀i H,i<=xs.length->Pv i H->aR J xs H)
  (hs:∀i x H,xs[i]?=some x->Pv i H->g x (σ++List.replicate n none) H fun σ2 H2=>(∀(j:Nat) v,(σ++List.replicate n none)[j]?=some (some v)->σ2[j]?=some (some v))/\tc σ2 H2 fun b H3=>
   if b=true then te σ2 H3 fun y H4=>∃ys,H4 D=some (.lst ys)/\ys.length<sizeLine/\Pv (i+1) (upd H4 D (.lst (ys++ [y]))) else Pv (i+1) H3)
  (hd:∀H,Pv xs.length H->Qd D H):LcW J D n g tc te σ Qd H1:=by
 refine⟨fun i m H=>m=xs.length - i/\i<=xs.length/\Pv i H,⟨xs.length,by simp,Nat.zero_le _,h0⟩,?_⟩
 rintro i m H ⟨rfl,hi,p⟩
 obtain⟨y1,y2⟩:=hl i H hi p
 by_cases hlt:i<xs.length
 ·have e:xs[i]?=some xs[i]:=by simp[hlt]
  obtain⟨g1,g2⟩:=y1 i _ e
  refine .inr ⟨g1,Pv (i+1),fun H' p'=>⟨xs.length - (i+1),by omega,rfl,hlt,p'⟩,fun x H' y=>?_⟩
  obtain⟨e1,e2⟩:=g2 x H' y
  subst e1 e2
  exact hs i _ _ e p
 ·have e:i=xs.length:=by omega
  subst e
  exact .inl ⟨y2,hd H p⟩
theorem gB{σ:St}{x:V}{j:Nat}{v:V}(h:(σ++List.replicate 1 none)[j]?=some (some v)):((σ++List.replicate 1 none).set σ.length (some x))[j]?=some (some v):=by
 by_cases e:j=σ.length
 ·subst e
  rw[List.getElem?_append_right (Nat.le_refl _)] at h
  simp at h
 ·rw[List.getElem?_set_ne (fun z=>e z.symm)]
  exact h
theorem set_own(σ:St)(x:V):(σ++List.replicate 1 none).set σ.length (some x)=σ++ [some x]:=by
 rw[List.set_append_right _ _ (Nat.le_refl _)]
 simp
theorem vn{J:It}{xs:List V}{D:Addr}{k:Nat}{tc:TT}{te:TE}{σ:St}{Qd:Addr->Hp->Prop}{H1:Hp}(hk:k=σ.length)(hD:H1 D=none)(hJ:∀H,Same H1 H->aR J xs H)(hl:xs.length<=1000)(p:V->Bool)(f:V->V)
  (ht:∀x∈xs,∀H,Same H1 H->∀Q:Bool->Hp->Prop,Q (p x) H->tc (σ++ [some x]) H Q)(he:∀x∈xs,p x=true->∀H,Same H1 H->∀Q:VK,Q (f x) H->te (σ++ [some x]) H Q)
  (q:Qd D (upd H1 D (.lst ((xs.filter p).map f)))):LcW J D 1 (gName k) tc te σ Qd H1:=by
 subst hk
 have same:∀o,Same H1 (upd H1 D o):=fun o b u e=>by rw[aj (aq e hD)];exact e
 refine kL (xs:=xs) (fun i H=>H=upd H1 D (.lst (((xs.take i).filter p).map f))) (by simp) (fun i H _ e=>hJ H (by rw[e];exact same _)) (fun i x H hx e=>?_) (fun H e=>by rw[e,List.take_length];exact q)
 subst e
 have hm:=List.mem_of_getElem? hx
 have hi:i<xs.length:=(List.getElem?_eq_some_iff.mp hx).1
 have et:xs.take (i+1)=xs.take i++ [x]:=by rw[List.take_add_one,hx];rfl
 show _/\_
 refine⟨fun j v h=>gB h,?_⟩
 rw[set_own]
 refine ht x hm _ (same _) _ ?_
 cases e:p x with
 |true=>
  refine eZ (he x hm e _ (same _) _ ⟨_,upd_same,?_,?_⟩)
  ·have h1:((xs.take i).filter p).length<=(xs.take i).length:=List.length_filter_le _ _
   rw[List.length_map]
   rw[List.length_take] at h1
   exact bu (by omega)
  ·rw[upd_upd,et,List.filter_append,List.map_append]
   simp[e]
 |false=>
  refine fK ?_
  rw[et,List.filter_append]
  simp[e]
theorem fg{K:PySem.W.Frag}{p:Addr}{xs:List V}{i:Int}{v:V}{H:Hp}{Q:VK}(h1:SqL K H p xs)(h2:atI xs i=some v)(q:Q v H):iI K (.ref p) (.int i) H Q:=⟨p,xs,i,v,rfl,rfl,h1,h2,q⟩
theorem ge{K:PySem.W.Frag}{p:Addr}{xs:List V}{i:Int}{v:V}{H:Hp}{Q:VK}(h1:SqT K H p xs)(h2:atI xs i=some v)(q:Q v H):eF K (.ref p) (.int i) H Q:=⟨p,xs,i,v,rfl,rfl,h1,h2,q⟩
theorem Bm{α:Type}{xs:List α}{z:Int}(h0:0<=z)(h1:z<xs.length):∃o,atI xs z=some o/\xs[z.toNat]?=some o:=by
 obtain⟨k,rfl⟩:∃k:Nat,z=(k:Int):=⟨z.toNat,by omega⟩
 have hk:k<xs.length:=by omega
 have e:xs[k]?=some xs[k]:=by simp[hk]
 exact⟨_,bP e,by rw[Int.toNat_natCast];exact e⟩
theorem uV{ns:List Int}{z:Int}(h0:0<=z)(h1:z<ns.length):∃o,atI (ns.map V.int) z=some (.int o)/\ns[z.toNat]?=some o:=by
 obtain⟨v,h2,h3⟩:=Bm (xs:=ns.map V.int) h0 (by rw[List.length_map];exact h1)
 rw[List.getElem?_map] at h3
 cases e:ns[z.toNat]? with
 |none=>rw[e] at h3;cases h3
 |some o=>
  rw[e] at h3
  exact⟨o,by rw[h2];exact congrArg some (Option.some.inj h3).symm,rfl⟩
theorem Same.new{H H':Hp}{p:Addr}{o:HO}(s:Same H H')(h:H' p=Option.none):Same H (upd H' p o):=fun b u e=>by
 have e':=s b u e
 rw[aj (aq e' h)]
 exact e'
theorem tyN_non{H:Hp}:tyN H .non=some "NoneType":=rfl
theorem tyN_bl{H:Hp}{b:Bool}:tyN H (.bl b)=some "bool":=rfl
theorem tyN_int{H:Hp}{i:Int}:tyN H (.int i)=some "int":=rfl
theorem tyN_str{H:Hp}{x:Str}:tyN H (.str x)=some "str":=rfl
theorem jb{H:Hp}{a:Addr}{xs:List V}(h:H a=some (.lst xs)):tyN H (.ref a)=some "list":=by simp only[tyN,h]
theorem eC{H:Hp}{a:Addr}{xs:List V}(h:H a=some (.tup xs)):tyN H (.ref a)=some "tuple":=by simp only[tyN,h]
theorem lay_ints:∀ns:List Int,PyData.canLayAll0 (ns.map PyData.int)=true
 | []=>rfl
 |n::ns=>by
  show(true&&PyData.canLayAll0 (ns.map PyData.int))=true
  rw[lay_ints ns]
  rfl
theorem my:∀ns:List Int,PyData.depthAll (ns.map PyData.int)=0
 | []=>rfl
 |n::ns=>by
  show max 0 (PyData.depthAll (ns.map PyData.int))=0
  rw[my ns]
  rfl
theorem eg(ns:List Int):PyData.canLay0 (.list (ns.map PyData.int))=true:=lay_ints ns
theorem lK(ns:List Int):PyData.depth (.list (ns.map PyData.int))=1:=by
 show PyData.depthAll (ns.map PyData.int)+1=1
 rw[my]
theorem cmul_2(x:Int):mi 2 x:=Or.inl (by decide)
theorem cmul_4(x:Int):mi 4 x:=Or.inl (by decide)
theorem cmul_h(x:Int):mi x 48271:=Or.inr (by decide)
theorem known_bool:"bool"∈cU:=by decide
theorem known_int:"int"∈cU:=by decide
theorem known_str:"str"∈cU:=by decide
theorem known_list:"list"∈cU:=by decide
theorem known_tuple:"tuple"∈cU:=by decide
theorem known_dict:"dict"∈cU:=by decide
theorem sT_NoneType_bool:bv "NoneType" "bool"=false:=by decide
theorem sT_NoneType_int:bv "NoneType" "int"=false:=by decide
theorem sT_NoneType_str:bv "NoneType" "str"=false:=by decide
theorem sT_NoneType_list:bv "NoneType" "list"=false:=by decide
theorem sT_NoneType_tuple:bv "NoneType" "tuple"=false:=by decide
theorem sT_NoneType_dict:bv "NoneType" "dict"=false:=by decide
theorem sT_bool_bool:bv "bool" "bool"=true:=by decide
theorem sT_bool_int:bv "bool" "int"=true:=by decide
theorem sT_bool_str:bv "bool" "str"=false:=by decide
theorem sT_bool_list:bv "bool" "list"=false:=by decide
theorem sT_bool_tuple:bv "bool" "tuple"=false:=by decide
theorem sT_bool_dict:bv "bool" "dict"=false:=by decide
theorem sT_int_bool:bv "int" "bool"=false:=by decide
theorem sT_int_int:bv "int" "int"=true:=by decide
theorem sT_int_str:bv "int" "str"=false:=by decide
theorem sT_int_list:bv "int" "list"=false:=by decide
theorem sT_int_tuple:bv "int" "tuple"=false:=by decide
theorem sT_int_dict:bv "int" "dict"=false:=by decide
theorem sT_str_bool:bv "str" "bool"=false:=by decide
theorem sT_str_int:bv "str" "int"=false:=by decide
theorem sT_str_str:bv "str" "str"=true:=by decide
theorem sT_str_list:bv "str" "list"=false:=by decide
theorem sT_str_tuple:bv "str" "tuple"=false:=by decide
theorem sT_str_dict:bv "str" "dict"=false:=by decide
theorem sT_list_bool:bv "list" "bool"=false:=by decide
theorem sT_list_int:bv "list" "int"=false:=by decide
theorem sT_list_str:bv "list" "str"=false:=by decide
theorem sT_list_list:bv "list" "list"=true:=by decide
theorem sT_list_tuple:bv "list" "tuple"=false:=by decide
theorem sT_list_dict:bv "list" "dict"=false:=by decide
theorem sT_tuple_bool:bv "tuple" "bool"=false:=by decide
theorem sT_tuple_int:bv "tuple" "int"=false:=by decide
theorem sT_tuple_str:bv "tuple" "str"=false:=by decide
theorem sT_tuple_list:bv "tuple" "list"=false:=by decide
theorem sT_tuple_tuple:bv "tuple" "tuple"=true:=by decide
theorem sT_tuple_dict:bv "tuple" "dict"=false:=by decide
theorem sT_dict_bool:bv "dict" "bool"=false:=by decide
theorem sT_dict_int:bv "dict" "int"=false:=by decide
theorem sT_dict_str:bv "dict" "str"=false:=by decide
theorem sT_dict_list:bv "dict" "list"=false:=by decide
theorem sT_dict_tuple:bv "dict" "tuple"=false:=by decide
theorem sT_dict_dict:bv "dict" "dict"=true:=by decide
theorem small_of{n:Nat}(h:n<=1000):n<=sizeLine:=Nat.le_of_lt (bu h)
end L2
end
section
set_option maxHeartbeats 4000000
namespace L2
open PySem PySem.Spec PyProof.Rows
section
variable {X : Cx}
theorem vW(hc:X.calm=true):ic X (.builtin "max") (fun xs H Q=>∃a ns,xs=[.ref a]/\SqL X.K H a (ns.map V.int)/\ns≠[]/\∀m,m∈ns->(∀y∈ns,y<=m)->Q (.int m) H):=by
 intro pins s σ H xs us Q I r h
 obtain⟨a,ns,rfl,hq,hne,qm⟩:=h
 obtain⟨u,rfl,ru⟩:=vals1 r
 cases ru
 obtain⟨its,rv,pl,hz⟩:=I.list hq
 have hlen:=rv.length
 rw[List.length_map] at hlen
 have ha:a<s.heap.objs.size:=by
  obtain⟨o,n,e,_⟩:=pl
  exact Heap.lt_size e
 have hsz:its.toArray.size=ns.length:=by simp[hlen]
 refine call_max_walk (wpAny_pyIter_list pl.isList ⟨s.heap.objs.size,_,_,_,_,_,fun i j=>decide (ns.getD i 0 > ns.getD j 0),rfl,Walks.list (prog:=X.prog) (w:=X.w) (A:=X.A.in1) (I.ok.hd hc) s.heap.objs.size a (Nat.ne_of_lt ha) its.toArray,⟨⟨_,Heap.get?_push_size _ rfl,rfl,rfl⟩,?_⟩,?_,?_,CmpOf.ints_gt (fun i=>ns.getD i 0) fun i v e=>eJ rv i v e,?_⟩)
 ·obtain⟨o,ho,hcl,n,hd⟩:=pl.isList
  exact⟨o,Heap.get?_push_of_some _ ho,hcl,n,hd⟩
 ·intro b hb
  rw[Heap.size_push]
  simp only[List.mem_cons,List.not_mem_nil,or_false] at hb
  rcases hb with e |e
  ·rw[e];exact Nat.lt_succ_self _
  ·rw[e];exact Nat.lt_succ_of_lt ha
 ·rw[hsz]
  exact List.length_pos_iff.mpr hne
 ·intro v h' tk pv kp
  obtain⟨b1,b2⟩:=gJ (f:=fun i=>ns.getD i 0) (its.toArray.size - 1)
  have hpos:=List.length_pos_iff.mpr hne
  obtain⟨t,rfl⟩:=eJ rv _ v pv
  refine⟨.int _,H,I.kept fun b o e=>kp b o (fun z=>?_) (Heap.get?_push_of_some _ e),⟨t,rfl⟩,qm _ ?_ fun y hy=>?_⟩
  ·have z':b=s.heap.objs.size:=by simpa using z
   exact absurd (Heap.lt_size e) (by rw[z'];exact Nat.lt_irrefl _)
  ·have hlt:argBest (fun i j=>decide (ns.getD i 0 > ns.getD j 0)) (its.toArray.size - 1)<ns.length:=by omega
   rw[List.getD_eq_getElem?_getD,List.getElem?_eq_getElem hlt]
   exact List.getElem_mem hlt
  ·obtain⟨i,hi,e⟩:=List.mem_iff_getElem.mp hy
   have:=b2 i (by omega)
   have e2:ns.getD i 0=y:=by rw[List.getD_eq_getElem?_getD,List.getElem?_eq_getElem hi];exact e
   rw[e2] at this
   exact this
end
mutual
inductive Dh (H : Hp) : V → PyData → Prop
  | non : Dh H .non .none
  | bl (b : Bool) : Dh H (.bl b) (.bool b)
  | int (i : Int) : Dh H (.int i) (.int i)
  | str (x : Str) : Dh H (.str x) (.str x)
  | lst {a : Addr} {xs : List V} {ds : List PyData} : H a = some (.lst xs) → Dhs H xs ds → Dh H (.ref a) (.list ds)
  | tup {a : Addr} {xs : List V} {ds : List PyData} : H a = some (.tup xs) → Dhs H xs ds → Dh H (.ref a) (.tuple ds)
inductive Dhs (H : Hp) : List V → List PyData → Prop
  | nil : Dhs H [] []
  | cons {v : V} {d : PyData} {vs : List V} {ds : List PyData} : Dh H v d → Dhs H vs ds → Dhs H (v :: vs) (d :: ds)
end
mutual
theorem Dh.dt {K : PySem.W.Frag} {H : Hp} : ∀ {v : V} {d : PyData}, Dh H v d → Dt K H v d
  | _, _, .non => .non
  | _, _, .bl b => .bl b
  | _, _, .int i => .int i
  | _, _, .str x => .str x
  | _, _, .lst e ds => .lst (SqL.of e) (Dhs.dts ds)
  | _, _, .tup e ds => .tup (SqT.of e) (Dhs.dts ds)
theorem Dhs.dts {K : PySem.W.Frag} {H : Hp} : ∀ {vs : List V} {ds : List PyData}, Dhs H vs ds → Dts K H vs ds
  | _, _, .nil => .nil
  | _, _, .cons d ds => .cons (Dh.dt d) (Dhs.dts ds)
end
def SameD(H H':Hp):Prop:=∀b,(∀xs,H b=some (.lst xs)->H' b=some (.lst xs))/\∀xs,H b=some (.tup xs)->H' b=some (.tup xs)
theorem Same.d{H H':Hp}(s:Same H H'):SameD H H':=fun b=>⟨fun xs e=>s b _ e,fun xs e=>s b _ e⟩
mutual
theorem Dh.same {H H' : Hp} (s : SameD H H') : ∀ {v : V} {d : PyData}, Dh H v d → Dh H' v d
  | _, _, .non => .non
  | _, _, .bl b => .bl b
  | _, _, .int i => .int i
  | _, _, .str x => .str x
  | _, _, .lst e ds => .lst ((s _).1 _ e) (Dhs.same s ds)
  | _, _, .tup e ds => .tup ((s _).2 _ e) (Dhs.same s ds)
theorem Dhs.same {H H' : Hp} (s : SameD H H') : ∀ {vs : List V} {ds : List PyData}, Dhs H vs ds → Dhs H' vs ds
  | _, _, .nil => .nil
  | _, _, .cons d ds => .cons (Dh.same s d) (Dhs.same s ds)
end
mutual
def noL : PyData → Bool
  | .tuple ds => noLs ds
  | .none => true
  | .bool _ => true
  | .int _ => true
  | .str _ => true
  | _ => false
def noLs : List PyData → Bool
  | [] => true
  | d :: ds => noL d && noLs ds
end
mutual
theorem Dh.sameT {H H' : Hp} (hT : ∀ b xs, H b = some (.tup xs) → H' b = some (.tup xs)) : ∀ {v : V} {d : PyData}, Dh H v d → noL d = true → Dh H' v d
  | _, _, .non, _ => .non
  | _, _, .bl b, _ => .bl b
  | _, _, .int i, _ => .int i
  | _, _, .str x, _ => .str x
  | _, _, .lst _ _, h => by simp [noL] at h
  | _, _, .tup e ds, h => .tup (hT _ _ e) (Dhs.sameT hT ds (by simpa [noL] using h))
theorem Dhs.sameT {H H' : Hp} (hT : ∀ b xs, H b = some (.tup xs) → H' b = some (.tup xs)) : ∀ {vs : List V} {ds : List PyData}, Dhs H vs ds → noLs ds = true → Dhs H' vs ds
  | _, _, .nil, _ => .nil
  | _, _, .cons d ds, h => by
    have h' := (Bool.and_eq_true _ _).mp (by simpa [noLs] using h : (noL _ && noLs _) = true)
    exact .cons (Dh.sameT hT d h'.1) (Dhs.sameT hT ds h'.2)
end
theorem gd:∀(xs ys:List PyData),noLs (xs++ys)=(noLs xs&&noLs ys)
 | [],ys=>by simp[noLs]
 |x::xs,ys=>by
  show(noL x&&noLs (xs++ys))=((noL x&&noLs xs)&&noLs ys)
  rw[gd xs ys,Bool.and_assoc]
mutual
def lenOk : PyData → Prop
  | .list ds => ds.length ≤ 100000 ∧ lensOk ds
  | .tuple ds => ds.length ≤ 100000 ∧ lensOk ds
  | .dict _ => False
  | _ => True
def lensOk : List PyData → Prop
  | [] => True
  | d :: ds => lenOk d ∧ lensOk ds
end
theorem mU:∀{ds:List PyData} {d:PyData},lensOk ds->d∈ds->lenOk d
 |e::ds,d,h,hm=>by
  have h:lenOk e/\lensOk ds:=by simpa [lensOk] using h
  rcases List.mem_cons.mp hm with z |z
  ·rw[z];exact h.1
  ·exact mU h.2 z
theorem kB:∀{ds:List PyData} {d:PyData},d∈ds->d.depth<=PyData.depthAll ds
 |e::ds,d,hm=>by
  show d.depth<=max e.depth (PyData.depthAll ds)
  rcases List.mem_cons.mp hm with z |z
  ·rw[z];exact Nat.le_max_left _ _
  ·exact Nat.le_trans (kB z) (Nat.le_max_right _ _)
theorem Dhs.length{H:Hp}:∀{vs:List V} {ds:List PyData},Dhs H vs ds->vs.length=ds.length
 |_,_,.nil=>rfl
 |_,_,.cons _ ds=>by rw[List.length_cons,List.length_cons,ds.length]
theorem Dhs.get{H:Hp}:∀{vs:List V} {ds:List PyData} {i:Nat} {v:V},Dhs H vs ds->vs[i]?=some v->∃d,ds[i]?=some d/\Dh H v d
 |_,_,i,v,.nil,h=>by simp at h
 |_,_,0,v,.cons d _,h=>by simp at h;subst h;exact⟨_,rfl,d⟩
 |_,_,i+1,v,.cons _ ds,h=>by
  obtain⟨d',h1,h2⟩:=ds.get (i:=i) (v:=v) (by simpa using h)
  exact⟨d',by simpa using h1,h2⟩
theorem Dhs.snoc{H:Hp}:∀{vs:List V} {ds:List PyData} {v:V} {d:PyData},Dhs H vs ds->Dh H v d->Dhs H (vs++ [v]) (ds++ [d])
 |_,_,_,_,.nil,h=> .cons h .nil
 |_,_,_,_,.cons a r,h=> .cons a (Dhs.snoc r h)
theorem iq{H:Hp}:∀ns:List Int,Dhs H (ns.map V.int) (ns.map PyData.int)
 | []=> .nil
 |n::ns=> .cons (.int n) (iq ns)
end L2
end
section
set_option maxHeartbeats 2000000
namespace L2
open PySem PySem.Spec PyProof.Rows
section
variable {P : Program} {w : World} {H : Hp} {h h' h0 : Heap} {a x : Addr} {o : HO} {cls : Value}
theorem ba.there(q:ba P w H h a o):∃u,h.get? a=some u:=by
 cases o with
 |lst xs=>obtain⟨_,_,_,_,e⟩:=q;exact⟨_,e⟩
 |tup xs=>obtain⟨_,_,_,_,e,_⟩:=q;exact⟨_,e⟩
 |dK kvs=>obtain⟨_,_,_,_,_,_,_,e,_⟩:=q;exact⟨_,e⟩
 |dT kvs=>obtain⟨_,_,_,_,_,_,_,e,_⟩:=q;exact⟨_,e⟩
 |set S n=>obtain⟨_,_,_,_,e,_⟩:=q;exact⟨_,e⟩
 |ins C dx fs=>obtain⟨_,_,_,e,_⟩:=q;exact⟨_,e⟩
 |own y=>exact q
 |xd fs=>obtain⟨_,⟨_,_,_,e,_⟩,_⟩:=q;exact⟨_,e⟩
 |rng lo hi=>obtain⟨_,_,_,e⟩:=q;exact⟨_,e⟩
 |frz ob u=>obtain⟨e,_⟩:=q;exact⟨_,e⟩
 |tbl ps=>exact⟨_,(show h.get? a=some _ from q)⟩
 |met f y=>exact⟨_,(show h.get? a=some _ from q)⟩
 |ext φ=>obtain⟨_,e,_⟩:=q;exact e
theorem HOk.same(q:HOk P w H h)(k:∀b u v,H b=some v->h.get? b=some u->h'.get? b=some u):HOk P w H h':=fun b v e=>
 (q b v e).stay (fun c u hc r=>by
  rcases hc with z |z
  ·subst z;exact k c u v e r
  ·exact k c u _ z r) (fun _ r=>r) fun _ _ r=>r
def Fly(h0:Heap)(H:Hp)(x:Addr)(cls:Value)(h:Heap):Prop:=
 ∃oe vs a0 T oT ts,h.get? x=some oe/\(oe.cls=cls/\vs[0]?=some a0)/\oe.data= .fields vs/\vs[1]?=some (.ref T)/\T≠x/\h.get? T=some oT/\oT.data= .fields ts/\ts[3]?=some .none/\
  (h0.get? x=none/\H x=none)/\h0.get? T=none/\H T=none
theorem none_of{h1 h2:Heap}{b:Addr}(k:∀b o,h1.get? b=some o->∃o',h2.get? b=some o')(n:h2.get? b=none):h1.get? b=none:=by
 cases e:h1.get? b with
 |none=>rfl
 |some o=>
  obtain⟨o',e'⟩:=k b o e
  rw[n] at e';cases e'
theorem Fly.older{h1:Heap}(f:Fly h0 H x cls h)(k:∀b o,h1.get? b=some o->∃o',h0.get? b=some o'):Fly h1 H x cls h:=by
 obtain⟨oe,vs,a0,T,oT,ts,e1,e2,e3,e4,e5,e6,e7,e8,⟨e9,e10⟩,e11,e12⟩:=f
 exact⟨oe,vs,a0,T,oT,ts,e1,e2,e3,e4,e5,e6,e7,e8,⟨none_of k e9,e10⟩,none_of k e11,e12⟩
theorem vi{l:List Env}{env:Env}{b:Addr}(he:env∈l)(hb:env.frame=some b):b∈frs l:=List.mem_filterMap.mpr ⟨env,he,hb⟩
def Keeps(h0:Heap)(H:Hp)(l:List Env)(h h':Heap):Prop:=
 (∀b u,h.get? b=some u->b∉frs l->((∃v,H b=some v)∨(∃v,h0.get? b=some v)∨∀vs,u.data≠ .fields vs)->h'.get? b=some u)/\
 ∀b u,h.get? b=some u->b∈frs l->∃sl,h'.get? b=some {u with slots:=sl}
theorem mE{B:Heap}{l:List Env}(hok:HOk P w H h)(ff:h.FunFrames B l)(fr:∀b∈frs l,H b=none)(fl:Fly h0 H x cls h)
  (old:∀b v,h0.get? b=some v->∃v',h.get? b=some v'):
  ∃Bx a0,Heap.FlyingW Bx l x cls a0 h/\∀l' h',Heap.FlyingW Bx l' x cls a0 h'->h.UpToSlots h'->Fly h0 H x cls h'/\HOk P w H h'/\Keeps h0 H l h h':=by
 obtain⟨oe,vs,a0,T,oT,ts,e1,e2,e3,e4,e5,e6,e7,e8,⟨e9,e10⟩,e11,e12⟩:=fl
 have mx:x∈x::T::frs l:=List.mem_cons_self
 have mT:T∈x::T::frs l:=List.mem_cons_of_mem _ List.mem_cons_self
 have mf:∀b,b∈frs l->b∈x::T::frs l:=fun b z=>List.mem_cons_of_mem _ (List.mem_cons_of_mem _ z)
 refine⟨PySem.W.hideAll h (x::T::frs l),a0,⟨fun b u e=>PySem.W.of_hideAll _ e,PySem.W.hideAll_none _ mx,PySem.W.funFrames_hide ff fun env he b hb=>mf b (vi he hb),
  oe,vs,T,oT,ts,e1,e2,e3,e4,PySem.W.hideAll_none _ mT,e5,e6,e7,e8⟩,fun l' h' fl' up=>?_⟩
 have nf:∀b u,h.get? b=some u->b∈frs l->∀ws,u.data≠ .fields ws:=fun b u e hb=>by
  obtain⟨_,u',e',d⟩:=ff.mem hb
  rw[e] at e';cases e';exact d
 have keep:∀b u,h.get? b=some u->b∉frs l->b≠x->b≠T->h'.get? b=some u:=fun b u e n1 n2 n3=>
  fl'.1 b u (PySem.W.hideAll_get _ e fun hm=>by
   rcases List.mem_cons.mp hm with z |z
   ·exact n2 z
   ·rcases List.mem_cons.mp z with z |z
    ·exact n3 z
    ·exact n1 z)
 have slot:∀b u,h.get? b=some u->b∈frs l->∃sl,h'.get? b=some {u with slots:=sl}:=fun b u e hb=>up b u e (nf b u e hb)
 obtain⟨oe',vs',T',oT',ts',q1,q2,q3,q4,q5,q6,q7,q8,q9⟩:=fl'.2.2.2
 have sameT:∀u,h.get? T'=some u->T'=T:=fun u e=>by
  by_cases hb:T'∈frs l
  ·obtain⟨sl,e'⟩:=slot T' u e hb
   rw[q7] at e';cases e'
   exact absurd q8 (nf T' u e hb ts')
  ·by_cases hT:T'=T
   ·exact hT
   ·have:=PySem.W.hideAll_get (x::T::frs l) e fun hm=>by
     rcases List.mem_cons.mp hm with z |z
     ·exact q6 z
     ·rcases List.mem_cons.mp z with z |z
      ·exact hT z
      ·exact hb z
    rw[q5] at this;cases this
 refine⟨⟨oe',vs',a0,T',oT',ts',q1,q2,q3,q4,q6,q7,q8,q9,⟨e9,e10⟩,?_,?_⟩,hok.same fun b u v e r=>?_,fun b u e hb hc=>?_,slot⟩
 ·cases z:h0.get? T' with
  |none=>rfl
  |some u=>
   obtain⟨u',e'⟩:=old T' u z
   rw[sameT u' e',e11] at z;cases z
 ·cases z:H T' with
  |none=>rfl
  |some v=>
   obtain⟨u',e'⟩:=(hok T' v z).there
   rw[sameT u' e',e12] at z;cases z
 ·refine keep b u r (fun hb=>?_) (fun z=>?_) fun z=>?_
  ·rw[fr b hb] at e;cases e
  ·rw[z,e10] at e;cases e
  ·rw[z,e12] at e;cases e
 ·refine keep b u e hb (fun z=>?_) fun z=>?_
  ·subst z
   rcases hc with ⟨v,c⟩ |⟨v,c⟩ |c
   ·rw[e10] at c;cases c
   ·rw[e9] at c;cases c
   ·rw[e1] at e;cases e;exact c vs e3
  ·subst z
   rcases hc with ⟨v,c⟩ |⟨v,c⟩ |c
   ·rw[e12] at c;cases c
   ·rw[e11] at c;cases c
   ·rw[e6] at e;cases e;exact c ts e7
end
section
variable {X : Cx} {pins : List (Addr × Obj)} {σ : St} {H : Hp} {s : Shared} {hc h' : Heap}
structure Older (X:Cx) (pins:List (Addr×Obj)) (hc h:Heap):Prop where
 s0:∀b o,X.s₀.heap.get? b=some o->b∉X.ex->∃o',hc.get? b=some o'
 pin:∀p∈X.pn++pins,∃o,hc.get? p.1=some o
 here:∀b o,hc.get? b=some o->∃o',h.get? b=some o'
theorem Inv.unK(I:Inv X pins σ H s)(O:Older X pins hc s.heap)(k:Keeps hc H X.stack s.heap h'):Un X.fs X.ex X.H₀ H X.s₀.heap h':=by
 have nl:∀b o,X.s₀.heap.get? b=some o->b≠X.env.locals:=fun b o e=>Nat.ne_of_lt (Nat.lt_of_lt_of_le (Heap.lt_size e) I.ok.above)
 refine⟨fun b o e n hb hx=>?_,fun b o e n hb hx=>?_,I.base.free,fun b o e hx=>?_,I.base.tups,I.base.frzs,I.base.tbls⟩
 ·refine k.1 b o (I.base.keep b o e n hb hx) (fun z=>?_) (.inr (.inl (O.s0 b o e hx)))
  rcases List.mem_cons.mp (I.stkSub b z) with z |z
  ·exact nl b o e z
  ·exact hb z
 ·obtain⟨sl,e1⟩:=I.base.slot b o e n hb hx
  by_cases z:b∈frs X.stack
  ·obtain⟨sl',e2⟩:=k.2 b _ e1 z
   exact⟨sl',e2⟩
  ·exact⟨sl,k.1 b _ e1 z (.inr (.inl (O.s0 b o e hx)))⟩
 ·obtain⟨o',e1⟩:=I.base.there b o e hx
  by_cases z:b∈frs X.stack
  ·obtain⟨sl',e2⟩:=k.2 b _ e1 z
   exact⟨_,e2⟩
  ·exact⟨_,k.1 b _ e1 z (.inr (.inl (O.s0 b o e hx)))⟩
theorem Inv.flown(I:Inv X pins σ H s)(O:Older X pins hc s.heap)(k:Keeps hc H X.stack s.heap h')(hok:HOk X.prog X.w H h'):Inv X pins σ H {s with heap:=h'}:=by
 have cellK:∀c v,s.heap.IsCell c v->h'.IsCell c v:=fun c v ⟨o,ho,hd⟩=>by
  by_cases z:c∈frs X.stack
  ·obtain⟨sl,e⟩:=k.2 c o ho z
   exact⟨_,e,hd⟩
  ·exact⟨o,k.1 c o ho z (.inr (.inr fun vs q=>by rw[hd] at q;cases q)),hd⟩
 refine⟨I.ok,I.os,I.bare,I.unK O k,?_,fun y c e=>?_,I.free,I.freeC,fun p hp=>?_,hok,I.len⟩
 ·obtain⟨m,⟨o,es,ep,ho,hd,r⟩,hl⟩:=I.loc
  have hn:h'.Ns X.env.locals m:=by
   by_cases z:X.env.locals∈frs X.stack
   ·obtain⟨sl,e⟩:=k.2 _ o ho z
    exact⟨_,es,ep,e,hd,r⟩
   ·exact⟨o,es,ep,k.1 _ o ho z (.inr (.inr fun vs q=>by rw[hd] at q;cases q)),hd,r⟩
  refine⟨m,hn,fun i y v e1 e2 e3=>?_⟩
  obtain⟨u,ru,l⟩:=hl i y v e1 e2 e3
  refine⟨u,ru,?_⟩
  rcases l with l |⟨kd,c,e,z⟩
  ·exact .inl l
  ·exact .inr ⟨kd,c,e,cellK c _ z⟩
 ·obtain⟨v,z⟩:=I.cell y c e
  exact⟨v,cellK c v z⟩
 ·obtain⟨e,n,ne,nf,d⟩:=I.pin p hp
  refine⟨k.1 p.1 p.2 e (fun z=>?_) (.inr (.inl (O.pin p hp))),n,ne,nf,d⟩
  rcases List.mem_cons.mp (I.stkSub _ z) with z |z
  ·exact ne z
  ·exact nf z
end
def CX1(P:Program)(w:World):CXT:=fun outer H s E e s'=>∃x C H',e= .ref x/\s'.os=s.os/\AllBare s'.gens/\Un (frs outer) [] H H' s.heap s'.heap/\HOk P w H' s'.heap/\Fly s.heap H' x (.ref C) s'.heap/\E (.ref C) none H'
section
variable {P : Program} {w : World} {K : PySem.W.Frag} {mg : Str → Option Value} {base : Heap} {N : List Str} {qual : Str} {scope : Scope} {f : Addr} {cd : Value} {A : Around} {outer : List Env} {s : Shared} {H : Hp} {E : XK}
abbrev cx1(P:Program)(w:World)(K:PySem.W.Frag)(mg:Str->Option Value)(base:Heap)(N:List Str)(qual:Str)(scope:Scope)(f:Addr)(cd:Value)(A:Around)(outer:List Env)(s:Shared)(H:Hp)(E:XK):Cx:=
 qt (CX1 P w) P w K mg base N qual scope f cd A outer s H E
theorem nE{X:Cx}{pins:List (Addr×Obj)}{σ:St}{H:Hp}{s:Shared}(I:Inv X pins σ H s)(hx:X.ex=[]):∀b o,X.s₀.heap.get? b=some o->∃o',s.heap.get? b=some o':=fun b o e=>I.base.there b o e (by rw[hx];simp)
theorem BD{pins:List (Addr×Obj)}{σ:St}{H':Hp}{s':Shared}{x C:Addr}(I:Inv (cx1 P w K mg base N qual scope f cd A outer s H E) pins σ H' s')(fl:Fly s.heap H' x (.ref C) s'.heap)(q:E (.ref C) none H'):
  (cx1 P w K mg base N qual scope f cd A outer s H E).xe (.ref x) s':=by
 obtain⟨Bx,a0,f1,f2⟩:=mE I.hok I.stack I.stkFree fl (nE I rfl)
 show wpAny _ _ (leaving _ _) _ _ _
 refine wpAny_leaves_onW I.ok.frames rfl f1 fun h' fl' up=>?_
 obtain⟨g1,g2,g3⟩:=f2 _ h' fl' up
 have nl:∀b o,s.heap.get? b=some o->b≠(cx1 P w K mg base N qual scope f cd A outer s H E).env.locals:=fun b o e=>Nat.ne_of_lt (Nat.lt_of_lt_of_le (Heap.lt_size e) I.ok.above)
 have ne:∀b:Addr,b∉(cx1 P w K mg base N qual scope f cd A outer s H E).ex:=fun b z=>nomatch z
 refine⟨x,C,H',rfl,I.os,I.bare,⟨fun b o e n hb _=>?_,fun b o e n hb _=>?_,fun b o e n _=>I.base.free b o e n (ne b),fun b o e _=>?_,I.base.tups,I.base.frzs,I.base.tbls⟩,g2,g1,q⟩
 ·refine g3.1 b o (I.base.keep b o e n hb (ne b)) (fun z=>?_) (.inr (.inl ⟨o,e⟩))
  rcases List.mem_cons.mp (I.stkSub b z) with z |z
  ·exact nl b o e z
  ·exact hb z
 ·obtain⟨sl,e1⟩:=I.base.slot b o e n hb (ne b)
  by_cases z:b∈frs (cx1 P w K mg base N qual scope f cd A outer s H E).stack
  ·obtain⟨sl',e2⟩:=g3.2 b _ e1 z
   exact⟨sl',e2⟩
  ·exact⟨sl,g3.1 b _ e1 z (.inr (.inl ⟨o,e⟩))⟩
 ·obtain⟨o',e1⟩:=I.base.there b o e (ne b)
  by_cases z:b∈frs (cx1 P w K mg base N qual scope f cd A outer s H E).stack
  ·obtain⟨sl',e2⟩:=g3.2 b _ e1 z
   exact⟨_,e2⟩
  ·exact⟨_,g3.1 b _ e1 z (.inr (.inl ⟨o,e⟩))⟩
theorem dA:eK (CX1 P w) (cx1 P w K mg base N qual scope f cd A outer s H E) E:=fun pins σ H1 s1 e s' I hx=>by
 obtain⟨x,C,H',rfl,os,bare,un,hok,fl,q⟩:=hx
 have I':=I.call' (ch:=[]) os un hok bare (fun _ z=>nomatch z)
 exact BD I' (fl.older (nE I rfl)) q
theorem tZ{pins:List (Addr×Obj)}{σ:St}{H':Hp}{s':Shared}{x C:Addr}{vs:List Value}{h1:Heap}(I:Inv (cx1 P w K mg base N qual scope f cd A outer s H E) pins σ H' s')(hx:Heap.MadeExcOf s'.heap h1 x (.ref C) vs)(q:E (.ref C) none H'):
  (cx1 P w K mg base N qual scope f cd A outer s H E).xe (.ref x) {s' with heap:=h1}:=by
 show wpAny _ _ (leaving _ _) _ _ _
 have mf:∀env∈(cx1 P w K mg base N qual scope f cd A outer s H E).stack,∀b,env.frame=some b->b∈frs (cx1 P w K mg base N qual scope f cd A outer s H E).stack:=fun env he b hb=>vi he hb
 refine wpAny_leaves_madeW (s:={s' with heap:=h1}) (base:=PySem.W.hideAll s'.heap (frs (cx1 P w K mg base N qual scope f cd A outer s H E).stack)) (h:=s'.heap) I.ok.frames rfl (fun b o e=>PySem.W.of_hideAll _ e) (PySem.W.funFrames_hide I.stack mf) hx fun h' t fl' _ _ up=>?_
 have nl:∀b o,s.heap.get? b=some o->b≠(cx1 P w K mg base N qual scope f cd A outer s H E).env.locals:=fun b o e=>Nat.ne_of_lt (Nat.lt_of_lt_of_le (Heap.lt_size e) I.ok.above)
 have ne:∀b:Addr,b∉(cx1 P w K mg base N qual scope f cd A outer s H E).ex:=fun b z=>nomatch z
 have keep:∀b u,s'.heap.get? b=some u->b∉frs (cx1 P w K mg base N qual scope f cd A outer s H E).stack->h'.get? b=some u:=fun b u e n=>fl'.1 b u (PySem.W.hideAll_get _ e n)
 have slot:∀b u,s'.heap.get? b=some u->b∈frs (cx1 P w K mg base N qual scope f cd A outer s H E).stack->∃sl,h'.get? b=some {u with slots:=sl}:=fun b u e hb=>by
  obtain⟨_,u',e',d⟩:=I.stack.mem hb
  rw[e] at e';cases e'
  exact up b u (hx.keeps b u e) d
 have free:∀b v,H' b=some v->b∉frs (cx1 P w K mg base N qual scope f cd A outer s H E).stack:=fun b v e hb=>by rw[I.stkFree b hb] at e;cases e
 obtain⟨oe,ws,T,oT,ts,q1,q2,q3,q4,q5,q6,q7,q8,q9⟩:=fl'.2.2.2
 have nT:∀u,s'.heap.get? T=some u->False:=fun u e=>by
  by_cases hb:T∈frs (cx1 P w K mg base N qual scope f cd A outer s H E).stack
  ·obtain⟨_,u',e',d⟩:=I.stack.mem hb
   rw[e] at e';cases e'
   obtain⟨sl,e2⟩:=slot T u e hb
   rw[q7] at e2;cases e2
   exact d ts q8
  ·have:=PySem.W.hideAll_get _ e hb
   rw[q5] at this;cases this
 have oldNone:∀b,(∀u,s'.heap.get? b=some u->False)->s.heap.get? b=none/\H' b=none:=fun b hn=>by
  constructor
  ·cases z:s.heap.get? b with
   |none=>rfl
   |some u=>
    obtain⟨u',e'⟩:=I.base.there b u z (ne b)
    exact(hn u' e').elim
  ·cases z:H' b with
   |none=>rfl
   |some v=>
    obtain⟨u',e'⟩:=(I.hok b v z).there
    exact(hn u' e').elim
 have nx:=oldNone x fun u e=>by rw[hx.new] at e;cases e
 have nT':=oldNone T nT
 refine⟨x,C,H',rfl,I.os,I.bare,⟨fun b o e n hb _=>?_,fun b o e n hb _=>?_,fun b o e n _=>I.base.free b o e n (ne b),fun b o e _=>?_,I.base.tups,I.base.frzs,I.base.tbls⟩,I.hok.same fun b u v e r=>keep b u r (free b v e),⟨oe,ws,_,T,oT,ts,q1,q2,q3,q4,q6,q7,q8,q9,nx,nT'.1,nT'.2⟩,q⟩
 ·refine keep b o (I.base.keep b o e n hb (ne b)) fun z=>?_
  rcases List.mem_cons.mp (I.stkSub b z) with z |z
  ·exact nl b o e z
  ·exact hb z
 ·obtain⟨sl,e1⟩:=I.base.slot b o e n hb (ne b)
  by_cases z:b∈frs (cx1 P w K mg base N qual scope f cd A outer s H E).stack
  ·obtain⟨sl',e2⟩:=slot b _ e1 z
   exact⟨sl',e2⟩
  ·exact⟨sl,keep b _ e1 z⟩
 ·obtain⟨o',e1⟩:=I.base.there b o e (ne b)
  by_cases z:b∈frs (cx1 P w K mg base N qual scope f cd A outer s H E).stack
  ·obtain⟨sl',e2⟩:=slot b _ e1 z
   exact⟨_,e2⟩
  ·exact⟨_,keep b _ e1 z⟩
theorem Fun.ok1{x qual:Str}{st:Stmt}{f:Addr}{fd:FuncData}{N ps:List Str}{k:Nat}{sp:Sp}(F:Fun K x qual st f fd)(S:FnScope N ps (defScope st))(len:∀vs H Q E,sp vs H Q E->vs.length=ps.length)
  (hbody:∀(cdv:Value) (A:Around) (outer:List Env) (s:Shared) (H:Hp) (vs:List V) (Q:VK) (E:XK),Room k (A.deeper (envOfC qual (defScope st) s.heap.objs.size f cdv))->sp vs H Q E->
   ∃t,PSs (cx1 P w K mg base N qual (defScope st) f cdv A outer s H E) (defBody st) t/\t {nx:=fun _ H'=>Q .non H',rt:=Q} (start N vs) H):FnOk P w K mg base (CX1 P w) (k+1) f fd ps sp:=by
 obtain⟨oc,od,kV,doc,pm,an,cdv,ct,osl,rfl,lk,hcd⟩:=F.ex
 exact A3 lk hcd S len fun A outer s H vs Q E hr hsp=>hbody cdv A outer s H vs Q E hr hsp
end
section
variable {P : Program} {w : World} {K : PySem.W.Frag} {mg : Str → Option Value} {base : Heap} {N : List Str} {qual : Str} {scope : Scope} {f : Addr} {cd : Value} {A : Around} {outer : List Env} {s : Shared} {H : Hp} {E : XK}
abbrev valMro:List Value:=[.type "ValueError",.type "Exception",.type "BaseException",.type "object"]
structure Er (K:PySem.W.Frag) (mg:Str->Option Value) (x:Str) (C:Addr):Prop where
 mg:mg x=some (.ref C)
 ex:PySem.W.excIn K C valMro "ValueError.__new__"=true
theorem Er.obj{x:Str}{C:Addr}{h:Heap}(e:Er K mg x C)(X:K.In h):∃bm N nm q bs hdct sn sub ab col dd k0 k1 k2 k3 k5 mN,h.get? C=some (excClassObj nm q C N bs bm hdct sn sub ab col dd k0 k1 k2 k3 k5 "ValueError.__new__")/\h.Ns N mN/\mN "__init__"=none/\OwnTail h valMro bm:=by
 have q:=e.ex
 unfold PySem.W.excIn at q
 split at q
 ·rename_i dict cdat slots look
  split at q
  ·rename_i C2 tail s0 s1 s2 s3 nw s5 hmro hslots
   rw[Bool.and_eq_true,Bool.and_eq_true,Bool.and_eq_true,Bool.and_eq_true,Bool.and_eq_true] at q
   obtain⟨⟨⟨⟨⟨qa,qb⟩,qc⟩,qd⟩,qe⟩,qf⟩:=q
   replace qa:=beq_iff_eq.mp qa
   replace qb:=beq_iff_eq.mp qb
   replace qf:=beq_iff_eq.mp qf
   replace qc:cdat.hasDel=false:=by simpa using qc
   subst qa qb
   obtain⟨l⟩:=slots
   replace hslots:l=[s0,s1,s2,s3,some (.builtin "ValueError.__new__"),s5]:=hslots
   subst hslots
   cases cdat
   dsimp only at hmro qc qe qf
   subst hmro qc
   exact⟨_,_,_,_,_,_,_,_,_,_,_,_,_,_,_,_,_,X _ _ look,.of_isNs (PySem.W.isNs_of_in X qe),PySem.W.nsMap_none_of_in X qe qf,PySem.W.tail_of_in X qd⟩
  ·cases q
 ·cases q
def Ck(C:Addr)(E:XK)(t:TA):TS:=fun _ σ H=>t σ H fun vs H'=>vs.length<=sizeLine/\E (.ref C) none H'
theorem iH{x:Str}{C:Addr}{e0:Expr}{es:List Expr}{t:TA}{np cpos pos:Pos}(er:Er K mg x C)(hg:Gl (cx1 P w K mg base N qual scope f cd A outer s H E) x)(ha:PA (cx1 P w K mg base N qual scope f cd A outer s H E) (e0::es) t)(hdb:(x==("__debug__":Str))=false:=by decide)
  (he:starEach (e0::es) (cx1 P w K mg base N qual scope f cd A outer s H E).env=(false,eval e0 (cx1 P w K mg base N qual scope f cd A outer s H E).env)::starEach es (cx1 P w K mg base N qual scope f cd A outer s H E).env:=by rfl)
  (hpl:(backTo cpos (starEach es (cx1 P w K mg base N qual scope f cd A outer s H E).env)).any (·.1)=false:=by rfl):
  PS (cx1 P w K mg base N qual scope f cd A outer s H E) (.Raise (some (.Call (.Name x np) (e0::es) [] cpos)) none pos) (Ck C E t):=by
 intro pins s1 σ H1 D I h
 obtain⟨bm,N',nm,q,bs,hdct,sn,sub,ab,col,dd,k0,k1,k2,k3,k5,mN,hC,hN,hni,T⟩:=er.obj I.mod.kin
 have hp2:(backTo cpos (starEach (e0::es) (cx1 P w K mg base N qual scope f cd A outer s H E).env)).any (·.1)=false:=by
  rw[he]
  exact hpl
 refine wpAny_Raise_call_subT (C:=C) (nm:=nm) (q:=q) (N:=N') (bs:=bs) (bm:=bm) (hdct:=hdct) (sn:=sn) (sub:=sub) (ab:=ab) (col:=col) (dd:=dd) (k0:=k0) (k1:=k1) (k2:=k2) (k3:=k3) (k5:=k5)
  PySem.F.excBase_ValueError (mN:=mN) (T.hasType (by rfl)) (I.ok.hd rfl) hp2 hni (iV I hg er.mg ⟨rfl,?_⟩ hdb)
 have go:=ha cpos pins s1 σ H1 _ I h
 rw[he] at go ⊢
 refine Calls.evalArgs_plain (thn go fun us s2 hq=>?_)
 obtain⟨vs,H2,I2,r,ql,qe⟩:=hq
 refine⟨rfl,by show us.length<=sizeLine;rw[<-r.length];exact ql,I2.bk _ _ hC,hN.keeps I2.bk,T.keeps I2.bk,fun h' e hm=>?_⟩
 exact tZ I2 hm qe
end
structure Def1 (P:Program) (w:World) (K:PySem.W.Frag) (mg:Str->Option Value) (base:Heap) (x:Str) (k:Nat) (ps:List Str) (sp:Sp):Prop where
 ex:∃f fd,mg x=some (.ref f)/\PySem.W.keepIn K (.ref f)=true/\Binds K fd ps []/\FnOk P w K mg base (CX1 P w) k f fd ps sp
structure MDef1 (P:Program) (w:World) (K:PySem.W.Frag) (mg:Str->Option Value) (base:Heap) (C:Addr) (m:Str) (k:Nat) (ps:List Str) (sp:Sp):Prop where
 cl:Cls K C
 ex:∃f fd,Meth K C m f/\Binds K fd ps []/\FnOk P w K mg base (CX1 P w) k f fd ps sp
section
variable {X : Cx} {k : Nat} {C : Addr} {ps : List Str} {sp : Sp} {x m : Str} {p pos apos : Pos} {e o : Expr} {es : List Expr} {ta : TE} {t : TA} {E : XK}
theorem AC(D:Def1 X.prog X.w X.K X.mg X.base x k ps sp)(hx:eK (CX1 X.prog X.w) X E)(hr:Room k X.A)(hg:Gl X x)(ha:PA X (e::es) t)(hdb:(x==("__debug__":Str))=false:=by decide)
  (he:starEach (e::es) X.env=(false,eval e X.env)::starEach es X.env:=by rfl)(hpl:(backTo pos (starEach es X.env)).any (·.1)=false:=by rfl):PE X (.Call (.Name x p) (e::es) [] pos) (tCall sp [] E t):=by
 obtain⟨f,fd,h1,h2,h3,h4⟩:=D.ex
 exact vC h4 hr hg h1 h2 h3 .nil hx ha hdb he hpl
theorem bq{pl:Sem Bool}(ho:PE X o ta)(D:MDef1 X.prog X.w X.K X.mg X.base C m k ps sp)(hx:eK (CX1 X.prog X.w) X E)(hr:Room k X.A)(ha:PA X (e::es) t)
  (hst:starEach (e::es) X.env=(false,eval e X.env)::starEach es X.env:=by rfl)(hpl:(backTo pos (starEach es X.env)).any (·.1)=false:=by rfl)
  (ht:eval (.Call (.Attribute o m apos) (e::es) [] pos) X.env=(do
   let ov <-eval o X.env
   standAt apos.atName
   let (f,first) <-holding [ov] (getMethod ov m pl)
   callWith pos f first (backTo pos (starEach (e::es) X.env)) (backToKw pos (keywordEach [] X.env))):=by rfl):
  PE X (.Call (.Attribute o m apos) (e::es) [] pos) (tMeth C m sp [] E ta t):=by
 obtain⟨f,fd,h1,h3,h4⟩:=D.ex
 exact vE ho D.cl h1 h4 hr h3 .nil hx ha hst hpl ht
theorem PS.nox{st:Stmt}{t:TS}(h:PS X.nox st t):PS X st t:=fun pins s σ H D I hw=>
 wpAny_mono (h pins s σ H D (I.wish _) hw) (fun _ _ q=>q.unwish) fun _ _ z=>False.elim z
end
section
variable {X : Cx} {pins : List (Addr × Obj)} {σ : St} {H : Hp} {s : Shared}
def Bj(X:Cx)(pins:List (Addr×Obj))(XE:XK):Value->Shared->Prop:=fun e s'=>∃x C H' σ' hc,e= .ref x/\Inv X pins σ' H' s'/\Fly hc H' x (.ref C) s'.heap/\Older X pins hc s'.heap/\XE (.ref C) none H'
abbrev tryX(X:Cx)(pins:List (Addr×Obj))(XE:XK):Cx:={X with pn:=X.pn++pins,xe:=Bj X pins XE}
theorem Cx.Ok.tryX(ok:X.Ok)(pins:List (Addr×Obj))(XE:XK):(tryX X pins XE).Ok:=
 ⟨ok.mod,ok.kind,ok.glob,ok.blt,ok.above,ok.inj,ok.has,ok.cab,ok.hd,ok.frames,ok.stk,ok.exf,ok.bs,ok.bsz,ok.noex,ok.exfs,ok.funs,ok.frf⟩
theorem Cx.Ok.unTry{pins:List (Addr×Obj)}{XE:XK}(ok:(L2.tryX X pins XE).Ok):X.Ok:=
 ⟨ok.mod,ok.kind,ok.glob,ok.blt,ok.above,ok.inj,ok.has,ok.cab,ok.hd,ok.frames,ok.stk,ok.exf,ok.bs,ok.bsz,ok.noex,ok.exfs,ok.funs,ok.frf⟩
theorem Inv.tryX(I:Inv X pins σ H s)(XE:XK):Inv (tryX X pins XE) [] σ H s:=
 ⟨I.ok.tryX pins XE,I.os,I.bare,I.base,I.loc,I.cell,I.free,I.freeC,fun p hp=>I.pin p (by simpa using hp),I.hok,I.len⟩
theorem Inv.unTry{pins':List (Addr×Obj)}{XE:XK}(I:Inv (L2.tryX X pins XE) pins' σ H s):Inv X pins σ H s:=
 ⟨I.ok.unTry,I.os,I.bare,I.base,I.loc,I.cell,I.free,I.freeC,fun p hp=>I.pin p (List.mem_append_left _ hp),I.hok,I.len⟩
theorem SP.unTry{XE:XK}{D:Ends}{f:Flow}{s':Shared}(h:SP (tryX X pins XE) [] D f s'):SP X pins D f s':=by
 cases f with
 |next=>obtain⟨σ',H',I,q⟩:=h;exact⟨σ',H',I.unTry,q⟩
 |brk=>obtain⟨σ',H',I,q⟩:=h;exact⟨σ',H',I.unTry,q⟩
 |cont=>obtain⟨σ',H',I,q⟩:=h;exact⟨σ',H',I.unTry,q⟩
 |ret u=>obtain⟨v,σ',H',I,r,q⟩:=h;exact⟨v,σ',H',I.unTry,r,q⟩
theorem CM{XE:XK}:eK (CX1 X.prog X.w) (tryX X pins XE) XE:=fun pins' σ H1 s1 e s' I hx=>by
 obtain⟨x,C,H',rfl,os,bare,un,hok,fl,q⟩:=hx
 have I':=I.call' (ch:=[]) os un hok bare (fun _ z=>nomatch z)
 refine⟨x,C,H',σ,s1.heap,rfl,I'.unTry,fl,⟨fun b o e hb=>I.base.there b o e hb,fun p hp=>⟨_,(I.pin p (List.mem_append_left _ hp)).1⟩,fun b o e=>un.there b o e (by simp)⟩,q⟩
def PH(X:Cx)(hs:List ExceptHandler)(cls:Value)(t:TS):Prop:=∀(pins:List (Addr×Obj)) (s:Shared) (σ:St) (H:Hp) (D:Ends) (x:Addr) (hc:Heap),Inv X pins σ H s->Fly hc H x cls s.heap->Older X pins hc s.heap->t D σ H->
 wpAny (model X.prog X.w) X.A (handleBy (.ref x) X.env hs) (SP X pins D) X.xe s
def Dg(X:Cx)(hs:List ExceptHandler)(tb:XK->TS):TS:=fun D σ H=>tb (fun cls _ H'=>∃t,PH X hs cls t/\∀σ',t D σ' H') D σ H
theorem BW{body:List Stmt}{h0:ExceptHandler}{hs:List ExceptHandler}{pos:Pos}{tb:XK->TS}(hst:X.stack=X.env::X.outer)(hf:X.env.frame=some X.env.locals)(hb:∀pins XE,PSs (tryX X pins XE) body (tb XE)):
  PS X (.Try body (h0::hs) [] [] pos) (Dg X (h0::hs) tb):=by
 intro pins s σ H D I h
 refine wpAny_Try_except (wpAny_mono (hb pins _ [] s σ H D (I.tryX _) h) (fun f s1 q=>?_) fun e s1 q=>?_)
 ·have q:=SP.unTry q
  cases f with
  |next=>exact wpAny_execs_nil q
  |ret v=>exact q
  |brk=>exact q
  |cont=>exact q
 ·obtain⟨x,C,H',σ',hc,rfl,I1,fl,O,t,ht,q⟩:=q
  obtain⟨Bx,a0,f1,f2⟩:=mE I1.hok I1.stack I1.stkFree fl O.here
  rw[hst] at f1
  refine wpAny_looks_onW (by rw[<-hst];exact I1.ok.frames) hf f1 fun h4 held up4=>wpAny_landsW held fun h5 fl5 up5=>?_
  obtain⟨g1,g2,g3⟩:=f2 _ h5 fl5 (up4.trans up5)
  have O5:Older X pins hc h5:=⟨O.s0,O.pin,fun b o e=>by
   obtain⟨o',e1⟩:=O.here b o e
   by_cases z:b∈frs X.stack
   ·obtain⟨sl',e2⟩:=g3.2 b _ e1 z
    exact⟨_,e2⟩
   ·exact⟨_,g3.1 b _ e1 z (.inr (.inl ⟨o,e⟩))⟩⟩
  exact ht pins {s1 with heap:=h5} σ' H' D x hc (I1.flown O g3 g2) g1 O5 (q σ')
abbrev markX(X:Cx)(x:Addr)(E:Value->Shared->Prop):Cx:={X with A:=X.A.mark (some (.ref x)),calm:=false,xe:=E}
theorem Inv.mark(I:Inv X pins σ H s)(x:Addr)(E:Value->Shared->Prop):Inv (markX X x E) pins σ H s:=
 let ok:=I.ok
 ⟨⟨ok.mod,ok.kind,ok.glob,ok.blt,ok.above,ok.inj,ok.has,ok.cab,fun z=>(nomatch z),ok.frames,ok.stk,ok.exf,ok.bs,ok.bsz,ok.noex,ok.exfs,ok.funs,ok.frf⟩,I.os,I.bare,I.base,I.loc,I.cell,I.free,I.freeC,I.pin,I.hok,I.len⟩
theorem Inv.unmark{x:Addr}{E:Value->Shared->Prop}(I:Inv (markX X x E) pins σ H s)(ok:X.Ok):Inv X pins σ H s:=⟨ok,I.os,I.bare,I.base,I.loc,I.cell,I.free,I.freeC,I.pin,I.hok,I.len⟩
theorem SP.unmark{x:Addr}{E:Value->Shared->Prop}{D:Ends}{f:Flow}{s':Shared}(ok:X.Ok)(h:SP (markX X x E) pins D f s'):SP X pins D f s':=by
 cases f with
 |next=>obtain⟨σ',H',I,q⟩:=h;exact⟨σ',H',I.unmark ok,q⟩
 |brk=>obtain⟨σ',H',I,q⟩:=h;exact⟨σ',H',I.unmark ok,q⟩
 |cont=>obtain⟨σ',H',I,q⟩:=h;exact⟨σ',H',I.unmark ok,q⟩
 |ret u=>obtain⟨v,σ',H',I,r,q⟩:=h;exact⟨v,σ',H',I.unmark ok,r,q⟩
theorem Fly.ty{M:Model}{hc h:Heap}{x:Addr}{cls:Value}(f:Fly hc H x cls h):PySem.W.Looks M h (typeOf (.ref x)) cls:=by
 obtain⟨oe,vs,a0,T,oT,ts,e1,e2,_⟩:=f
 obtain⟨rfl,_⟩:=e2
 exact(PySem.W.Looks.ld e1).andThen .now
theorem eo{n:Str}{c cls:Value}{np pos:Pos}{nm:Option Str}{suite:List Stmt}{rest:List ExceptHandler}{t:TS}(hg:Gl X n)(hm:X.mg n=some c)(hx:PySem.W.exmOne X.K cls c=some false)(hr:PH X rest cls t)(hdb:(n==("__debug__":Str))=false:=by decide):
  PH X (.ExceptHandler (some (.Name n np)) nm suite pos::rest) cls t:=by
 intro pins s σ H D x hc I fl O q
 refine wpAny_handleBy_cons (codeAny_handlers_test ?_) (by intro z;cases z)
 refine iV (I.mark x X.xe) hg hm ?_ hdb
 exact PySem.W.exm_one I.kIn fl.ty hx _ _ _ _ (fun _ _ e=>e) (hr pins s σ H D x hc I fl O q)
theorem nL{n:Str}{c cls:Value}{np pos:Pos}{b0:Stmt}{suite:List Stmt}{rest:List ExceptHandler}{t:TS}(hg:Gl X n)(hm:X.mg n=some c)(hx:PySem.W.exmOne X.K cls c=some true)(hs:∀x E,PSs (markX X x E) (b0::suite) t)(hdb:(n==("__debug__":Str))=false:=by decide):
  PH X (.ExceptHandler (some (.Name n np)) none (b0::suite) pos::rest) cls t:=by
 intro pins s σ H D x hc I fl O q
 refine wpAny_handleBy_cons (codeAny_handlers_test ?_) (by intro z;cases z)
 refine iV (I.mark x X.xe) hg hm ?_ hdb
 refine PySem.W.exm_one I.kIn fl.ty hx _ _ _ _ (fun _ _ e=>e) ?_
 refine codeAny_handlers_suite ?_
 obtain⟨Bx,a0,f1,f2⟩:=mE I.hok I.stack I.stkFree fl O.here
 refine lands_againW f1 fun h6 fl6 up6=>?_
 obtain⟨g1,g2,g3⟩:=f2 _ h6 fl6 up6
 have I6:=I.flown O g3 g2
 refine thn (hs x _ pins {s with heap:=h6} σ H D (I6.mark x _) q) fun f s2 hq=>?_
 exact hq.unmark I.ok
end
end L2
end
section
set_option maxHeartbeats 2000000
namespace L2
open PySem PySem.Spec PyProof.Rows
section
variable {X : Cx} {pins : List (Addr × Obj)} {σ : St} {H : Hp} {s : Shared} {d : Addr} {ob : Obj} {kvs : List (Key × V)} {tg : Expr}
theorem Inv.freeze(I:Inv X pins σ H s)(hd:H d=some (.dK kvs))(ho:s.heap.get? d=some ob):Inv X pins σ (upd H d (.frz ob (.dK kvs))) s:=by
 have ne:∀b o,H b=some o->(∀l,o≠ .dK l)->b≠d:=fun b o e n z=>by subst z;rw[hd] at e;cases e;exact n _ rfl
 have u:Un X.fs [] H (upd H d (.frz ob (.dK kvs))) s.heap s.heap:=⟨fun _ _ e _ _ _=>e,fun b o e _ _ _=>⟨o.slots,e⟩,fun b o e n _=>by rw[aj (fun z=>by subst z;rw[hd] at n;cases n)];exact n,fun b o e _=>⟨o,e⟩,
  fun b xs e=>by rw[aj (ne b _ e (by intro l z;cases z))];exact e,fun b o v e=>by rw[aj (ne b _ e (by intro l z;cases z))];exact e,fun b ps e=>⟨#[],by rw[aj (ne b _ e (by intro l z;cases z)),e];simp⟩⟩
 have hok:HOk X.prog X.w (upd H d (.frz ob (.dK kvs))) s.heap:=fun b o e=>by
  have st:∀a v,ba X.prog X.w H s.heap a v->ba X.prog X.w (upd H d (.frz ob (.dK kvs))) s.heap a v:=fun a v q=>q.stay (fun _ _ _ e=>e) (fun c e=>by rw[aj (ne c _ e (by intro l z;cases z))];exact e) fun c xs e=>by rw[aj (ne c _ e (by intro l z;cases z))];exact e
  by_cases z:b=d
  ·subst z
   rw[upd_same] at e
   cases e
   exact⟨ho,st _ _ (I.hok b _ hd)⟩
  ·rw[aj z] at e
   exact st _ _ (I.hok b o e)
 exact I.un (h':=s.heap) (t':=s.toks) u hok
theorem Inv.thaw{k0:List (Key×V)}(I:Inv X pins σ H s)(h0:X.H₀ d=some (.dK k0))(hd:H d=some (.frz ob (.dK kvs))):Inv X pins σ (upd H d (.dK kvs)) s:=by
 have ne:∀b o,H b=some o->(∀ob l,o≠ .frz ob (.dK l))->b≠d:=fun b o e n z=>by subst z;rw[hd] at e;cases e;exact n _ _ rfl
 have nn:∀b,H b=none->upd H d (.dK kvs) b=none:=fun b n=>by rw[aj (fun z=>by subst z;rw[hd] at n;cases n)];exact n
 have ne0:∀b o u,X.H₀ b=some (.frz o u)->b≠d:=fun b o u e z=>by subst z;rw[h0] at e;cases e
 have hok:HOk X.prog X.w (upd H d (.dK kvs)) s.heap:=fun b o e=>by
  have st:∀a v,ba X.prog X.w H s.heap a v->ba X.prog X.w (upd H d (.dK kvs)) s.heap a v:=fun a v q=>q.stay (fun _ _ _ e=>e) (fun c e=>by rw[aj (ne c _ e (by intro l z w;cases w))];exact e) fun c xs e=>by rw[aj (ne c _ e (by intro l z w;cases w))];exact e
  by_cases z:b=d
  ·subst z
   rw[upd_same] at e
   cases e
   exact st _ _ (I.hok b _ hd).2
  ·rw[aj z] at e
   exact st _ _ (I.hok b o e)
 exact⟨I.ok,I.os,I.bare,⟨I.base.keep,I.base.slot,fun b o e n hx=>nn b (I.base.free b o e n hx),I.base.there,fun b xs e=>by rw[aj (ne b _ (I.base.tups b xs e) (by intro l z w;cases w))];exact I.base.tups b xs e,
  fun b o u e=>by rw[aj (ne0 b o u e)];exact I.base.frzs b o u e,fun b ps e=>by
   obtain⟨m,q⟩:=I.base.tbls b ps e
   exact⟨m,by rw[aj (ne b _ q (by intro l z w;cases w))];exact q⟩⟩,I.loc,I.cell,nn _ I.free,fun x c e=>nn _ (I.freeC x c e),fun p hp=>by
   obtain⟨e,n,r⟩:=I.pin p hp
   exact⟨e,nn _ n,r⟩,hok,I.len⟩
def Bh(H₀:Hp)(t:TE):TE:=fun σ H Q=>t σ H fun v H'=>∃d ob kvs k0,H₀ d=some (.dK k0)/\H' d=some (.frz ob (.dK kvs))/\Q v (upd H' d (.dK kvs))
theorem AF{e:Expr}{t:TE}(h:PE X e t):PE X e (Bh X.H₀ t):=fun pins s σ H Q I q=>
 thn (h pins s σ H _ I q) fun u s1 ⟨v,H1,I1,r,d,ob,kvs,k0,h0,hd,q1⟩=>⟨v,_,I1.thaw h0 hd,r,q1⟩
theorem fc{K:PySem.W.Frag}{e:Expr}{f:Str}{pos:Pos}{ta:TE}(hK:X.K=K)(he:PE X e ta)(hb:attributeBase e f X.env (eval e X.env)=eval e X.env):PE X (.Attribute e f pos) (tFld K ta f):=hK▸aF he hb
theorem BR{elt iter tg:Expr}{ifs:List Expr}{scope:Scope}{pos:Pos}{own:List Str}{wi:TI}{g:TG}{tc:TT}{te:TE}(hc:X.calm=true)(S:LcScope X scope own)(hi:PI X tg iter wi)
  (hb:∀cl C s H fp,PG (cL X scope own cl C s H fp) tg g/\PTs (cL X scope own cl C s H fp) ifs tc/\PE (cL X scope own cl C s H fp) elt te)
  (hs:∀x,foldedSetIterable iter X.env x=pure x:=by intro _;rfl):PE X (.ListComp elt [⟨tg,iter,ifs,0⟩] scope pos) (Bh X.H₀ (tLc own.length wi g tc te)):=AF (jf hc S hi hb hs)
def Itv(o:Obj)(d:Addr)(kvs:List (Key×V)):It:=
 ⟨fun i H=>H d=some (.frz o (.dK kvs))/\i<kvs.length,fun i H x H'=>H'=H/\(kvs.map (·.2))[i]?=some x,fun i H=>H d=some (.frz o (.dK kvs))/\kvs.length<=i⟩
theorem KV.getAt{κ:Type}:∀{kvs:List (κ×V)} {vs:List (κ×Value)} {i:Nat},KV kvs vs->i<kvs.length->∃k x u,kvs[i]?=some (k,x)/\vs[i]?=some (k,u)/\RelV x u
 |_,_,0,.cons (a:=p) (b:=q) h _,_=>by
  obtain⟨k,x⟩:=p
  obtain⟨k',u⟩:=q
  obtain⟨e,r⟩:=h
  cases e
  exact⟨k,x,u,rfl,rfl,r⟩
 |_,_,i+1,.cons _ t,hi=>by
  obtain⟨k,x,u,e1,e2,r⟩:=KV.getAt (i:=i) t (by simpa using hi)
  exact⟨k,x,u,by simpa using e1,by simpa using e2,r⟩
theorem uO{P:Program}{w:World}{K:PySem.W.Frag}(it:Addr){es:Array DictEntry}{ep:Nat}(hob:ob.data= .dict es ep):Turn P w K tg (Itv ob d kvs) [it] it (fun i h=>h.IsValIter it d i kvs.length ep) where
 mem:=by simp
 obj:=fun i h st b hb=>by
  have e:b=it:=by simpa using hb
  subst e
  obtain⟨o,e,c,dd⟩:=st
  exact⟨o,e,fun v z=>by rw[dd] at z;cases z⟩
 keep:=fun i h h' st k=>st.at fun o e=>k it (by simp) o e
 item:=by
  intro X hP hw hK hc i pins s σ H E I hf st hg
  subst hP hw hK
  obtain⟨hg,hi⟩:=hg
  obtain⟨f0,f1,f2,f3,f4,f5⟩:=hf it (by simp)
  obtain⟨ho,z,hsm,vs,rel,o',es',ep',ho',r1,r2,r3⟩:=(show ba X.prog X.w H s.heap d (.frz ob (.dK kvs)) from I.hok d _ hg)
  rw[ho] at ho'
  cases ho'
  rw[hob] at r2
  cases r2
  have hat:s.heap.DictAt (aQ X.prog X.w) d vs ep:=⟨ob,es,ho,r1,hob,r3⟩
  obtain⟨k,x,u,e1,e2,rx⟩:=KV.getAt rel hi
  rw[rel.length] at st
  refine wpAny_pyNext_values_item st hat e2 fun h' st' sb=>?_
  have I1:Inv X pins σ H {s with heap:=h'}:=I.turned (t':=s.toks) (fun b o hb e=>(sb.2 b hb).trans e) f0 f1 f3 f4 f5
  obtain⟨o,e,c,dd⟩:=id st'
  rw[<-rel.length] at st'
  exact⟨u,rfl,vj (s:={s with heap:=h'}) e c dd (by decide) ⟨x,H,I1,rx,⟨rfl,by rw[List.getElem?_map,e1];rfl⟩,st',fun b hb=>(hf b hb).1⟩⟩
 done:=by
  intro X hP hw hK hc i pins s σ H E I hf st hg
  subst hP hw hK
  obtain⟨hg,hi⟩:=hg
  obtain⟨f0,f1,f2,f3,f4,f5⟩:=hf it (by simp)
  obtain⟨ho,z,hsm,vs,rel,o',es',ep',ho',r1,r2,r3⟩:=(show ba X.prog X.w H s.heap d (.frz ob (.dK kvs)) from I.hok d _ hg)
  rw[ho] at ho'
  cases ho'
  rw[hob] at r2
  cases r2
  have hat:s.heap.DictAt (aQ X.prog X.w) d vs ep:=⟨ob,es,ho,r1,hob,r3⟩
  have hl:=rel.length
  rw[hl] at st
  exact wpAny_pyNext_values_end (I.ok.hd hc) st hat (by rw[List.getElem?_eq_none_iff];omega) fun h' eb=>⟨rfl,I.turned (t':=s.toks) (fun b o hb e=>eb b o hb e) f0 f1 f3 f4 f5⟩
 self:=fun _ _ _ _ _ st h=>wpAny_pyIter_valiter st h
def Bu(td:TE):TI:=fun σ H R=>td σ H fun x H1=>∃d kvs,x= .ref d/\H1 d=some (.dK kvs)/\∀o,R (Itv o d kvs) (upd H1 d (.frz o (.dK kvs)))
theorem yL{o:Expr}{td:TE}{apos cpos:Pos}(ho:PE X o td)(hb:attributeBase o "values" X.env (eval o X.env)=eval o X.env)(hl:(apos.endLine==cpos.line)=true):PI X tg (.Call (.Attribute o "values" apos) [] [] cpos) (Bu td):=by
 intro pins s σ H R I h
 refine wpAny_Call_method hb rfl hl PySem.F.plainAttrs_dict PySem.F.slot_dict_values PySem.F.type_dict_values (thn (ho pins s σ H _ I h) fun u s1 ⟨x,H1,I1,rx,d,kvs,ex,hd,q1⟩=>?_)
 subst ex
 obtain rfl:u=Value.ref d:=rx
 obtain⟨t1,t2,_⟩:=mI I1 (.inl ⟨kvs,Rd.of hd⟩)
 refine⟨t1,t2,?_⟩
 show wpAny _ _ (callWith cpos (.builtin "dict.values") [.ref d] [] []) _ _ s1
 obtain⟨z,hsm,vs,rel,dd⟩:=ir I1.hok (Rd.of hd)
 refine Calls.callWith_builtin rfl (PySem.evalArgs_none ?_)
 refine call_meetsIn PySem.F.slot_dict_values dd.typeIs PySem.F.entry_dict_values (PySem.F.args_dict_values_1 _) (meets_dict_values (aQ X.prog X.w) d hsm) ⟨⟨vs,dd⟩,?_⟩
 obtain⟨ob,es,ep,hob,r1,hdat,r3⟩:=id dd
 have I2:Inv X pins σ H1 {s1 with heap:=s1.heap.push {cls:= .type "dict_values",data:= .fields #[.ref d]}}:=I1.kept (t':=s1.toks) fun b o e=>Heap.get?_push_of_some _ e
 have hob2:=Heap.get?_push_of_some {cls:= .type "dict_values",data:= .fields #[.ref d]} hob
 refine wpAny_pyIter_values (knd:=aQ X.prog X.w) (kvs:=vs) (ep:=ep) ⟨_,Heap.get?_push_size _ rfl,rfl,rfl⟩ ⟨ob,es,hob2,r1,hdat,r3⟩ ?_
 have I3:=I2.kept (t':=s1.toks) (h':=(s1.heap.push {cls:= .type "dict_values",data:= .fields #[.ref d]}).push {cls:= .type "dict_valueiterator",data:= .fields #[.ref d,.int 0 0,.int vs.length 0,.int ep 0]}) fun b o e=>Heap.get?_push_of_some _ e
 have I4:=I3.freeze hd (Heap.get?_push_of_some _ hob2)
 refine⟨_,[_],_,Itv ob d kvs,_,rfl,I4,uO _ hdat,?_,fun b hb=>?_,q1 ob⟩
 ·rw[rel.length]
  exact⟨_,Heap.get?_push_size _ rfl,rfl,rfl⟩
 ·have e:b=(s1.heap.push {cls:= .type "dict_values",data:= .fields #[.ref d]}).objs.size:=by simpa using hb
  subst e
  refine I2.fpOk (Nat.le_refl _) ?_
  rw[aj]
  ·exact I2.hok.fresh (Nat.le_refl _)
  ·exact Nat.ne_of_gt (Heap.lt_size hob2)
theorem aR.vals{o:Obj}{d:Addr}{kvs:List (Key×V)}{H:Hp}(h:H d=some (.frz o (.dK kvs))):aR (Itv o d kvs) (kvs.map (·.2)) H:=
 ⟨fun i x hx=>⟨⟨h,by
  have:=(List.getElem?_eq_some_iff.mp hx).1
  simpa using this⟩,fun y H' hy=>⟨hy.1,by
   have:=hy.2
   rw[hx] at this
   exact(Option.some.inj this).symm⟩⟩,⟨h,by simp⟩⟩
end
end L2
end
section
namespace Fb
def iB:List Int->Option Int
 | []=>none
 |x::r=>match iB r with
  |none=>some x
  |some m=>some (if m<x then x else m)
theorem gC:∀{l:List Int},iB l=none↔l=[]
 | []=>by simp[iB]
 |x::r=>by
  simp only[iB]
  cases iB r<;>simp
theorem mZ:∀{l:List Int} {m:Int},iB l=some m->m∈l/\∀y∈l,y<=m
 |x::r,m,h=>by
  cases e:iB r with
  |none=>
   have z:r=[]:=gC.mp e
   subst z
   have hx:x=m:=by simpa [iB] using h
   subst hx
   refine⟨by simp,fun y hy=>?_⟩
   have:y=x:=by simpa using hy
   omega
  |some k=>
   obtain⟨h1,h2⟩:=mZ e
   by_cases q:k<x
   ·have hx:x=m:=by simpa [iB,e,q] using h
    subst hx
    refine⟨by simp,fun y hy=>?_⟩
    rcases List.mem_cons.mp hy with z |z
    ·omega
    ·have:=h2 y z;omega
   ·have hx:k=m:=by simpa [iB,e,q] using h
    subst hx
    refine⟨by simp[h1],fun y hy=>?_⟩
    rcases List.mem_cons.mp hy with z |z
    ·omega
    ·exact h2 y z
theorem kP{l:List Int}{m:Int}(hm:m∈l)(hy:∀y∈l,y<=m):iB l=some m:=by
 cases e:iB l with
 |none=>rw[gC.mp e] at hm;cases hm
 |some k=>
  obtain⟨h1,h2⟩:=mZ e
  have a:=h2 m hm
  have b:=hy k h1
  congr 1
  omega
def cK(c:Int)(ns:List Int):Option Int:=iB (ns.filter fun u=>decide (c<=u))
theorem iw{c:Int}{l:List Int}:cK c l=none↔∀u∈l,u<c:=by
 unfold cK
 rw[gC,List.filter_eq_nil_iff]
 constructor
 ·intro h u hu
  have:=h u hu
  simp only[decide_eq_true_eq] at this
  omega
 ·intro h u hu
  have:=h u hu
  simp only[decide_eq_true_eq]
  omega
theorem ix{c m:Int}{l:List Int}:cK c l=some m↔m∈l/\c<=m/\∀u∈l,u<=m:=by
 unfold cK
 constructor
 ·intro h
  obtain⟨h1,h2⟩:=mZ h
  obtain⟨h3,h4⟩:=List.mem_filter.mp h1
  have h4:c<=m:=by simpa using h4
  refine⟨h3,h4,fun u hu=>?_⟩
  by_cases hc:c<=u
  ·exact h2 u (List.mem_filter.mpr ⟨hu,by simpa using hc⟩)
  ·omega
 ·rintro⟨h1,h2,h3⟩
  refine kP (List.mem_filter.mpr ⟨h1,by simpa using h2⟩) fun y hy=>h3 y (List.mem_filter.mp hy).1
theorem lz{c:Int}{l m:List Int}(h:∀u,u∈l↔u∈m):cK c l=cK c m:=by
 cases e:cK c m with
 |none=>exact iw.mpr fun u hu=>iw.mp e u ((h u).mp hu)
 |some k=>
  obtain⟨h1,h2,h3⟩:=ix.mp e
  exact ix.mpr ⟨(h k).mpr h1,h2,fun u hu=>h3 u ((h u).mp hu)⟩
namespace Y
section
variable {κ α : Type} [DecidableEq κ]
def set1(f:κ->α)(k:κ)(v:α):κ->α:=fun x=>if x=k then v else f x
theorem ai{f:κ->α}{k:κ}{v:α}:set1 f k v k=v:=if_pos rfl
theorem ao{f:κ->α}{k x:κ}{v:α}(h:x≠k):set1 f k v x=f x:=if_neg h
end
structure Cp where
 value:Int
 version:Int
 till:Int
 deriving DecidableEq
structure Th where
 keeper:Int
 value:Int
 version:Int
 lent:Int->Option Int
 quiet:Option Int
 waiting:Option Int
structure Pl where
 count:Nat
 length:Int
 bound:Int
structure S (N:Type) where
 time:Int
 off:Int->Int
 up:Int->Bool
 cp:Int->N->Option Cp
 th:N->Option Th
inductive Deed (N:Type) where
 |pass (m:Int)
 |shift (d o:Int)
 |read (d:Int) (n:N)
 |change (d:Int) (n:N) (v:Int)
 |tries (n:N)
 |back (d:Int) (n:N)
 |stop (d:Int)
 |wake (d:Int)
inductive An where
 |int (i:Int)
 |bl (b:Bool)
 |own (v n:Int)
 |fresh (v n:Int)
 |lent (v n:Int)
 |waits (u:Int)
 |changed (n:Int)
 |noDesk |noThing |noClock |stopped |noAnswer |notNow |nothing
 deriving DecidableEq
variable {N : Type} [DecidableEq N]
def S.clock(s:S N)(d:Int):Int:=s.time+s.off d
def cP(p:Pl)(t:Th):List Int:=((List.range p.count).filterMap fun(i:Nat)=>t.lent (i:Int))++t.quiet.toList
def A2(t:Th)(v:Int):Th:={t with value:=v,version:=t.version+1,lent:=fun _=>none,quiet:=none,waiting:=none}
def attempt(p:Pl)(c:Int)(t:Th):An×Th:=match t.waiting with
 |none=>(.nothing,t)
 |some v=>match cK c (cP p t) with
  |some u=>(.waits u,t)
  |none=>(.changed (t.version+1),A2 t v)
def isDesk(p:Pl)(d:Int):Bool:=decide (0<=d)&&decide (d<p.count)
def named(p:Pl)(s:S N)(d:Int)(n:N)(k:Th->An×S N):An×S N:=
 if isDesk p d then match s.th n with
  |none=>(.noThing,s)
  |some t=>if s.up d then k t else(.stopped,s)
 else(.noDesk,s)
def gk(p:Pl)(s:S N)(d:Int)(n:N):Option Cp:=match s.cp d n with
 |none=>none
 |some c=>if s.clock d+2*p.bound<=c.till then some c else none
def setC(f:Int->N->Option Cp)(d:Int)(n:N)(c:Option Cp):Int->N->Option Cp:=set1 f d (set1 (f d) n c)
def cg(p:Pl)(s:S N)(d:Int)(n:N)(t:Th):An×S N:=
 if t.keeper=d then(.own t.value t.version,s)
 else match gk p s d n with
  |some c=>(.fresh c.value c.version,s)
  |none=>if s.up t.keeper then match t.waiting with
    |some _=>(.notNow,s)
    |none=>(.lent t.value t.version,{s with
      cp:=setC s.cp d n (some ⟨t.value,t.version,s.clock t.keeper+p.length⟩)
      th:=set1 s.th n (some {t with lent:=set1 t.lent d (some (s.clock t.keeper+p.length))})})
   else(.noAnswer,s)
def bQ(p:Pl)(s:S N)(d:Int)(n:N)(v:Int)(t:Th):An×S N:=
 if s.up t.keeper then match t.waiting with
  |some _=>(.notNow,{s with cp:=setC s.cp d n none,th:=set1 s.th n (some {t with lent:=set1 t.lent d none})})
  |none=>
   let r:=attempt p (s.clock t.keeper) {t with lent:=set1 t.lent d none,waiting:=some v}
   (r.1,{s with cp:=setC s.cp d n none,th:=set1 s.th n (some r.2)})
 else(.noAnswer,s)
def ie(s:S N)(d:Int)(n:N)(t:Th):An×S N:=
 (.bl (s.cp d n).isSome,{s with
  cp:=setC s.cp d n none
  th:=if s.up t.keeper then set1 s.th n (some {t with lent:=set1 t.lent d none}) else s.th})
def oz(s:S N)(d:Int):S N:={s with
 up:=set1 s.up d false
 cp:=set1 s.cp d fun _=>none
 th:=fun n=>(s.th n).map fun t=>if t.keeper=d then {t with lent:=fun _=>none,waiting:=none} else t}
def tz(p:Pl)(s:S N)(d:Int):S N:={s with
 up:=set1 s.up d true
 th:=fun n=>(s.th n).map fun t=>if t.keeper=d then {t with quiet:=some (s.clock d+p.length+2*p.bound)} else t}
def step(p:Pl)(s:S N):Deed N->An×S N
 | .pass m=>(.int (s.time+m),{s with time:=s.time+m})
 | .shift d o=>if isDesk p d then(if -p.bound<=o/\o<=p.bound then(.bl true,{s with off:=set1 s.off d o}) else(.noClock,s)) else(.noDesk,s)
 | .read d n=>named p s d n (cg p s d n)
 | .change d n v=>named p s d n (bQ p s d n v)
 | .tries n=>match s.th n with
  |none=>(.noThing,s)
  |some t=>if s.up t.keeper then
    let r:=attempt p (s.clock t.keeper) t
    (r.1,{s with th:=set1 s.th n (some r.2)})
   else(.noAnswer,s)
 | .back d n=>named p s d n (ie s d n)
 | .stop d=>if isDesk p d then(if s.up d then(.bl true,oz s d) else(.bl false,s)) else(.noDesk,s)
 | .wake d=>if isDesk p d then(if s.up d then(.bl false,s) else(.bl true,tz p s d)) else(.noDesk,s)
def run(p:Pl):S N->List (Deed N)->List An×S N
 |s,[]=>([],s)
 |s,d::ds=>((step p s d).1::(run p (step p s d).2 ds).1,(run p (step p s d).2 ds).2)
theorem nR(p:Pl):∀(ds es:List (Deed N)) (s:S N),run p s (ds++es)=((run p s ds).1++(run p (run p s ds).2 es).1,(run p (run p s ds).2 es).2)
 | [],es,s=>rfl
 |d::ds,es,s=>by
  show((step p s d).1::(run p (step p s d).2 (ds++es)).1,(run p (step p s d).2 (ds++es)).2)=_
  rw[nR p ds es]
  rfl
theorem nU(p:Pl)(ds:List (Deed N))(s:S N)(d:Deed N):run p s (ds++ [d])=((run p s ds).1++ [(step p (run p s ds).2 d).1],(step p (run p s ds).2 d).2):=by
 rw[nR];rfl
theorem rE(p:Pl):∀(ds:List (Deed N)) (s:S N),(run p s ds).1.length=ds.length
 | [],_=>rfl
 |d::ds,s=>by show _+1=_+1;rw[rE p ds]
theorem run_get(p:Pl)(ds:List (Deed N))(s:S N)(k:Nat)(d:Deed N)(h:ds[k]?=some d):(run p s ds).1[k]?=some (step p (run p s (ds.take k)).2 d).1:=by
 induction ds generalizing s k with
 |nil=>simp at h
 |cons e r ih=>
  cases k with
  |zero=>
   have:e=d:=by simpa using h
   subst this
   rfl
  |succ j=>
   have h':r[j]?=some d:=by simpa using h
   exact ih (step p s e).2 j h'
def begin_(f:N->Option (Int×Int)):S N where
 time:=0
 off:=fun _=>0
 up:=fun _=>true
 cp:=fun _ _=>none
 th:=fun n=>(f n).map fun kv=>⟨kv.1,kv.2,0,fun _=>none,none,none⟩
theorem pH{p:Pl}{t:Th}{u:Int}:u∈cP p t↔(∃d,isDesk p d=true/\t.lent d=some u)∨t.quiet=some u:=by
 unfold cP
 rw[List.mem_append,List.mem_filterMap]
 constructor
 ·rintro(⟨i,hi,e⟩ |h)
  ·refine Or.inl ⟨(i:Int),?_,e⟩
   have:=List.mem_range.mp hi
   unfold isDesk
   simp only[Bool.and_eq_true,decide_eq_true_eq]
   omega
  ·refine Or.inr ?_
   cases e:t.quiet with
   |none=>rw[e] at h;simp at h
   |some q=>rw[e] at h;have:u=q:=(by simpa using h);rw[this]
 ·rintro(⟨d,hd,e⟩ |h)
  ·refine Or.inl ⟨d.toNat,List.mem_range.mpr ?_,?_⟩
   ·unfold isDesk at hd
    simp only[Bool.and_eq_true,decide_eq_true_eq] at hd
    omega
   ·unfold isDesk at hd
    simp only[Bool.and_eq_true,decide_eq_true_eq] at hd
    have:((d.toNat:Nat):Int)=d:=by omega
    rw[this]
    exact e
  ·right
   rw[h]
   simp
end Y
end Fb
end
section
namespace Fb
open Y
inductive Bad where
 |noDesk |noThing |noClock |noAnswer |stopped
def jA:An->Option Bad
 | .noDesk=>some .noDesk
 | .noThing=>some .noThing
 | .noClock=>some .noClock
 | .stopped=>some .stopped
 | .noAnswer=>some .noAnswer
 |_=>none
section
variable {N : Type} [DecidableEq N]
def Down(s:S N):Prop:=∀n t,s.th n=some t->s.up t.keeper=false->∀d,t.lent d=none
theorem wZ{p:Pl}{s:S N}{δ:Deed N}{e:Bad}(h:jA (step p s δ).1=some e):(step p s δ).2=s:=by
 have att:∀c t,jA (attempt p c t).1=none:=fun c t=>by
  unfold attempt
  cases t.waiting with
  |none=>rfl
  |some v=>dsimp only;cases cK c (Y.cP p t)<;>rfl
 have nm:∀(d:Int) (n:N) (k:Th->An×S N),(∀t,jA (k t).1=some e->(k t).2=s)->jA (named p s d n k).1=some e->(named p s d n k).2=s:=fun d n k hk=>by
  unfold named
  cases isDesk p d with
  |false=>intro _;rfl
  |true=>
   simp only[↓reduceIte]
   cases s.th n with
   |none=>intro _;rfl
   |some t=>
    dsimp only
    cases s.up d with
    |false=>intro _;rfl
    |true=>exact hk t
 cases δ with
 |pass m=>cases h
 |shift d o=>
  revert h
  simp only[step]
  split
  ·split
   ·intro h;cases h
   ·intro _;rfl
  ·intro _;rfl
 |read d n=>
  refine nm d n _ (fun t=>?_) h
  unfold cg
  split
  ·intro h;cases h
  ·split
   ·intro h;cases h
   ·split
    ·split
     ·intro h;cases h
     ·intro h;cases h
    ·intro _;rfl
 |change d n v=>
  refine nm d n _ (fun t=>?_) h
  unfold bQ
  split
  ·split
   ·intro h;cases h
   ·intro h
    have:=att (s.clock t.keeper) {t with lent:=set1 t.lent d none,waiting:=some v}
    rw[show jA (attempt p (s.clock t.keeper) {t with lent:=set1 t.lent d none,waiting:=some v}).1=some e from h] at this
    cases this
  ·intro _;rfl
 |tries n=>
  revert h
  simp only[step]
  split
  ·intro _;rfl
  ·rename_i t ht
   split
   ·intro h
    have:=att (s.clock t.keeper) t
    rw[show jA (attempt p (s.clock t.keeper) t).1=some e from h] at this
    cases this
   ·intro _;rfl
 |back d n=>
  refine nm d n _ (fun t=>?_) h
  intro h
  cases h
 |stop d=>
  revert h
  simp only[step]
  split
  ·split
   ·intro h;cases h
   ·intro h;cases h
  ·intro _;rfl
 |wake d=>
  revert h
  simp only[step]
  split
  ·split
   ·intro h;cases h
   ·intro h;cases h
  ·intro _;rfl
theorem wQ{p:Pl}{s:S N}{δ:Deed N}(h:Down s):Down (step p s δ).2:=by
 have nm:∀(d:Int) (n:N) (k:Th->An×S N),(∀t,s.th n=some t->Down (k t).2)->Down (named p s d n k).2:=fun d n k hk=>by
  unfold named
  cases isDesk p d with
  |false=>exact h
  |true=>
   simp only[↓reduceIte]
   cases ht:s.th n with
   |none=>exact h
   |some t=>
    dsimp only
    cases s.up d with
    |false=>exact h
    |true=>exact hk t ht
 have set:∀(n:N) (t t':Th) (cp:Int->N->Option Cp),s.th n=some t->t'.keeper=t.keeper->s.up t.keeper=true->Down {s with cp:=cp,th:=set1 s.th n (some t')}:=fun n t t' cp ht hk hu m u e hd=>by
  by_cases z:m=n
  ·have e:some t'=some u:=by rw[<-e,z];exact ai.symm
   cases e
   have hd:s.up t'.keeper=false:=hd
   rw[hk,hu] at hd;cases hd
  ·have e:s.th m=some u:=by rw[<-e];exact(ao z).symm
   exact h m u e hd
 have ak:∀c t,(attempt p c t).2.keeper=t.keeper:=fun c t=>by
  unfold attempt
  cases t.waiting with
  |none=>rfl
  |some v=>dsimp only;cases cK c (Y.cP p t)<;>rfl
 cases δ with
 |pass m=>exact h
 |shift d o=>
  simp only[step]
  split
  ·split
   ·exact h
   ·exact h
  ·exact h
 |read d n=>
  refine nm d n _ fun t ht=>?_
  unfold cg
  split
  ·exact h
  ·split
   ·exact h
   ·split
    ·rename_i hu
     split
     ·exact h
     ·exact set n t _ _ ht rfl hu
    ·exact h
 |change d n v=>
  refine nm d n _ fun t ht=>?_
  unfold bQ
  split
  ·rename_i hu
   split
   ·exact set n t _ _ ht rfl hu
   ·exact set n t _ _ ht (ak _ _) hu
  ·exact h
 |tries n=>
  simp only[step]
  split
  ·exact h
  ·rename_i t ht
   split
   ·rename_i hu
    exact set n t _ s.cp ht (ak _ _) hu
   ·exact h
 |back d n=>
  refine nm d n _ fun t ht=>?_
  unfold ie
  cases hu:s.up t.keeper with
  |true=>exact set n t _ _ ht rfl hu
  |false=>exact h
 |stop d=>
  simp only[step]
  split
  ·split
   ·intro m u e hd x
    have e:(s.th m).map (fun t=>if t.keeper=d then {t with lent:=fun _=>none,waiting:=none} else t)=some u:=e
    cases ht:s.th m with
    |none=>rw[ht] at e;cases e
    |some t=>
     rw[ht] at e
     have e:=Option.some.inj e
     by_cases z:t.keeper=d
     ·dsimp only at e
      rw[if_pos z] at e
      rw[<-e]
     ·dsimp only at e
      rw[if_neg z] at e
      subst e
      have hd:set1 s.up d false t.keeper=false:=hd
      rw[ao z] at hd
      exact h m t ht hd x
   ·exact h
  ·exact h
 |wake d=>
  simp only[step]
  split
  ·split
   ·exact h
   ·intro m u e hd x
    have e:(s.th m).map (fun t=>if t.keeper=d then {t with quiet:=some (s.clock d+p.length+2*p.bound)} else t)=some u:=e
    cases ht:s.th m with
    |none=>rw[ht] at e;cases e
    |some t=>
     rw[ht] at e
     have e:=Option.some.inj e
     by_cases z:t.keeper=d
     ·dsimp only at e
      rw[if_pos z] at e
      subst e
      have hd:set1 s.up d true t.keeper=false:=hd
      rw[z,ai] at hd;cases hd
     ·dsimp only at e
      rw[if_neg z] at e
      subst e
      have hd:set1 s.up d true t.keeper=false:=hd
      rw[ao z] at hd
      exact h m t ht hd x
  ·exact h
end
end Fb
end
section
set_option maxHeartbeats 2000000
namespace Fb
open PySem L2
def ov:Option Int->V
 |none=> .non
 |some m=> .int m
def fl(k v n d q w:V):List (Str×V):=[("keeper",k),("value",v),("version",n),("notes",d),("quiet",q),("waiting",w)]
section
variable {k v n d q w x : V}
theorem fl_keeper:(fl k v n d q w).lookup ("keeper":Str)=some k:=by kernel_rfl
theorem fl_value:(fl k v n d q w).lookup ("value":Str)=some v:=by kernel_rfl
theorem fl_version:(fl k v n d q w).lookup ("version":Str)=some n:=by kernel_rfl
theorem fl_notes:(fl k v n d q w).lookup ("notes":Str)=some d:=by kernel_rfl
theorem fl_quiet:(fl k v n d q w).lookup ("quiet":Str)=some q:=by kernel_rfl
theorem fl_waiting:(fl k v n d q w).lookup ("waiting":Str)=some w:=by kernel_rfl
theorem fl_lend:(fl k v n d q w).lookup ("lend":Str)=none:=by kernel_rfl
theorem fl_take_back:(fl k v n d q w).lookup ("take_back":Str)=none:=by kernel_rfl
theorem fl_come_up:(fl k v n d q w).lookup ("come_up":Str)=none:=by kernel_rfl
theorem fl_put_up:(fl k v n d q w).lookup ("put_up":Str)=none:=by kernel_rfl
theorem fl_attempt:(fl k v n d q w).lookup ("attempt":Str)=none:=by kernel_rfl
theorem fl_noted_untils:(fl k v n d q w).lookup ("noted_untils":Str)=none:=by kernel_rfl
theorem fl_take_change:(fl k v n d q w).lookup ("take_change":Str)=none:=by kernel_rfl
theorem put_value:aK ("value":Str) x (fl k v n d q w)=fl k x n d q w:=by kernel_rfl
theorem put_version:aK ("version":Str) x (fl k v n d q w)=fl k v x d q w:=by kernel_rfl
theorem put_notes:aK ("notes":Str) x (fl k v n d q w)=fl k v n x q w:=by kernel_rfl
theorem put_quiet:aK ("quiet":Str) x (fl k v n d q w)=fl k v n d x w:=by kernel_rfl
theorem put_waiting:aK ("waiting":Str) x (fl k v n d q w)=fl k v n d q x:=by kernel_rfl
theorem AH:aK ("waiting":Str) w (aK ("quiet":Str) q (aK ("notes":Str) d (aK ("version":Str) n (aK ("value":Str) v (aK ("keeper":Str) k [])))))=fl k v n d q w:=by kernel_rfl
theorem fl_len:(fl k v n d q w).length<1000:=by show 6<1000;decide
end
structure T where
 keeper:Int
 value:Int
 version:Int
 notes:List (Key×V)
 quiet:Option Int
 waiting:Option Int
structure ThAt (C:Addr) (H:Hp) (p d:Addr) (t:T):Prop where
 ob:∃dx,H p=some (.ins C dx (fl (.int t.keeper) (.int t.value) (.int t.version) (.ref d) (ov t.quiet) (ov t.waiting)))
 dc:H d=some (.dK t.notes)
theorem ThAt.ne{C:Addr}{H:Hp}{p d:Addr}{t:T}(h:ThAt C H p d t):p≠d:=by
 obtain⟨⟨dx,h1⟩,h2⟩:=h
 exact cu h1 h2 (by intro z;cases z)
def valsOf(l:List (Key×V)):List Int:=l.filterMap fun kv=>match kv.2 with
 | .int i=>some i
 |_=>none
def zy(l:List (Key×V)):Prop:=∀kv∈l,∃i,kv.2= .int i
theorem vQ:∀{l:List (Key×V)},zy l->l.map (·.2)=(valsOf l).map V.int
 | [],_=>rfl
 |kv::r,h=>by
  obtain⟨i,e⟩:=h kv List.mem_cons_self
  have ih:=vQ (l:=r) fun x hx=>h x (List.mem_cons_of_mem _ hx)
  rw[List.map_cons,ih,e]
  show V.int i::_=List.map V.int (List.filterMap _ (kv::r))
  rw[List.filterMap_cons]
  simp only[e]
  rfl
def cP(t:T):List Int:=valsOf t.notes++t.quiet.toList
inductive Ans where
 |nothing
 |waits (u:Int)
 |changed (n:Int)
def Cq:Ans->PyData
 | .nothing=> .str "nothing"
 | .waits u=> .tuple [.str "waits",.int u]
 | .changed n=> .tuple [.str "changed",.int n]
def done(t:T)(v:Int):T:={t with value:=v,version:=t.version+1,notes:=[],quiet:=none,waiting:=none}
def att(t:T)(c:Int):Ans×T:=match t.waiting with
 |none=>(.nothing,t)
 |some v=>match cK c (cP t) with
  |some u=>(.waits u,t)
  |none=>(.changed (t.version+1),done t v)
structure Txt (K:PySem.W.Frag) (C:Addr):Prop where
 cl:Cls K C
 n1:NoAttr K C "keeper"
 n2:NoAttr K C "value"
 n3:NoAttr K C "version"
 n4:NoAttr K C "notes"
 n5:NoAttr K C "quiet"
 n6:NoAttr K C "waiting"
theorem fl_go_down{k v n d q w:V}:(fl k v n d q w).lookup ("go_down":Str)=none:=by kernel_rfl
theorem ThAt.same{C:Addr}{H H':Hp}{p d:Addr}{t:T}(S:ThAt C H p d t)(s:Same H H'):ThAt C H' p d t:=by
 obtain⟨⟨dx,h1⟩,h2⟩:=S
 exact⟨⟨dx,s _ _ h1⟩,s _ _ h2⟩
theorem wq{t:T}(hl:t.notes.length<=900):(cP t).length<=1000:=by
 have h1:(valsOf t.notes).length<=t.notes.length:=List.length_filterMap_le _ _
 unfold cP
 rw[List.length_append]
 have h2:t.quiet.toList.length<=1:=by cases t.quiet<;>simp
 omega
def Fr2(p d:Addr)(H H':Hp):Prop:=∀b o,H b=some o->b≠p->b≠d->H' b=some o
def flC(v n u:V):List (Str×V):=[("value",v),("version",n),("until",u)]
def flD(o s c:V):List (Str×V):=[("offset",o),("stopped",s),("copies",c)]
def flY(l b t d h:V):List (Str×V):=[("length",l),("bound",b),("true_time",t),("desks",d),("things",h)]
section
variable {v n u x : V}
theorem flC_value:(flC v n u).lookup ("value":Str)=some v:=by kernel_rfl
theorem flC_version:(flC v n u).lookup ("version":Str)=some n:=by kernel_rfl
theorem flC_until:(flC v n u).lookup ("until":Str)=some u:=by kernel_rfl
theorem zH:aK ("until":Str) u (aK ("version":Str) n (aK ("value":Str) v []))=flC v n u:=by kernel_rfl
theorem flD_offset:(flD v n u).lookup ("offset":Str)=some v:=by kernel_rfl
theorem flD_stopped:(flD v n u).lookup ("stopped":Str)=some n:=by kernel_rfl
theorem flD_copies:(flD v n u).lookup ("copies":Str)=some u:=by kernel_rfl
theorem zJ:aK ("copies":Str) u (aK ("stopped":Str) n (aK ("offset":Str) v []))=flD v n u:=by kernel_rfl
theorem putD_offset:aK ("offset":Str) x (flD v n u)=flD x n u:=by kernel_rfl
theorem putD_stopped:aK ("stopped":Str) x (flD v n u)=flD v x u:=by kernel_rfl
theorem putD_copies:aK ("copies":Str) x (flD v n u)=flD v n x:=by kernel_rfl
theorem flD_len:(flD v n u).length<1000:=by show 3<1000;decide
end
section
variable {l b t d h x : V}
theorem flY_length:(flY l b t d h).lookup ("length":Str)=some l:=by kernel_rfl
theorem flY_bound:(flY l b t d h).lookup ("bound":Str)=some b:=by kernel_rfl
theorem flY_true_time:(flY l b t d h).lookup ("true_time":Str)=some t:=by kernel_rfl
theorem flY_desks:(flY l b t d h).lookup ("desks":Str)=some d:=by kernel_rfl
theorem flY_things:(flY l b t d h).lookup ("things":Str)=some h:=by kernel_rfl
theorem zK:aK ("things":Str) h (aK ("desks":Str) d (aK ("true_time":Str) t (aK ("bound":Str) b (aK ("length":Str) l []))))=flY l b t d h:=by kernel_rfl
theorem putY_time:aK ("true_time":Str) x (flY l b t d h)=flY l b x d h:=by kernel_rfl
theorem flY_len:(flY l b t d h).length<1000:=by show 5<1000;decide
theorem flY_pass_time:(flY l b t d h).lookup ("pass_time":Str)=none:=by kernel_rfl
theorem flY_shift_clock:(flY l b t d h).lookup ("shift_clock":Str)=none:=by kernel_rfl
theorem flY_read_thing:(flY l b t d h).lookup ("read_thing":Str)=none:=by kernel_rfl
theorem flY_lend_copy:(flY l b t d h).lookup ("lend_copy":Str)=none:=by kernel_rfl
theorem flY_ask_change:(flY l b t d h).lookup ("ask_change":Str)=none:=by kernel_rfl
theorem flY_try_change:(flY l b t d h).lookup ("try_change":Str)=none:=by kernel_rfl
theorem flY_give_back:(flY l b t d h).lookup ("give_back":Str)=none:=by kernel_rfl
theorem flY_drop_copy:(flY l b t d h).lookup ("drop_copy":Str)=none:=by kernel_rfl
theorem flY_stop_desk:(flY l b t d h).lookup ("stop_desk":Str)=none:=by kernel_rfl
theorem flY_wake_desk:(flY l b t d h).lookup ("wake_desk":Str)=none:=by kernel_rfl
theorem flY_find_desk:(flY l b t d h).lookup ("find_desk":Str)=none:=by kernel_rfl
theorem flY_find_thing:(flY l b t d h).lookup ("find_thing":Str)=none:=by kernel_rfl
theorem flY_check_asker:(flY l b t d h).lookup ("check_asker":Str)=none:=by kernel_rfl
theorem flY_check_keeper:(flY l b t d h).lookup ("check_keeper":Str)=none:=by kernel_rfl
theorem flY_clock_of:(flY l b t d h).lookup ("clock_of":Str)=none:=by kernel_rfl
theorem flY_kept_by:(flY l b t d h).lookup ("kept_by":Str)=none:=by kernel_rfl
theorem flY_all_values:(flY l b t d h).lookup ("all_values":Str)=none:=by kernel_rfl
theorem flY_all_copies:(flY l b t d h).lookup ("all_copies":Str)=none:=by kernel_rfl
end
theorem zI{v n u k v' n' d q w:V}:flC v n u≠fl k v' n' d q w:=fun z=>by have:=congrArg List.length z;exact absurd this (by simp[flC,flD,flY,fl])
theorem qv{v n u k v' n' d q w:V}:flD v n u≠fl k v' n' d q w:=fun z=>by have:=congrArg List.length z;exact absurd this (by simp[flC,flD,flY,fl])
theorem vg{l b t dd h k v' n' d q w:V}:flY l b t dd h≠fl k v' n' d q w:=fun z=>by have:=congrArg List.length z;exact absurd this (by simp[flC,flD,flY,fl])
theorem qw{l b t dd h v n u:V}:flY l b t dd h≠flD v n u:=fun z=>by have:=congrArg List.length z;exact absurd this (by simp[flC,flD,flY,fl])
theorem zL{l b t dd h v n u:V}:flY l b t dd h≠flC v n u:=fun z=>by have:=congrArg List.length z;exact absurd this (by simp[flC,flD,flY,fl])
theorem vf{v n u v' n' u':V}:flC v n u≠flD v' n' u':=fun z=>by
 have:=congrArg (fun l=>l.map (·.1)) z
 exact absurd (show([("value":Str),("version":Str),("until":Str)]:List Str)=[("offset":Str),("stopped":Str),("copies":Str)] from this) (by decide+kernel)
structure Cs where
 T:Addr
 C:Addr
 D:Addr
 Y:Addr
 er:Bad->Addr
structure TxtC (K:PySem.W.Frag) (C:Addr):Prop where
 cl:Cls K C
 n1:NoAttr K C "value"
 n2:NoAttr K C "version"
 n3:NoAttr K C "until"
structure TxtD (K:PySem.W.Frag) (C:Addr):Prop where
 cl:Cls K C
 n1:NoAttr K C "offset"
 n2:NoAttr K C "stopped"
 n3:NoAttr K C "copies"
structure TxtY (K:PySem.W.Frag) (C:Addr):Prop where
 cl:Cls K C
 n1:NoAttr K C "length"
 n2:NoAttr K C "bound"
 n3:NoAttr K C "true_time"
 n4:NoAttr K C "desks"
 n5:NoAttr K C "things"
structure Gh where
 ld:Addr
 dt:Addr
 da:Nat->Addr
 ca:Nat->Addr
 ta:Str->Addr
 na:Str->Addr
 names:List Str
def tkOf(G:Gh):List (Key×V):=G.names.map fun n=>(Sum.inr n,.ref (G.ta n))
theorem len_sub{α:Type}[DecidableEq α]:∀{l m:List α},l.Nodup->(∀x∈l,x∈m)->l.length<=m.length
 | [],_,_,_=>Nat.zero_le _
 |x::r,m,nd,h=>by
  have hx:=h x List.mem_cons_self
  have ih:=len_sub (l:=r) (m:=m.erase x) (List.nodup_cons.mp nd).2 fun y hy=>(List.mem_erase_of_ne (a:=y) (b:=x) (fun e=>(List.nodup_cons.mp nd).1 (by rw[<-e];exact hy))).mpr (h y (List.mem_cons_of_mem _ hy))
  have e:=List.length_erase_of_mem hx
  have:0<m.length:=List.length_pos_of_mem hx
  simp only[List.length_cons]
  omega
theorem ef{κ:Type}[DecidableEq κ](k j:κ):∀kvs:List (κ×V),valV (cj kvs k) j=if j=k then none else valV kvs j
 | []=>by simp[valV,cj]
 |p::r=>by
  by_cases e:p.1=k
  ·rw[pD e,ef k j r]
   by_cases ej:j=k
   ·rw[if_pos ej,if_pos ej]
   ·rw[if_neg ej,if_neg ej,bD (fun z=>ej (z.symm.trans e))]
  ·rw[kC e]
   by_cases ep:p.1=j
   ·rw[bN ep,bN ep,if_neg (fun z=>e (ep.trans z))]
   ·rw[bD ep,bD ep,ef k j r]
theorem nh{κ:Type}[DecidableEq κ]{kvs:List (κ×V)}{k:κ}{v:V}{p:κ×V}(h:p∈putK kvs k v):p∈kvs∨p=(k,v):=by
 unfold putK at h
 split at h
 ·obtain⟨q,hq,e⟩:=List.mem_map.mp h
  split at e
  ·rename_i hk
   refine Or.inr ?_
   rw[<-e,hk]
  ·exact Or.inl (e▸hq)
 ·rcases List.mem_append.mp h with z |z
  ·exact Or.inl z
  ·exact Or.inr (by simpa using z)
theorem uj{κ:Type}[DecidableEq κ]{kvs:List (κ×V)}{k:κ}(v:V)(nd:(kvs.map (·.1)).Nodup):((putK kvs k v).map (·.1)).Nodup:=by
 cases e:valV kvs k with
 |none=>exact Ae v nd e
 |some x=>
  have hk:(kvs.any fun kv=>decide (kv.1=k))=true:=by rw[eI,e];rfl
  unfold putK
  rw[if_pos hk,List.map_map]
  have:((fun kv:κ×V=>kv.1) ∘ fun kv:κ×V=>if kv.1=k then(kv.1,v) else kv)=fun kv=>kv.1:=by
   funext kv
   show(if kv.1=k then(kv.1,v) else kv).1=kv.1
   split<;>rfl
  rw[this]
  exact nd
theorem tu{κ:Type}[DecidableEq κ]{kvs:List (κ×V)}{k:κ}{v:V}(h:valV kvs k=some v):(k,v)∈kvs:=by
 unfold valV at h
 cases e:kvs.find? fun kv=>decide (kv.1=k) with
 |none=>rw[e] at h;cases h
 |some p=>
  rw[e] at h
  have h1:=List.mem_of_find?_eq_some e
  have h2:p.1=k:=by simpa using List.find?_some e
  obtain rfl:p.2=v:=by simpa using h
  rw[<-h2]
  exact h1
theorem lG{κ:Type}[DecidableEq κ]:∀{kvs:List (κ×V)} {p:κ×V},(kvs.map (·.1)).Nodup->p∈kvs->valV kvs p.1=some p.2
 |q::r,p,nd,h=>by
  rcases List.mem_cons.mp h with e |e
  ·rw[e];exact bN rfl
  ·have nd':=List.nodup_cons.mp (show(q.1::r.map (·.1)).Nodup from nd)
   rw[bD (fun z=>nd'.1 (by rw[z];exact List.mem_map.mpr ⟨p,e,rfl⟩))]
   exact lG nd'.2 e
open Y
structure NoteR (p:Pl) (kvs:List (Key×V)) (f:Int->Option Int):Prop where
 nd:(kvs.map (·.1)).Nodup
 ks:∀kv∈kvs,∃d u,kv=(Sum.inl d,.int u)/\isDesk p d=true
 val:∀d,valV kvs (Sum.inl d)=(f d).map V.int
theorem NoteR.nil{p:Pl}:NoteR p [] fun _=>none:=⟨List.nodup_nil,fun _ h=>(nomatch h),fun _=>rfl⟩
theorem cS{p:Pl}{d:Int}:isDesk p d=true↔0<=d/\d<p.count:=by
 unfold isDesk
 simp only[Bool.and_eq_true,decide_eq_true_eq]
theorem mJ{p:Pl}{d:Int}:isDesk p d=false↔¬(0<=d/\d<p.count):=by
 rw[<-cS];simp
section
variable {p : Pl} {kvs : List (Key × V)} {f : Int → Option Int}
theorem NoteR.put(h:NoteR p kvs f){d u:Int}(hd:isDesk p d=true):NoteR p (putK kvs (Sum.inl d) (.int u)) (set1 f d (some u)):=by
 refine⟨uj _ h.nd,fun kv hk=>?_,fun e=>?_⟩
 ·rcases nh hk with z |z
  ·exact h.ks kv z
  ·exact⟨d,u,z,hd⟩
 ·rw[fZ]
  by_cases z:e=d
  ·rw[z,if_pos rfl,ai];rfl
  ·rw[if_neg (fun q=>z (Sum.inl.inj q)),ao z];exact h.val e
theorem NoteR.drop(h:NoteR p kvs f)(d:Int):NoteR p (cj kvs (Sum.inl d)) (set1 f d none):=by
 refine⟨iD h.nd,fun kv hk=>h.ks kv (iU hk),fun e=>?_⟩
 rw[ef]
 by_cases z:e=d
 ·rw[z,if_pos rfl,ai];rfl
 ·rw[if_neg (fun q=>z (Sum.inl.inj q)),ao z];exact h.val e
theorem NoteR.ints(h:NoteR p kvs f):zy kvs:=fun kv hk=>by
 obtain⟨d,u,e,_⟩:=h.ks kv hk
 exact⟨u,by rw[e]⟩
theorem NoteR.len(h:NoteR p kvs f):kvs.length<=p.count:=by
 have:=len_sub (m:=(List.range p.count).map fun(i:Nat)=>(Sum.inl (i:Int):Key)) h.nd fun k hk=>by
  obtain⟨kv,h1,h2⟩:=List.mem_map.mp hk
  obtain⟨d,u,e,hd⟩:=h.ks kv h1
  obtain⟨h3,h4⟩:=cS.mp hd
  refine List.mem_map.mpr ⟨d.toNat,List.mem_range.mpr (by omega),?_⟩
  rw[<-h2,e]
  show(Sum.inl ((d.toNat:Nat):Int):Key)=Sum.inl d
  congr 1
  omega
 simpa using this
theorem NoteR.mem(h:NoteR p kvs f)(u:Int):u∈valsOf kvs↔∃d,isDesk p d=true/\f d=some u:=by
 unfold valsOf
 rw[List.mem_filterMap]
 constructor
 ·rintro⟨kv,h1,h2⟩
  obtain⟨d,u',e,hd⟩:=h.ks kv h1
  have hv:=lG h.nd h1
  rw[e] at h2 hv
  have h2:u'=u:=by simpa using h2
  subst h2
  have:=h.val d
  rw[hv] at this
  refine⟨d,hd,?_⟩
  cases z:f d with
  |none=>rw[z] at this;cases this
  |some x=>rw[z] at this;have:=Option.some.inj this;cases this;rfl
 ·rintro⟨d,hd,e⟩
  have hv:=h.val d
  rw[e] at hv
  exact⟨_,tu hv,rfl⟩
end
structure TR (p:Pl) (τ:T) (t:Th):Prop where
 k:τ.keeper=t.keeper
 v:τ.value=t.value
 n:τ.version=t.version
 q:τ.quiet=t.quiet
 w:τ.waiting=t.waiting
 l:NoteR p τ.notes t.lent
theorem TR.held{p:Pl}{τ:T}{t:Th}(h:TR p τ t)(c:Int):cK c (cP τ)=cK c (Y.cP p t):=lz fun u=>by
 rw[pH,<-h.l.mem u,<-h.q]
 unfold Fb.cP
 rw[List.mem_append]
 cases τ.quiet with
 |none=>simp
 |some z=>simp[eq_comm]
def anD:An->PyData
 | .int i=> .int i
 | .bl b=> .bool b
 | .own v n=> .tuple [.str "own",.int v,.int n]
 | .fresh v n=> .tuple [.str "fresh",.int v,.int n]
 | .lent v n=> .tuple [.str "lent",.int v,.int n]
 | .waits u=> .tuple [.str "waits",.int u]
 | .changed n=> .tuple [.str "changed",.int n]
 | .noDesk=> .str "no desk"
 | .noThing=> .str "no thing"
 | .noClock=> .str "no clock"
 | .stopped=> .str "stopped"
 | .noAnswer=> .str "no answer"
 | .notNow=> .str "not now"
 | .nothing=> .str "nothing"
theorem TR.att{p:Pl}{τ:T}{t:Th}(h:TR p τ t)(c:Int):Cq (Fb.att τ c).1=anD (attempt p c t).1/\TR p (Fb.att τ c).2 (attempt p c t).2/\jA (attempt p c t).1=none/\(attempt p c t).2.keeper=t.keeper:=by
 unfold Fb.att attempt
 rw[h.w,h.held c]
 cases t.waiting with
 |none=>exact⟨rfl,h,rfl,rfl⟩
 |some v=>
  dsimp only
  cases cK c (Y.cP p t) with
  |some u=>exact⟨rfl,h,rfl,rfl⟩
  |none=>
   refine⟨?_,⟨h.k,rfl,?_,rfl,rfl,NoteR.nil⟩,rfl,rfl⟩
   ·show PyData.tuple [.str "changed",.int (τ.version+1)]= .tuple [.str "changed",.int (t.version+1)]
    rw[h.n]
   ·show τ.version+1=t.version+1
    rw[h.n]
structure CopR (c:Addr) (H:Hp) (kvs:List (Key×V)) (names:List Str) (f:Str->Option Cp):Prop where
 nd:(kvs.map (·.1)).Nodup
 ks:∀kv∈kvs,∃n,kv.1=Sum.inr n/\n∈names
 no:∀n,f n=none->valV kvs (Sum.inr n)=none
 so:∀n x,f n=some x->∃q dx,valV kvs (Sum.inr n)=some (.ref q)/\H q=some (.ins c dx (flC (.int x.value) (.int x.version) (.int x.till)))
section
variable {c : Addr} {H H' : Hp} {kvs : List (Key × V)} {names : List Str} {f : Str → Option Cp}
theorem CopR.nil:CopR c H [] names fun _=>none:=⟨List.nodup_nil,fun _ h=>(nomatch h),fun _ _=>rfl,fun _ _ h=>(nomatch h)⟩
theorem CopR.mono(h:CopR c H kvs names f)(k:∀q dx v n u,H q=some (.ins c dx (flC v n u))->H' q=some (.ins c dx (flC v n u))):CopR c H' kvs names f:=
 ⟨h.nd,h.ks,h.no,fun n x e=>by
  obtain⟨q,dx,h1,h2⟩:=h.so n x e
  exact⟨q,dx,h1,k _ _ _ _ _ h2⟩⟩
theorem CopR.len(h:CopR c H kvs names f):kvs.length<=names.length:=by
 have:=len_sub (m:=names.map fun n=>(Sum.inr n:Key)) h.nd fun k hk=>by
  obtain⟨kv,h1,h2⟩:=List.mem_map.mp hk
  obtain⟨n,h3,h4⟩:=h.ks kv h1
  exact List.mem_map.mpr ⟨n,h4,by rw[<-h2,h3]⟩
 simpa using this
theorem CopR.drop(h:CopR c H kvs names f)(n:Str):CopR c H (cj kvs (Sum.inr n)) names (set1 f n none):=by
 refine⟨iD h.nd,fun kv hk=>h.ks kv (iU hk),fun m e=>?_,fun m x e=>?_⟩
 ·rw[ef]
  by_cases z:m=n
  ·rw[z,if_pos rfl]
  ·rw[if_neg (fun q=>z (Sum.inr.inj q))]
   rw[ao z] at e
   exact h.no m e
 ·by_cases z:m=n
  ·rw[z,ai] at e;cases e
  ·rw[ao z] at e
   rw[ef,if_neg (fun q=>z (Sum.inr.inj q))]
   exact h.so m x e
theorem CopR.put(h:CopR c H kvs names f){n:Str}{q dx:Addr}{x:Cp}(hn:n∈names)(hq:H q=some (.ins c dx (flC (.int x.value) (.int x.version) (.int x.till)))):CopR c H (putK kvs (Sum.inr n) (.ref q)) names (set1 f n (some x)):=by
 refine⟨uj _ h.nd,fun kv hk=>?_,fun m e=>?_,fun m y e=>?_⟩
 ·rcases nh hk with z |z
  ·exact h.ks kv z
  ·exact⟨n,by rw[z],hn⟩
 ·by_cases z:m=n
  ·rw[z,ai] at e;cases e
  ·rw[ao z] at e
   rw[fZ,if_neg (fun q=>z (Sum.inr.inj q))]
   exact h.no m e
 ·by_cases z:m=n
  ·rw[z,ai] at e
   cases e
   exact⟨q,dx,by rw[fZ,z,if_pos rfl],hq⟩
  ·rw[ao z] at e
   rw[fZ,if_neg (fun q=>z (Sum.inr.inj q))]
   exact h.so m y e
theorem CopR.some(h:CopR c H kvs names f)(n:Str):(valV kvs (Sum.inr n)).isSome=(f n).isSome:=by
 cases e:f n with
 |none=>rw[h.no n e];rfl
 |some x=>
  obtain⟨q,dx,h1,_⟩:=h.so n x e
  rw[h1];rfl
end
structure Yd (c:Cs) (H:Hp) (y:Addr) (G:Gh) (p:Pl) (s:S Str):Prop where
 yo:∃dx,H y=some (.ins c.Y dx (flY (.int p.length) (.int p.bound) (.int s.time) (.ref G.ld) (.ref G.dt)))
 ld:H G.ld=some (.lst ((List.range p.count).map fun i=> .ref (G.da i)))
 dt:H G.dt=some (.dK (tkOf G))
 desk:∀i:Nat,i<p.count->∃dx,H (G.da i)=some (.ins c.D dx (flD (.int (s.off i)) (.bl (!s.up i)) (.ref (G.ca i))))
 cops:∀i:Nat,i<p.count->∃kvs,H (G.ca i)=some (.dK kvs)/\CopR c.C H kvs G.names (s.cp i)
 thing:∀n t,s.th n=some t->n∈G.names/\isDesk p t.keeper=true/\∃τ,ThAt c.T H (G.ta n) (G.na n) τ/\TR p τ t
 no:∀n,s.th n=Option.none->n∉G.names
 nd:G.names.Nodup
 dI:∀i j,i<p.count->j<p.count->G.da i=G.da j->i=j
 cI:∀i j,i<p.count->j<p.count->G.ca i=G.ca j->i=j
 tI:∀m n,m∈G.names->n∈G.names->G.ta m=G.ta n->m=n
 nI:∀m n,m∈G.names->n∈G.names->G.na m=G.na n->m=n
 cn:∀i n,i<p.count->n∈G.names->G.ca i≠G.na n
 dc:∀i,i<p.count->G.dt≠G.ca i
 dn:∀n,n∈G.names->G.dt≠G.na n
 small:p.count<=500/\G.names.length<=500
def Own(y:Addr)(G:Gh)(p:Pl)(b:Addr):Prop:=b=y∨(∃i,i<p.count/\(b=G.da i∨b=G.ca i))∨∃n,n∈G.names/\(b=G.ta n∨b=G.na n)
structure Fw (y:Addr) (p:Pl) (H:Hp) (G:Gh) (H':Hp) (G':Gh):Prop where
 keep:∀b o,H b=some o->¬Own y G p b->H' b=some o
 own:∀b,Own y G' p b->Own y G p b∨H b=none
 ld:G'.ld=G.ld
theorem Fw.refl{y:Addr}{p:Pl}{H:Hp}{G:Gh}:Fw y p H G H G:=⟨fun _ _ e _=>e,fun _ h=>Or.inl h,rfl⟩
theorem Fw.same{y:Addr}{p:Pl}{H H':Hp}{G:Gh}(s:Same H H'):Fw y p H G H' G:=⟨fun b o e _=>s b o e,fun _ h=>Or.inl h,rfl⟩
theorem Fw.trans{y:Addr}{p:Pl}{H H1 H2:Hp}{G G1 G2:Gh}(a:Fw y p H G H1 G1)(b:Fw y p H1 G1 H2 G2):Fw y p H G H2 G2:=by
 refine⟨fun x o e n=>b.keep x o (a.keep x o e n) fun z=>?_,fun x h=>?_,b.ld.trans a.ld⟩
 ·rcases a.own x z with q |q
  ·exact n q
  ·rw[e] at q;cases q
 ·rcases b.own x h with q |q
  ·exact a.own x q
  ·cases e:H x with
   |none=>exact Or.inr rfl
   |some o=>
    by_cases n:Own y G p x
    ·exact Or.inl n
    ·rw[a.keep x o e n] at q;cases q
section
variable {c : Cs} {H H' : Hp} {y : Addr} {G : Gh} {p : Pl} {s : S Str}
theorem Yd.deskAt(h:Yd c H y G p s){d:Int}(hd:isDesk p d=true):d.toNat<p.count/\((d.toNat:Nat):Int)=d:=by
 obtain⟨h1,h2⟩:=cS.mp hd
 exact⟨by omega,by omega⟩
theorem Yd.same(h:Yd c H y G p s)(k:Same H H'):Yd c H' y G p s where
 yo:=let ⟨dx,e⟩:=h.yo;⟨dx,k _ _ e⟩
 ld:=k _ _ h.ld
 dt:=k _ _ h.dt
 desk:=fun i hi=>let ⟨dx,e⟩:=h.desk i hi;⟨dx,k _ _ e⟩
 cops:=fun i hi=>let ⟨kvs,e,r⟩:=h.cops i hi;⟨kvs,k _ _ e,r.mono fun q dx v n u e=>k _ _ e⟩
 thing:=fun n t e=>let ⟨h1,h2,τ,h3,h4⟩:=h.thing n t e;⟨h1,h2,τ,h3.same k,h4⟩
 no:=h.no
 nd:=h.nd
 dI:=h.dI
 cI:=h.cI
 tI:=h.tI
 nI:=h.nI
 cn:=h.cn
 dc:=h.dc
 dn:=h.dn
 small:=h.small
theorem Yd.but(h:Yd c H y G p s){D:Addr}{ys:List V}(hD:H D=some (.lst ys))(hne:D≠G.ld)(kp:∀b o,H b=some o->b≠D->H' b=some o):Yd c H' y G p s:=by
 have k:∀b o,H b=some o->(∀l,o≠ .lst l)->H' b=some o:=fun b o e n=>kp b o e fun z=>by rw[z,hD] at e;cases e;exact n _ rfl
 have ki:∀{b C dx f},H b=some (.ins C dx f)->H' b=some (.ins C dx f):=fun {b C dx f} e=>k _ _ e (by intro l z;cases z)
 have kd:∀{b l},H b=some (.dK l)->H' b=some (.dK l):=fun {b l} e=>k _ _ e (by intro l z;cases z)
 exact⟨let ⟨dx,e⟩:=h.yo;⟨dx,ki e⟩,kp _ _ h.ld hne.symm,kd h.dt,fun i hi=>let ⟨dx,e⟩:=h.desk i hi;⟨dx,ki e⟩,fun i hi=>let ⟨kvs,e,r⟩:=h.cops i hi;⟨kvs,kd e,r.mono fun q dx v n u e=>ki e⟩,
  fun n t e=>let ⟨h1,h2,τ,⟨⟨dx,h3⟩,h4⟩,h5⟩:=h.thing n t e;⟨h1,h2,τ,⟨⟨dx,ki h3⟩,kd h4⟩,h5⟩,h.no,h.nd,h.dI,h.cI,h.tI,h.nI,h.cn,h.dc,h.dn,h.small⟩
theorem Yd.mem(h:Yd c H y G p s){n:Str}(hn:n∈G.names):∃t,s.th n=some t:=by
 cases e:s.th n with
 |none=>exact absurd hn (h.no n e)
 |some t=>exact⟨t,rfl⟩
theorem Yd.valT(h:Yd c H y G p s)(n:Str):valV (tkOf G) (Sum.inr n)=(s.th n).map fun _=> .ref (G.ta n):=by
 have key:∀l:List Str,valV (l.map fun n=>((Sum.inr n:Key),V.ref (G.ta n))) (Sum.inr n)=if n∈l then some (.ref (G.ta n)) else none:=by
  intro l
  induction l with
  |nil=>rfl
  |cons m r ih=>
   rw[List.map_cons]
   by_cases e:m=n
   ·rw[bN (by rw[e]),if_pos (by rw[e];exact List.mem_cons_self),e]
   ·rw[bD (fun z=>e (Sum.inr.inj z)),ih]
    have:(n∈m::r)↔n∈r:=⟨fun z=>(List.mem_cons.mp z).resolve_left (fun q=>e q.symm),fun z=>List.mem_cons_of_mem _ z⟩
    simp only[this]
 unfold tkOf
 rw[key]
 cases e:s.th n with
 |none=>rw[if_neg (h.no n e)];rfl
 |some t=>rw[if_pos (h.thing n t e).1];rfl
theorem Yd.setT(h:Yd c H y G p s){n:Str}{t t':Th}{τ':T}{d':Addr}(ht:s.th n=some t)(kp:Fr2 (G.ta n) (G.na n) H H')(hd:d'=G.na n∨H d'=none)(h1:ThAt c.T H' (G.ta n) d' τ')(h2:TR p τ' t')(hk:t'.keeper=t.keeper):
  Yd c H' y {G with na:=set1 G.na n d'} p {s with th:=set1 s.th n (some t')}/\Fw y p H G H' {G with na:=set1 G.na n d'}:=by
 obtain⟨hn,hkp,τ,hτ,hr⟩:=h.thing n t ht
 obtain⟨⟨dxt,ht1⟩,ht2⟩:=id hτ
 have nk:∀{b o},H b=some o->isObj o=true->o≠HO.dK τ.notes->(∀C dx f,o= .ins C dx f->f≠fl (.int τ.keeper) (.int τ.value) (.int τ.version) (.ref (G.na n)) (ov τ.quiet) (ov τ.waiting))->H' b=some o:=fun {b o} e _ n1 n2=>
  kp b o e (fun z=>by rw[z,ht1] at e;cases e;exact n2 _ _ _ rfl rfl) fun z=>by rw[z,ht2] at e;cases e;exact n1 rfl
 have kin:∀{b C dx f},H b=some (.ins C dx f)->f≠fl (.int τ.keeper) (.int τ.value) (.int τ.version) (.ref (G.na n)) (ov τ.quiet) (ov τ.waiting)->H' b=some (.ins C dx f):=fun {b C dx f} e nf=>
  kp b _ e (fun z=>by rw[z,ht1] at e;cases e;exact nf rfl) fun z=>by rw[z,ht2] at e;cases e
 have kdK:∀{b l},H b=some (.dK l)->b≠G.na n->H' b=some (.dK l):=fun {b l} e nb=>
  kp b _ e (fun z=>by rw[z,ht1] at e;cases e) nb
 have na':∀m,m∈G.names->m≠n->set1 G.na n d' m=G.na m:=fun m _ e=>ao e
 have old:∀b o,H b=some o->b≠G.na n->b≠d':=fun b o e nb z=>by
  rcases hd with q |q
  ·exact nb (z.trans q)
  ·rw[z,q] at e;cases e
 refine⟨⟨?_,?_,kdK h.dt (h.dn n hn),fun i hi=>?_,fun i hi=>?_,fun m u e=>?_,fun m e=>?_,h.nd,h.dI,h.cI,h.tI,fun a b ha hb e=>?_,fun i m hi hm=>?_,h.dc,fun m hm=>?_,h.small⟩,⟨fun b o e nb=>?_,fun b hb=>?_,rfl⟩⟩
 ·obtain⟨dx,e⟩:=h.yo
  exact⟨dx,kin e vg⟩
 ·exact kp _ _ h.ld (fun z=>by have e:=h.ld;rw[z,ht1] at e;cases e) fun z=>by have e:=h.ld;rw[z,ht2] at e;cases e
 ·obtain⟨dx,e⟩:=h.desk i hi
  exact⟨dx,kin e qv⟩
 ·obtain⟨kvs,e,r⟩:=h.cops i hi
  exact⟨kvs,kdK e (h.cn i n hi hn),r.mono fun q dx v n u e=>kin e zI⟩
 ·by_cases z:m=n
  ·subst z
   have e:some t'=some u:=by rw[<-e];exact ai.symm
   cases e
   refine⟨hn,by rw[hk];exact hkp,τ',?_,h2⟩
   show ThAt c.T H' (G.ta m) (set1 G.na m d' m) τ'
   rw[ai];exact h1
  ·have e:s.th m=some u:=by rw[<-e];exact(ao z).symm
   obtain⟨hm,hk2,τ2,⟨⟨dx2,e1⟩,e2⟩,r2⟩:=h.thing m u e
   refine⟨hm,hk2,τ2,?_,r2⟩
   show ThAt c.T H' (G.ta m) (set1 G.na n d' m) τ2
   rw[ao z]
   refine⟨⟨dx2,kp _ _ e1 (fun q=>z (h.tI m n hm hn q)) fun q=>by rw[q,ht2] at e1;cases e1⟩,kdK e2 fun q=>z (h.nI m n hm hn q)⟩
 ·by_cases z:m=n
  ·subst z
   have:some t'=none:=by rw[<-e];exact ai.symm
   cases this
  ·exact h.no m (by rw[<-e];exact(ao z).symm)
 ·by_cases za:a=n
  ·by_cases zb:b=n
   ·exact za.trans zb.symm
   ·exfalso
    have e:d'=G.na b:=by
     have e:set1 G.na n d' a=set1 G.na n d' b:=e
     rw[za,ai,ao zb] at e;exact e
    obtain⟨u,hu⟩:=h.mem hb
    obtain⟨_,_,_,⟨_,e2⟩,_⟩:=h.thing b u hu
    exact old _ _ e2 (fun q=>zb (h.nI b n hb hn q)) e.symm
  ·by_cases zb:b=n
   ·exfalso
    have e:G.na a=d':=by
     have e:set1 G.na n d' a=set1 G.na n d' b:=e
     rw[zb,ai,ao za] at e;exact e
    obtain⟨u,hu⟩:=h.mem ha
    obtain⟨_,_,_,⟨_,e2⟩,_⟩:=h.thing a u hu
    exact old _ _ e2 (fun q=>za (h.nI a n ha hn q)) e
   ·have e:set1 G.na n d' a=set1 G.na n d' b:=e
    rw[ao za,ao zb] at e
    exact h.nI a b ha hb e
 ·by_cases z:m=n
  ·show G.ca i≠set1 G.na n d' m
   rw[z,ai]
   obtain⟨kvs,e,_⟩:=h.cops i hi
   exact old _ _ e (h.cn i n hi hn)
  ·show G.ca i≠set1 G.na n d' m
   rw[ao z];exact h.cn i m hi hm
 ·by_cases z:m=n
  ·show G.dt≠set1 G.na n d' m
   rw[z,ai]
   exact old _ _ h.dt (h.dn n hn)
  ·show G.dt≠set1 G.na n d' m
   rw[ao z];exact h.dn m hm
 ·exact kp b o e (fun z=>nb (Or.inr (Or.inr ⟨n,hn,Or.inl z⟩))) fun z=>nb (Or.inr (Or.inr ⟨n,hn,Or.inr z⟩))
 ·rcases hb with z |z |⟨m,hm,z |z⟩
  ·exact Or.inl (Or.inl z)
  ·exact Or.inl (Or.inr (Or.inl z))
  ·exact Or.inl (Or.inr (Or.inr ⟨m,hm,Or.inl z⟩))
  ·by_cases q:m=n
   ·have z:b=d':=by
     have z:b=set1 G.na n d' m:=z
     rw[q,ai] at z;exact z
    rcases hd with w |w
    ·exact Or.inl (Or.inr (Or.inr ⟨n,hn,Or.inr (z.trans w)⟩))
    ·exact Or.inr (z▸w)
   ·have z:b=G.na m:=by
     have z:b=set1 G.na n d' m:=z
     rw[ao q] at z;exact z
    exact Or.inl (Or.inr (Or.inr ⟨m,hm,Or.inr z⟩))
theorem Yd.setC(h:Yd c H y G p s){i:Nat}{kvs':List (Key×V)}{f':Str->Option Cp}(hi:i<p.count)(kp:∀b o,H b=some o->b≠G.ca i->H' b=some o)(e':H' (G.ca i)=some (.dK kvs'))(r':CopR c.C H' kvs' G.names f'):
  Yd c H' y G p {s with cp:=set1 s.cp (i:Int) f'}/\Fw y p H G H' G:=by
 obtain⟨kvs,e,r⟩:=h.cops i hi
 have kin:∀{b C dx f},H b=some (.ins C dx f)->H' b=some (.ins C dx f):=fun {b C dx f} q=>kp b _ q fun z=>by rw[z,e] at q;cases q
 refine⟨⟨?_,?_,kp _ _ h.dt (h.dc i hi),fun j hj=>?_,fun j hj=>?_,fun m u q=>?_,h.no,h.nd,h.dI,h.cI,h.tI,h.nI,h.cn,h.dc,h.dn,h.small⟩,⟨fun b o q nb=>kp b o q fun z=>nb (Or.inr (Or.inl ⟨i,hi,Or.inr z⟩)),fun b hb=>Or.inl hb,rfl⟩⟩
 ·obtain⟨dx,q⟩:=h.yo
  exact⟨dx,kin q⟩
 ·exact kp _ _ h.ld fun z=>by have q:=h.ld;rw[z,e] at q;cases q
 ·obtain⟨dx,q⟩:=h.desk j hj
  exact⟨dx,kin q⟩
 ·by_cases z:j=i
  ·subst z
   refine⟨kvs',e',?_⟩
   show CopR c.C H' kvs' G.names (set1 s.cp (j:Int) f' (j:Int))
   rw[ai];exact r'
  ·obtain⟨l,q,r2⟩:=h.cops j hj
   refine⟨l,kp _ _ q fun w=>z (h.cI j i hj hi w),?_⟩
   show CopR c.C H' l G.names (set1 s.cp (i:Int) f' (j:Int))
   rw[ao (by omega)]
   exact r2.mono fun q dx v n u e=>kin e
 ·obtain⟨hm,hk,τ,⟨⟨dx,e1⟩,e2⟩,r2⟩:=h.thing m u q
  exact⟨hm,hk,τ,⟨⟨dx,kin e1⟩,kp _ _ e2 fun w=>h.cn i m hi hm w.symm⟩,r2⟩
theorem Yd.setD(h:Yd c H y G p s){i:Nat}{o:Int}{u:Bool}{dx':Addr}(hi:i<p.count)(kp:∀b v,H b=some v->b≠G.da i->H' b=some v)(e':H' (G.da i)=some (.ins c.D dx' (flD (.int o) (.bl (!u)) (.ref (G.ca i))))):
  Yd c H' y G p {s with off:=set1 s.off (i:Int) o,up:=set1 s.up (i:Int) u}/\Fw y p H G H' G:=by
 obtain⟨dx0,e⟩:=h.desk i hi
 have kin:∀{b C dx f},H b=some (.ins C dx f)->f≠flD (.int (s.off i)) (.bl (!s.up i)) (.ref (G.ca i))->H' b=some (.ins C dx f):=fun {b C dx f} q nf=>kp b _ q fun z=>by rw[z,e] at q;cases q;exact nf rfl
 have kdK:∀{b l},H b=some (.dK l)->H' b=some (.dK l):=fun {b l} q=>kp b _ q fun z=>by rw[z,e] at q;cases q
 refine⟨⟨?_,?_,kdK h.dt,fun j hj=>?_,fun j hj=>?_,fun m t q=>?_,h.no,h.nd,h.dI,h.cI,h.tI,h.nI,h.cn,h.dc,h.dn,h.small⟩,⟨fun b v q nb=>kp b v q fun z=>nb (Or.inr (Or.inl ⟨i,hi,Or.inl z⟩)),fun b hb=>Or.inl hb,rfl⟩⟩
 ·obtain⟨dx,q⟩:=h.yo
  exact⟨dx,kin q qw⟩
 ·exact kp _ _ h.ld fun z=>by have q:=h.ld;rw[z,e] at q;cases q
 ·by_cases z:j=i
  ·subst z
   refine⟨dx',?_⟩
   show H' (G.da j)=some (.ins c.D dx' (flD (.int (set1 s.off (j:Int) o (j:Int))) (.bl (!set1 s.up (j:Int) u (j:Int))) (.ref (G.ca j))))
   rw[ai,ai];exact e'
  ·obtain⟨dx,q⟩:=h.desk j hj
   refine⟨dx,?_⟩
   show H' (G.da j)=some (.ins c.D dx (flD (.int (set1 s.off (i:Int) o (j:Int))) (.bl (!set1 s.up (i:Int) u (j:Int))) (.ref (G.ca j))))
   rw[ao (by omega),ao (by omega)]
   exact kp _ _ q fun w=>z (h.dI j i hj hi w)
 ·obtain⟨l,q,r2⟩:=h.cops j hj
  exact⟨l,kdK q,r2.mono fun q dx v n u e=>kin e vf⟩
 ·obtain⟨hm,hk,τ,⟨⟨dx,e1⟩,e2⟩,r2⟩:=h.thing m t q
  exact⟨hm,hk,τ,⟨⟨dx,kin e1 qv.symm⟩,kdK e2⟩,r2⟩
theorem Yd.stopped(h:Yd c H y G p s){i:Nat}{d' dx':Addr}{u:Bool}(hi:i<p.count)(kp:∀b v,H b=some v->b≠G.da i->H' b=some v)(hd:H d'=none)(ed:H' d'=some (.dK []))(e':H' (G.da i)=some (.ins c.D dx' (flD (.int (s.off i)) (.bl (!u)) (.ref d')))):
  Yd c H' y {G with ca:=set1 G.ca i d'} p {s with up:=set1 s.up (i:Int) u,cp:=set1 s.cp (i:Int) fun _=>Option.none}/\Fw y p H G H' {G with ca:=set1 G.ca i d'}:=by
 obtain⟨dx0,e⟩:=h.desk i hi
 have kin:∀{b C dx f},H b=some (.ins C dx f)->f≠flD (.int (s.off i)) (.bl (!s.up i)) (.ref (G.ca i))->H' b=some (.ins C dx f):=fun {b C dx f} q nf=>kp b _ q fun z=>by rw[z,e] at q;cases q;exact nf rfl
 have kdK:∀{b l},H b=some (.dK l)->H' b=some (.dK l):=fun {b l} q=>kp b _ q fun z=>by rw[z,e] at q;cases q
 have old:∀{b v},H b=some v->b≠d':=fun {b v} q z=>by rw[z,hd] at q;cases q
 have cold:∀j,j<p.count->G.ca j≠d':=fun j hj=>let ⟨_,q,_⟩:=h.cops j hj;old q
 refine⟨⟨?_,?_,kdK h.dt,fun j hj=>?_,fun j hj=>?_,fun m t q=>?_,h.no,h.nd,h.dI,fun a b ha hb q=>?_,h.tI,h.nI,fun j m hj hm=>?_,fun j hj=>?_,h.dn,h.small⟩,⟨fun b v q nb=>kp b v q fun z=>nb (Or.inr (Or.inl ⟨i,hi,Or.inl z⟩)),fun b hb=>?_,rfl⟩⟩
 ·obtain⟨dx,q⟩:=h.yo
  exact⟨dx,kin q qw⟩
 ·exact kp _ _ h.ld fun z=>by have q:=h.ld;rw[z,e] at q;cases q
 ·by_cases z:j=i
  ·subst z
   refine⟨dx',?_⟩
   show H' (G.da j)=some (.ins c.D dx' (flD (.int (s.off j)) (.bl (!set1 s.up (j:Int) u (j:Int))) (.ref (set1 G.ca j d' j))))
   rw[ai,ai];exact e'
  ·obtain⟨dx,q⟩:=h.desk j hj
   refine⟨dx,?_⟩
   show H' (G.da j)=some (.ins c.D dx (flD (.int (s.off j)) (.bl (!set1 s.up (i:Int) u (j:Int))) (.ref (set1 G.ca i d' j))))
   rw[ao (by omega),ao z]
   exact kp _ _ q fun w=>z (h.dI j i hj hi w)
 ·by_cases z:j=i
  ·subst z
   refine⟨[],?_,?_⟩
   ·show H' (set1 G.ca j d' j)=_
    rw[ai];exact ed
   ·show CopR c.C H' [] G.names (set1 s.cp (j:Int) (fun _=>Option.none) (j:Int))
    rw[ai];exact CopR.nil
  ·obtain⟨l,q,r2⟩:=h.cops j hj
   refine⟨l,?_,?_⟩
   ·show H' (set1 G.ca i d' j)=_
    rw[ao z];exact kdK q
   ·show CopR c.C H' l G.names (set1 s.cp (i:Int) (fun _=>Option.none) (j:Int))
    rw[ao (by omega)]
    exact r2.mono fun q dx v n u e=>kin e vf
 ·obtain⟨hm,hk,τ,⟨⟨dx,e1⟩,e2⟩,r2⟩:=h.thing m t q
  exact⟨hm,hk,τ,⟨⟨dx,kin e1 qv.symm⟩,kdK e2⟩,r2⟩
 ·have q:set1 G.ca i d' a=set1 G.ca i d' b:=q
  by_cases za:a=i
  ·by_cases zb:b=i
   ·omega
   ·rw[za,ai,ao zb] at q
    exact absurd q.symm (cold b hb)
  ·by_cases zb:b=i
   ·rw[zb,ai,ao za] at q
    exact absurd q (cold a ha)
   ·rw[ao za,ao zb] at q
    exact h.cI a b ha hb q
 ·show set1 G.ca i d' j≠G.na m
  by_cases z:j=i
  ·rw[z,ai]
   obtain⟨t,ht⟩:=h.mem hm
   obtain⟨_,_,_,⟨_,e2⟩,_⟩:=h.thing m t ht
   exact(old e2).symm
  ·rw[ao z];exact h.cn j m hj hm
 ·show G.dt≠set1 G.ca i d' j
  by_cases z:j=i
  ·rw[z,ai];exact old h.dt
  ·rw[ao z];exact h.dc j hj
 ·rcases hb with z |⟨j,hj,z |z⟩ |z
  ·exact Or.inl (Or.inl z)
  ·exact Or.inl (Or.inr (Or.inl ⟨j,hj,Or.inl z⟩))
  ·by_cases q:j=i
   ·have z:b=d':=by
     have z:b=set1 G.ca i d' j:=z
     rw[q,ai] at z;exact z
    exact Or.inr (z▸hd)
   ·have z:b=G.ca j:=by
     have z:b=set1 G.ca i d' j:=z
     rw[ao q] at z;exact z
    exact Or.inl (Or.inr (Or.inl ⟨j,hj,Or.inr z⟩))
  ·exact Or.inl (Or.inr (Or.inr z))
theorem Yd.setY(h:Yd c H y G p s){t:Int}{dx':Addr}(kp:∀b v,H b=some v->b≠y->H' b=some v)(e':H' y=some (.ins c.Y dx' (flY (.int p.length) (.int p.bound) (.int t) (.ref G.ld) (.ref G.dt)))):
  Yd c H' y G p {s with time:=t}/\Fw y p H G H' G:=by
 obtain⟨dx0,e⟩:=h.yo
 have kin:∀{b C dx f},H b=some (.ins C dx f)->f≠flY (.int p.length) (.int p.bound) (.int s.time) (.ref G.ld) (.ref G.dt)->H' b=some (.ins C dx f):=fun {b C dx f} q nf=>kp b _ q fun z=>by rw[z,e] at q;cases q;exact nf rfl
 have kdK:∀{b l},H b=some (.dK l)->H' b=some (.dK l):=fun {b l} q=>kp b _ q fun z=>by rw[z,e] at q;cases q
 refine⟨⟨⟨dx',e'⟩,?_,kdK h.dt,fun j hj=>?_,fun j hj=>?_,fun m t q=>?_,h.no,h.nd,h.dI,h.cI,h.tI,h.nI,h.cn,h.dc,h.dn,h.small⟩,⟨fun b v q nb=>kp b v q fun z=>nb (Or.inl z),fun b hb=>Or.inl hb,rfl⟩⟩
 ·exact kp _ _ h.ld fun z=>by have q:=h.ld;rw[z,e] at q;cases q
 ·obtain⟨dx,q⟩:=h.desk j hj
  exact⟨dx,kin q qw.symm⟩
 ·obtain⟨l,q,r2⟩:=h.cops j hj
  exact⟨l,kdK q,r2.mono fun q dx v n u e=>kin e zL.symm⟩
 ·obtain⟨hm,hk,τ,⟨⟨dx,e1⟩,e2⟩,r2⟩:=h.thing m t q
  exact⟨hm,hk,τ,⟨⟨dx,kin e1 vg.symm⟩,kdK e2⟩,r2⟩
end
def look(l:List (Str×Int×Int))(n:Str):Option (Int×Int):=(l.find? fun e=>decide (e.1=n)).map (·.2)
def jJ(ld dt:Addr)(dl:List (Addr×Addr))(tl:List (Str×Addr×Addr)):Gh where
 ld:=ld
 dt:=dt
 da:=fun i=>((dl[i]?).map (·.1)).getD 0
 ca:=fun i=>((dl[i]?).map (·.2)).getD 0
 ta:=fun n=>((tl.find? fun e=>decide (e.1=n)).map (·.2.1)).getD 0
 na:=fun n=>((tl.find? fun e=>decide (e.1=n)).map (·.2.2)).getD 0
 names:=tl.map (·.1)
theorem jH{α:Type}{l:List (Str×α)}{e:Str×α}(nd:(l.map (·.1)).Nodup)(h:e∈l):(l.find? fun x=>decide (x.1=e.1))=some e:=by
 induction l with
 |nil=>cases h
 |cons x r ih=>
  have nd':=List.nodup_cons.mp (show(x.1::r.map (·.1)).Nodup from nd)
  rcases List.mem_cons.mp h with z |z
  ·subst z
   simp
  ·rw[List.find?_cons]
   have:decide (x.1=e.1)=false:=decide_eq_false fun q=>nd'.1 (by rw[q];exact List.mem_map.mpr ⟨e,z,rfl⟩)
   rw[this]
   exact ih nd'.2 z
theorem xt{α:Type}{l:List (Str×α)}{n:Str}{e:Str×α}(h:(l.find? fun x=>decide (x.1=n))=some e):e∈l/\e.1=n:=⟨List.mem_of_find?_eq_some h,by simpa using List.find?_some h⟩
structure Made (c:Cs) (H:Hp) (y ld dt:Addr) (dl:List (Addr×Addr)) (tl:List (Str×Addr×Addr)) (p:Pl) (l:List (Str×Int×Int)):Prop where
 yo:∃dx,H y=some (.ins c.Y dx (flY (.int p.length) (.int p.bound) (.int 0) (.ref ld) (.ref dt)))
 ldH:H ld=some (.lst (dl.map fun e=> .ref e.1))
 dln:dl.length=p.count
 dtH:H dt=some (.dK (tl.map fun e=>(Sum.inr e.1,.ref e.2.1)))
 desk:∀e,e∈dl->∃dx,H e.1=some (.ins c.D dx (flD (.int 0) (.bl false) (.ref e.2)))/\H e.2=some (.dK [])
 d1:(dl.map (·.1)).Nodup
 d2:(dl.map (·.2)).Nodup
 nm:tl.map (·.1)=l.map (·.1)
 th:∀(i:Nat) (e:Str×Addr×Addr) (t:Str×Int×Int),tl[i]?=some e->l[i]?=some t->ThAt c.T H e.2.1 e.2.2 ⟨t.2.1,t.2.2,0,[],none,none⟩
 t1:(tl.map (·.2.1)).Nodup
 t2:(tl.map (·.2.2)).Nodup
 x1:∀e f,e∈dl->f∈tl->e.2≠f.2.2
 x2:∀e,e∈dl->dt≠e.2
 x3:∀f,f∈tl->dt≠f.2.2
theorem mH{α β:Type}{f:α->β}:∀{l:List α},(l.map f).Nodup->∀{a b:α},a∈l->b∈l->f a=f b->a=b
 |x::r,nd,a,b,ha,hb,e=>by
  have nd':=List.nodup_cons.mp (show(f x::r.map f).Nodup from nd)
  rcases List.mem_cons.mp ha with za |za
  ·rcases List.mem_cons.mp hb with zb |zb
   ·rw[za,zb]
   ·exact absurd (List.mem_map.mpr ⟨b,zb,by rw[<-e,za]⟩) nd'.1
  ·rcases List.mem_cons.mp hb with zb |zb
   ·exact absurd (List.mem_map.mpr ⟨a,za,by rw[e,zb]⟩) nd'.1
   ·exact mH nd'.2 za zb e
theorem Made.yd{c:Cs}{H:Hp}{y ld dt:Addr}{dl:List (Addr×Addr)}{tl:List (Str×Addr×Addr)}{p:Pl}{l:List (Str×Int×Int)}(h:Made c H y ld dt dl tl p l)(nd:(l.map (·.1)).Nodup)(hk:∀e∈l,isDesk p e.2.1=true)(hs:p.count<=500/\l.length<=500):
  Yd c H y (jJ ld dt dl tl) p (begin_ (look l)):=by
 have ndt:(tl.map (·.1)).Nodup:=by rw[h.nm];exact nd
 have hln:tl.length=l.length:=by have:=congrArg List.length h.nm;simpa using this
 have dAt:∀i,i<p.count->∃e,e∈dl/\dl[i]?=some e/\(jJ ld dt dl tl).da i=e.1/\(jJ ld dt dl tl).ca i=e.2:=fun i hi=>by
  have hi':i<dl.length:=by rw[h.dln];exact hi
  refine⟨dl[i],List.getElem_mem hi',List.getElem?_eq_getElem hi',?_,?_⟩
  ·show((dl[i]?).map (·.1)).getD 0=_
   rw[List.getElem?_eq_getElem hi'];rfl
  ·show((dl[i]?).map (·.2)).getD 0=_
   rw[List.getElem?_eq_getElem hi'];rfl
 have tAt:∀n,n∈tl.map (·.1)->∃e,e∈tl/\e.1=n/\(jJ ld dt dl tl).ta n=e.2.1/\(jJ ld dt dl tl).na n=e.2.2:=fun n hn=>by
  obtain⟨e,he,z⟩:=List.mem_map.mp hn
  have hf:=jH ndt he
  rw[z] at hf
  refine⟨e,he,z,?_,?_⟩
  ·show((tl.find? fun e=>decide (e.1=n)).map (·.2.1)).getD 0=_
   rw[hf];rfl
  ·show((tl.find? fun e=>decide (e.1=n)).map (·.2.2)).getD 0=_
   rw[hf];rfl
 have ixd:∀i j e,dl[i]?=some e->dl[j]?=some e->i=j:=fun i j e h1 h2=>by
  have nd3:dl.Nodup:=by
   have:=h.d1
   exact List.Pairwise.of_map (S:=fun a b=>a≠b) (·.1) (fun a b hab e=>hab (by rw[e])) this
  obtain⟨hi,e1⟩:=List.getElem?_eq_some_iff.mp h1
  obtain⟨hj,e2⟩:=List.getElem?_eq_some_iff.mp h2
  exact(List.getElem_inj nd3).mp (e1.trans e2.symm)
 refine⟨h.yo,?_,?_,fun i hi=>?_,fun i hi=>?_,fun n t e=>?_,fun n e hn=>?_,ndt,fun i j hi hj e=>?_,fun i j hi hj e=>?_,fun m n hm hn e=>?_,fun m n hm hn e=>?_,fun i n hi hn e=>?_,fun i hi=>?_,fun n hn=>?_,⟨hs.1,by show(tl.map (·.1)).length<=500;rw[List.length_map,hln];exact hs.2⟩⟩
 ·show H ld=_
  rw[h.ldH]
  congr 2
  refine List.ext_getElem? fun i=>?_
  rw[List.getElem?_map,List.getElem?_map]
  by_cases hi:i<p.count
  ·obtain⟨e,_,he,hd,_⟩:=dAt i hi
   rw[he,List.getElem?_range hi]
   show some (V.ref e.1)=some (V.ref ((jJ ld dt dl tl).da i))
   rw[hd]
  ·rw[List.getElem?_eq_none (by rw[h.dln];omega),List.getElem?_eq_none (by simp;omega)]
   rfl
 ·show H dt=_
  rw[h.dtH]
  unfold tkOf
  show some (HO.dK _)=some (HO.dK ((tl.map (·.1)).map _))
  rw[List.map_map]
  congr 2
  refine List.map_congr_left fun e he=>?_
  show((Sum.inr e.1:Key),V.ref e.2.1)=((Sum.inr e.1:Key),V.ref ((jJ ld dt dl tl).ta e.1))
  have hf:=jH ndt he
  have:(jJ ld dt dl tl).ta e.1=e.2.1:=by
   show((tl.find? fun x=>decide (x.1=e.1)).map (·.2.1)).getD 0=_
   rw[hf];rfl
  rw[this]
 ·obtain⟨e,he,_,h1,h2⟩:=dAt i hi
  obtain⟨dx,q,_⟩:=h.desk e he
  rw[h1,h2]
  exact⟨dx,q⟩
 ·obtain⟨e,he,_,h1,h2⟩:=dAt i hi
  obtain⟨dx,_,q⟩:=h.desk e he
  rw[h2]
  exact⟨[],q,CopR.nil⟩
 ·have e:(look l n).map (fun kv=>(⟨kv.1,kv.2,0,fun _=>none,none,none⟩:Th))=some t:=e
  unfold look at e
  cases hf:l.find? fun e=>decide (e.1=n) with
  |none=>rw[hf] at e;cases e
  |some r=>
   rw[hf] at e
   have e:(⟨r.2.1,r.2.2,0,fun _=>none,none,none⟩:Th)=t:=Option.some.inj e
   obtain⟨hr,hrn⟩:=xt hf
   obtain⟨i,hi,ei⟩:=List.mem_iff_getElem.mp hr
   have hi':i<tl.length:=by rw[hln];exact hi
   have q1:tl[i]?=some tl[i]:=List.getElem?_eq_getElem hi'
   have q2:l[i]?=some r:=by rw[List.getElem?_eq_getElem hi,ei]
   have q3:tl[i].1=n:=by
    have z:(tl.map (·.1))[i]?=(l.map (·.1))[i]?:=by rw[h.nm]
    rw[List.getElem?_map,List.getElem?_map,q1,q2] at z
    exact(Option.some.inj z).trans hrn
   have hm:n∈tl.map (·.1):=List.mem_map.mpr ⟨tl[i],List.getElem_mem hi',q3⟩
   have hf2:=jH ndt (List.getElem_mem hi')
   rw[q3] at hf2
   have s:=h.th i _ r q1 q2
   refine⟨hm,?_,⟨r.2.1,r.2.2,0,[],none,none⟩,?_,?_⟩
   ·rw[<-e];exact hk r hr
   ·show ThAt c.T H (((tl.find? fun e=>decide (e.1=n)).map (·.2.1)).getD 0) (((tl.find? fun e=>decide (e.1=n)).map (·.2.2)).getD 0) _
    rw[hf2]
    exact s
   ·rw[<-e]
    exact⟨rfl,rfl,rfl,rfl,rfl,NoteR.nil⟩
 ·have e:(look l n).map (fun kv=>(⟨kv.1,kv.2,0,fun _=>none,none,none⟩:Th))=none:=e
  have hn:n∈tl.map (·.1):=hn
  rw[h.nm] at hn
  obtain⟨r,hr,z⟩:=List.mem_map.mp hn
  have hf:=jH nd hr
  rw[z] at hf
  unfold look at e
  rw[hf] at e
  cases e
 ·obtain⟨a,ha,ia,h1,_⟩:=dAt i hi
  obtain⟨b,hb,ib,h2,_⟩:=dAt j hj
  rw[h1,h2] at e
  have:=mH (f:=(·.1)) h.d1 ha hb e
  rw[this] at ia
  exact ixd i j b ia ib
 ·obtain⟨a,ha,ia,_,h1⟩:=dAt i hi
  obtain⟨b,hb,ib,_,h2⟩:=dAt j hj
  rw[h1,h2] at e
  have:=mH (f:=(·.2)) h.d2 ha hb e
  rw[this] at ia
  exact ixd i j b ia ib
 ·obtain⟨a,ha,ea,h1,_⟩:=tAt m hm
  obtain⟨b,hb,eb,h2,_⟩:=tAt n hn
  rw[h1,h2] at e
  have:=mH (f:=(·.2.1)) h.t1 ha hb e
  rw[<-ea,<-eb,this]
 ·obtain⟨a,ha,ea,_,h1⟩:=tAt m hm
  obtain⟨b,hb,eb,_,h2⟩:=tAt n hn
  rw[h1,h2] at e
  have:=mH (f:=(·.2.2)) h.t2 ha hb e
  rw[<-ea,<-eb,this]
 ·obtain⟨a,ha,_,_,h1⟩:=dAt i hi
  obtain⟨b,hb,_,_,h2⟩:=tAt n hn
  rw[h1,h2] at e
  exact h.x1 a b ha hb e
 ·obtain⟨a,ha,_,_,h1⟩:=dAt i hi
  rw[h1]
  exact h.x2 a ha
 ·obtain⟨b,hb,_,_,h2⟩:=tAt n hn
  rw[h2]
  exact h.x3 b hb
theorem Made.own{c:Cs}{H:Hp}{y ld dt:Addr}{dl:List (Addr×Addr)}{tl:List (Str×Addr×Addr)}{p:Pl}{l:List (Str×Int×Int)}(h:Made c H y ld dt dl tl p l)(nd:(l.map (·.1)).Nodup){b:Addr}(hb:Own y (jJ ld dt dl tl) p b):b=y∨(∃e,e∈dl/\(b=e.1∨b=e.2))∨∃f,f∈tl/\(b=f.2.1∨b=f.2.2):=by
 have ndt:(tl.map (·.1)).Nodup:=by rw[h.nm];exact nd
 rcases hb with z |⟨i,hi,z⟩ |⟨n,hn,z⟩
 ·exact Or.inl z
 ·have hi':i<dl.length:=by rw[h.dln];exact hi
  refine Or.inr (Or.inl ⟨dl[i],List.getElem_mem hi',?_⟩)
  have e1:(jJ ld dt dl tl).da i=dl[i].1:=by
   show((dl[i]?).map (·.1)).getD 0=_
   rw[List.getElem?_eq_getElem hi'];rfl
  have e2:(jJ ld dt dl tl).ca i=dl[i].2:=by
   show((dl[i]?).map (·.2)).getD 0=_
   rw[List.getElem?_eq_getElem hi'];rfl
  rw[e1,e2] at z
  exact z
 ·obtain⟨e,he,q⟩:=List.mem_map.mp (show n∈tl.map (·.1) from hn)
  have hf:=jH ndt he
  rw[q] at hf
  refine Or.inr (Or.inr ⟨e,he,?_⟩)
  have e1:(jJ ld dt dl tl).ta n=e.2.1:=by
   show((tl.find? fun e=>decide (e.1=n)).map (·.2.1)).getD 0=_
   rw[hf];rfl
  have e2:(jJ ld dt dl tl).na n=e.2.2:=by
   show((tl.find? fun e=>decide (e.1=n)).map (·.2.2)).getD 0=_
   rw[hf];rfl
  rw[e1,e2] at z
  exact z
def eM(c:Cs)(H:Hp)(y:Addr)(G:Gh)(p:Pl)(r:An×S Str)(Q:VK)(E:XK):Prop:=
 (∀e,jA r.1=some e->E (.ref (c.er e)) none H)/\(jA r.1=none->∀v G' H',Yd c H' y G' p r.2->Fw y p H G H' G'->Dh H' v (anD r.1)->Q v H')
end Fb
end
section
set_option maxHeartbeats 2000000
namespace Fb
open PySem L2
def scV:PyData->V
 | .int i=> .int i
 | .str x=> .str x
 | .bool b=> .bl b
 |_=> .non
def mK:PyData->Bool
 | .int _=>true
 | .str _=>true
 | .bool _=>true
 | .none=>true
 |_=>false
theorem dr{H:Hp}{v:V}{d:PyData}(h:Dh H v d)(hs:mK d=true):v=scV d:=by
 cases h<;>first |rfl |(exact absurd hs (by simp[mK]))
theorem eD{H:Hp}:∀{xs:List V} {ds:List PyData},Dhs H xs ds->ds.all mK=true->xs=ds.map scV
 |_,_,.nil,_=>rfl
 |_,_,.cons h t,hs=>by
  rw[List.all_cons,Bool.and_eq_true] at hs
  rw[List.map_cons,<-dr h hs.1,<-eD t hs.2]
theorem bp{H:Hp}{v:V}{ds:List PyData}(h:Dh H v (.tuple ds))(hs:ds.all mK=true):∃a,v= .ref a/\H a=some (.tup (ds.map scV)):=by
 cases h with
 |tup ha hx=>
  rw[eD hx hs] at ha
  exact⟨_,rfl,ha⟩
def Rd1(t:TE)(σ:St)(H0:Hp)(d:PyData):Prop:=∀H Q,Same H0 H->(∀v H',Dh H' v d->Same H H'->Q v H')->t σ H Q
def RdA(t:TA)(σ:St)(H0:Hp)(ds:List PyData):Prop:=∀H Q,Same H0 H->(∀vs H',Dhs H' vs ds->Same H H'->Q vs H')->t σ H Q
section
variable {t : TE} {r : TA} {σ : St} {H0 : Hp} {d : PyData} {ds : List PyData}
theorem rd_int{i:Int}:Rd1 (tC (.int i)) σ H0 (.int i):=fun H Q _ q=>q _ H (.int i) (Same.refl H)
theorem rd_str{x:Str}:Rd1 (tC (.str x)) σ H0 (.str x):=fun H Q _ q=>q _ H (.str x) (Same.refl H)
theorem rd_bl{b:Bool}:Rd1 (tC (.bl b)) σ H0 (.bool b):=fun H Q _ q=>q _ H (.bl b) (Same.refl H)
theorem rd_var{i:Nat}{v:V}(h:σ[i]?=some (some v))(hv:Dh H0 v d):Rd1 (tVar i) σ H0 d:=fun H Q s q=>⟨v,h,q v H (hv.same s.d) (Same.refl H)⟩
theorem rda_nil:RdA tNil σ H0 []:=fun H Q _ q=>q [] H .nil (Same.refl H)
theorem rda_cons(h:Rd1 t σ H0 d)(hr:RdA r σ H0 ds):RdA (tCons t r) σ H0 (d::ds):=fun H Q s q=>
 h H _ s fun v H1 hv s1=>hr H1 _ (s.trans s1) fun vs H2 hvs s2=>q _ H2 (.cons (hv.same s2.d) hvs) (s1.trans s2)
theorem rd_tup(h:RdA r σ H0 ds)(hl:ds.length<=1000):Rd1 (tTup r) σ H0 (.tuple ds):=fun H Q s q=>
 h H _ s fun vs H1 hv s1=>⟨small_of (by rw[hv.length];exact hl),fun p hp=>q _ _ (.tup upd_same (hv.same ((Same.refl H1).new hp).d)) (s1.trans ((Same.refl H1).new hp))⟩
theorem rd_lst(h:RdA r σ H0 ds)(hl:ds.length<=1000):Rd1 (tLst r) σ H0 (.list ds):=fun H Q s q=>
 h H _ s fun vs H1 hv s1=>⟨small_of (by rw[hv.length];exact hl),fun p hp=>q _ _ (.lst upd_same (hv.same ((Same.refl H1).new hp).d)) (s1.trans ((Same.refl H1).new hp))⟩
theorem rd_sub{ta tb:TE}{i j:Int}(ha:Rd1 ta σ H0 (.int i))(hb:Rd1 tb σ H0 (.int j)):Rd1 (tOp (rI0 fun a b=> .int (a - b)) ta tb) σ H0 (.int (i - j)):=fun H Q s q=>
 ha H _ s fun v H1 hv s1=>hb H1 _ (s.trans s1) fun u H2 hu s2=>by
  obtain rfl:=show v= .int i by cases hv;rfl
  obtain rfl:=show u= .int j by cases hu;rfl
  exact⟨i,j,rfl,rfl,q _ H2 (.int _) (s1.trans s2)⟩
theorem rd_add{ta tb:TE}{i j:Int}(ha:Rd1 ta σ H0 (.int i))(hb:Rd1 tb σ H0 (.int j)):Rd1 (tOp (rI0 fun a b=> .int (a+b)) ta tb) σ H0 (.int (i+j)):=fun H Q s q=>
 ha H _ s fun v H1 hv s1=>hb H1 _ (s.trans s1) fun u H2 hu s2=>by
  obtain rfl:=show v= .int i by cases hv;rfl
  obtain rfl:=show u= .int j by cases hu;rfl
  exact⟨i,j,rfl,rfl,q _ H2 (.int _) (s1.trans s2)⟩
theorem Ca{K:PySem.W.Frag}{i:Nat}{D:Ends}{H:Hp}{A:Addr}{xs:List V}(hi:σ[i]?=some (some (.ref A)))(hA:H A=some (.lst xs))(hx:Dhs H xs ds)(hn:noLs ds=true)(hl:ds.length<=900)(ht:Rd1 t σ H d)(hd:noL d=true)
  (q:∀H' xs',H' A=some (.lst xs')->Dhs H' xs' (ds++ [d])->(∀b o,H b=some o->b≠A->H' b=some o)->D.nx σ H'):tDrop (tBM K "list" rB (tVar i) (tCons t tNil)) D σ H:=by
 refine⟨_,hi,Or.inl ⟨rfl,_,SqL.of hA⟩,ht H _ (Same.refl H) fun v H1 hv s1=>⟨A,xs,v,rfl,rfl,s1 _ _ hA,bu (by rw[hx.length];omega),q _ _ upd_same ?_ fun b o e n=>by rw[aj n];exact s1 _ _ e⟩⟩
 refine((hx.same s1.d).snoc hv).sameT (fun b ys e=>?_) (by rw[gd,hn];simp[noLs,hd])
 rw[aj (cu e (s1 _ _ hA) (by intro z;cases z))]
 exact e
theorem Dhs.app{H:Hp}:∀{xs ys:List V} {ds es:List PyData},Dhs H xs ds->Dhs H ys es->Dhs H (xs++ys) (ds++es)
 |_,_,_,_,.nil,h=>h
 |_,_,_,_,.cons h t,h2=> .cons h (Dhs.app t h2)
theorem bH{i:Nat}{D:Ends}{H:Hp}(ht:Rd1 t σ H d)(q:∀v H',Dh H' v d->Same H H'->D.nx (σ.set i (some v)) H'):tAsg t (gName i) D σ H:=ht H _ (Same.refl H) fun v H' hv s=>q v H' hv s
theorem bc{D:Ends}{H:Hp}(ht:Rd1 t σ H d)(q:∀v H',Dh H' v d->Same H H'->D.rt v H'):tRet t D σ H:=ht H _ (Same.refl H) fun v H' hv s=>q v H' hv s
theorem rd_mul{ta tb:TE}{i j:Int}(ha:Rd1 ta σ H0 (.int i))(hb:Rd1 tb σ H0 (.int j))(hc:mi i j):Rd1 (tOp (rI mi fun a b=> .int (a*b)) ta tb) σ H0 (.int (i*j)):=fun H Q s q=>
 ha H _ s fun v H1 hv s1=>hb H1 _ (s.trans s1) fun u H2 hu s2=>by
  obtain rfl:=show v= .int i by cases hv;rfl
  obtain rfl:=show u= .int j by cases hu;rfl
  exact⟨i,j,rfl,rfl,hc,q _ H2 (.int _) (s1.trans s2)⟩
theorem rC{i:Nat}{D:Ends}{H:Hp}{r:TA}{σ:St}(ds:List PyData)(ht:RdA r σ H ds)(hl:ds.length<=1000)(q:∀p xs H',H p=none->H' p=some (.lst xs)->Dhs H' xs ds->Same H H'->D.nx (σ.set i (some (.ref p))) H'):tAsg (tLst r) (gName i) D σ H:=
 ht H _ (Same.refl H) fun vs H1 hv s1=>⟨small_of (by rw[hv.length];exact hl),fun p hp=>q p vs _ (s1.free hp) upd_same (hv.same ((Same.refl H1).new hp).d) (s1.trans ((Same.refl H1).new hp))⟩
theorem rd_lt{σ:St}{H0:Hp}{ta tb:TE}{i j:Int}(ha:Rd1 ta σ H0 (.int i))(hb:Rd1 tb σ H0 (.int j)):Rd1 (tOp (rI0 fun a b=> .bl (decide (a<b))) ta tb) σ H0 (.bool (decide (i<j))):=fun H Q s q=>
 ha H _ s fun v H1 hv s1=>hb H1 _ (s.trans s1) fun u H2 hu s2=>by
  obtain rfl:=show v= .int i by cases hv;rfl
  obtain rfl:=show u= .int j by cases hu;rfl
  exact⟨i,j,rfl,rfl,q _ H2 (.bl _) (s1.trans s2)⟩
theorem rd_mod{σ:St}{H0:Hp}{ta tb:TE}{i j:Int}(ha:Rd1 ta σ H0 (.int i))(hb:Rd1 tb σ H0 (.int j))(hj:0<j):Rd1 (tOp (rI (fun _ j=>0<j) fun i j=> .int (i % j)) ta tb) σ H0 (.int (i % j)):=fun H Q s q=>
 ha H _ s fun v H1 hv s1=>hb H1 _ (s.trans s1) fun u H2 hu s2=>by
  obtain rfl:=show v= .int i by cases hv;rfl
  obtain rfl:=show u= .int j by cases hu;rfl
  exact⟨i,j,rfl,rfl,hj,q _ H2 (.int _) (s1.trans s2)⟩
theorem rd_eq{σ:St}{H0:Hp}{ta tb:TE}{i j:Int}(ha:Rd1 ta σ H0 (.int i))(hb:Rd1 tb σ H0 (.int j)):Rd1 (tOp rEq ta tb) σ H0 (.bool (decide (i=j))):=fun H Q s q=>
 ha H _ s fun v H1 hv s1=>hb H1 _ (s.trans s1) fun u H2 hu s2=>by
  obtain rfl:=show v= .int i by cases hv;rfl
  obtain rfl:=show u= .int j by cases hu;rfl
  refine⟨rfl,?_⟩
  have:=q (.bl (decide (i=j))) H2 (.bl _) (s1.trans s2)
  simp only[V.int.injEq]
  exact this
theorem jW{K:PySem.W.Frag}{σ:St}{H0:Hp}{ta:TA}{te:TE}{z:Int}(ns:List Int)(ha:RdA ta σ H0 (ns.map .int))(hl:ns.length<=1000)(he:Rd1 te σ H0 (.int z))(h0:0<=z)(h1:z<ns.length):Rd1 (tOp (iI K) (tLst ta) te) σ H0 (.int (ns.getD z.toNat 0)):=fun H Q s q=>
 rd_lst ha (by rw[List.length_map];exact hl) H _ s fun v H1 hv s1=>he H1 _ (s.trans s1) fun u H2 hu s2=>by
  obtain rfl:=show u= .int z by cases hu;rfl
  obtain⟨A,xs,rfl,h2,h3⟩:∃A xs,v= .ref A/\H1 A=some (.lst xs)/\Dhs H1 xs (ns.map .int):=by cases hv with |lst h1 h2=>exact⟨_,_,rfl,h1,h2⟩
  have e:xs=ns.map V.int:=by
   have:=eD h3 (by simp[mK])
   rw[this,List.map_map]
   rfl
  subst e
  obtain⟨o,ho,ho2⟩:=uV (ns:=ns) h0 h1
  refine fg (SqL.of (s2 _ _ h2)) ho ?_
  have:=q (.int (ns.getD z.toNat 0)) H2 (.int _) (s1.trans s2)
  rw[List.getD_eq_getElem?_getD,ho2] at this
  exact this
theorem Rd1.to{t:TE}{σ:St}{H0:Hp}{d e:PyData}(h:Rd1 t σ H0 d)(he:d=e):Rd1 t σ H0 e:=he▸h
theorem vJ{K:PySem.W.Frag}{σ:St}{H0:Hp}{te:TE}{ds:List PyData}(he:Rd1 te σ H0 (.list ds)):Rd1 (tCB (fun xs H Q=>∃p ys,xs=[V.ref p]/\(SqL K H p ys∨SqT K H p ys)/\∀l,H l=none->Q (.ref l) (upd H l (.lst ys))) (tCons te tNil)) σ H0 (.list ds):=fun H Q s q=>
 he H _ s fun v H1 hv s1=>by
  obtain⟨A,xs,rfl,h2,h3⟩:∃A xs,v= .ref A/\H1 A=some (.lst xs)/\Dhs H1 xs ds:=by cases hv with |lst h1 h2=>exact⟨_,_,rfl,h1,h2⟩
  exact⟨A,xs,rfl,Or.inl (SqL.of h2),fun l hl=>q _ _ (.lst upd_same (h3.same ((Same.refl H1).new hl).d)) (s1.trans ((Same.refl H1).new hl))⟩
theorem Dhs.one{H:Hp}{xs:List V}{d:PyData}{ds:List PyData}(h:Dhs H xs (d::ds)):∃v r,xs=v::r/\Dh H v d/\Dhs H r ds:=by
 cases h with |cons h1 h2=>exact⟨_,_,rfl,h1,h2⟩
theorem Dhs.none{H:Hp}{xs:List V}(h:Dhs H xs []):xs=[]:=by cases h;rfl
theorem CT{σ:St}{H0:Hp}{ta tb:TE}{i j:Int}(ha:Rd1 ta σ H0 (.int i))(hb:Rd1 tb σ H0 (.int j)):Rd1 (tOp (rI0 fun a b=> .bl (decide (a<=b))) ta tb) σ H0 (.bool (decide (i<=j))):=fun H Q s q=>
 ha H _ s fun v H1 hv s1=>hb H1 _ (s.trans s1) fun u H2 hu s2=>by
  obtain rfl:=show v= .int i by cases hv;rfl
  obtain rfl:=show u= .int j by cases hu;rfl
  exact⟨i,j,rfl,rfl,q _ H2 (.bl _) (s1.trans s2)⟩
theorem BZ{σ:St}{H0:Hp}{ta:TE}{i:Int}(ha:Rd1 ta σ H0 (.int i)):Rd1 (tCB (fun xs H Q=>∃i,xs=[V.int i]/\Q (V.int (if i<0 then -i else i)) H) (tCons ta tNil)) σ H0 (.int (if i<0 then -i else i)):=fun H Q s q=>
 ha H _ s fun v H1 hv s1=>by
  obtain rfl:=show v= .int i by cases hv;rfl
  exact⟨i,rfl,q _ H1 (.int _) s1⟩
theorem yR{σ:St}{H0:Hp}{ta tb:TE}{ds es:List PyData}(ha:Rd1 ta σ H0 (.list ds))(hb:Rd1 tb σ H0 (.list es))(hl:ds.length+es.length<=1000):Rd1 (tOp CN ta tb) σ H0 (.list (ds++es)):=fun H Q s q=>
 ha H _ s fun v H1 hv s1=>hb H1 _ (s.trans s1) fun u H2 hu s2=>by
  obtain⟨A,xs,rfl,h2,h3⟩:∃A xs,v= .ref A/\H1 A=some (.lst xs)/\Dhs H1 xs ds:=by cases hv with |lst h1 h2=>exact⟨_,_,rfl,h1,h2⟩
  obtain⟨B,ys,rfl,h4,h5⟩:∃A xs,u= .ref A/\H2 A=some (.lst xs)/\Dhs H2 xs es:=by cases hu with |lst h1 h2=>exact⟨_,_,rfl,h1,h2⟩
  have e1:=h3.length
  have e2:=h5.length
  exact⟨A,B,xs,ys,rfl,rfl,s2 _ _ h2,h4,small_of (by omega),fun p hp=>q _ _ (.lst upd_same ((Dhs.app (h3.same s2.d) h5).same ((Same.refl H2).new hp).d)) (s1.trans (s2.trans ((Same.refl H2).new hp)))⟩
theorem Dhs.at'{H:Hp}:∀{xs:List V} {ds:List PyData} {k:Nat} {d:PyData},Dhs H xs ds->ds[k]?=some d->∃v,xs[k]?=some v/\Dh H v d
 |_,_,0,_,.cons h _,e=>⟨_,rfl,by cases e;exact h⟩
 |_,_,k+1,_,.cons _ t,e=>Dhs.at' (k:=k) t e
 |_,_,0,_,.nil,e=>by cases e
 |_,_,k+1,_,.nil,e=>by cases e
theorem nO{K:PySem.W.Frag}{σ:St}{H0:Hp}{ta:TA}{te:TE}{d:PyData}{k:Nat}(ds:List PyData)(ha:RdA ta σ H0 ds)(hl:ds.length<=1000)(he:Rd1 te σ H0 (.int (k:Int)))(hk:ds[k]?=some d):Rd1 (tOp (iI K) (tLst ta) te) σ H0 d:=fun H Q s q=>
 rd_lst ha hl H _ s fun v H1 hv s1=>he H1 _ (s.trans s1) fun u H2 hu s2=>by
  obtain rfl:=show u= .int (k:Int) by cases hu;rfl
  obtain⟨A,xs,rfl,h2,h3⟩:∃A xs,v= .ref A/\H1 A=some (.lst xs)/\Dhs H1 xs ds:=by cases hv with |lst h1 h2=>exact⟨_,_,rfl,h1,h2⟩
  obtain⟨w,e1,e2⟩:=Dhs.at' h3 hk
  exact fg (SqL.of (s2 _ _ h2)) (bP e1) (q _ H2 (e2.same s2.d) (s1.trans s2))
end
end Fb
end
section
set_option maxHeartbeats 2000000
namespace L2
open PySem PySem.Spec PyProof.Rows
section
variable {X : Cx} {pins : List (Addr × Obj)} {σ : St} {H : Hp} {s : Shared} {h' : Heap} {D : Addr} {o : HO}
theorem Inv.laid2{t':Nat}(I:Inv X pins σ H s)(k:∀b u,s.heap.get? b=some u->h'.get? b=some u)(hn:s.heap.get? D=none)(new:ba X.prog X.w (upd H D o) h' D o):Inv X pins σ (upd H D o) {s with heap:=h',toks:=t'}/\H D=none:=by
 have nt:H D=none:=by
  cases e:H D with
  |none=>rfl
  |some v=>
   obtain⟨u,q⟩:=(I.hok D v e).there
   rw[hn] at q;cases q
 have ne:∀b u,s.heap.get? b=some u->b≠D:=fun b u e z=>by rw[z,hn] at e;cases e
 refine⟨I.un (t':=t') ⟨fun b u q _ _ _=>k b u q,fun b u q _ _ _=>⟨u.slots,k b u q⟩,fun b u q n _=>by rw[aj (ne b u q)];exact n,fun b u q _=>⟨u,k b u q⟩,fun b xs q=>by rw[aj (aq q nt)];exact q,fun b u v q=>by rw[aj (aq q nt)];exact q,fun b ps q=>⟨#[],by rw[aj (aq q nt),q];simp⟩⟩ fun b u e=>?_,nt⟩
 by_cases z:b=D
 ·subst z;rw[upd_same] at e;cases e;exact new
 ·rw[aj z] at e
  exact(I.hok b u e).stay (fun c v _ q=>k c v q) (fun c q=>by rw[aj (aq q nt)];exact q) fun c xs q=>by rw[aj (aq q nt)];exact q
theorem vO:∀{ss:List Str} {us:List Value},Vals (ss.map V.str) us->StrsAre us ss
 | [],_,.nil=> .nil
 |x::r,_,.cons h t=>by
  obtain⟨tk,rfl⟩:=h
  exact .cons x tk (vO t)
theorem mh:∀{ss:List Str} {us:List Value},StrsAre us ss->Vals (ss.map V.str) us
 |_,_,.nil=> .nil
 |_,_,.cons x t h=> .cons ⟨t,rfl⟩ (mh h)
theorem iQ:∀{ss:List Str} {us:List Value},StrsAre us ss->us.length=ss.length
 |_,_,.nil=>rfl
 |_,_,.cons x t h=>by rw[List.length_cons,List.length_cons,iQ h]
theorem mr:ic X (.builtin "sorted") (fun xs H Q=>∃a ss,xs=[V.ref a]/\SqL X.K H a (ss.map V.str)/\ss.length<64/\∀l ss',H l=none->ss'.Perm ss->sortedS ss'=true->Q (.ref l) (upd H l (.lst (ss'.map V.str)))):=by
 intro pins s σ H xs us Q I r h
 obtain⟨a,ss,rfl,hq,h64,q⟩:=h
 obtain⟨u,rfl,ru⟩:=vals1 r
 obtain rfl:u=Value.ref a:=ru
 obtain⟨its,rv,p,hz⟩:=I.list hq
 have hS:=vO rv
 have hl:=iQ hS
 refine sorted_strs p.isList hS (by omega) fun out ss' a1 a2 a3=>?_
 obtain⟨e,he⟩:=sortedAll_at s.heap its out
 have hl2:=iQ a1
 have hl3:=a2.length_eq
 have new:ba X.prog X.w (upd H (s.heap.objs.size+1) (.lst (ss'.map V.str))) (sortedAll s.heap its out) (s.heap.objs.size+1) (.lst (ss'.map V.str)):=⟨small_of (by rw[List.length_map];omega),out.toList,e,mh a1,by rw[he,Array.toArray_toList]⟩
 obtain⟨I2,nt⟩:=I.laid2 (t':=s.toks) (fun b u q=>sortedAll_old q) (Heap.get?_none_of_le (Nat.le_succ _)) new
 exact⟨.ref (s.heap.objs.size+1),_,I2,rfl,q _ ss' nt a2 a3⟩
theorem kG{P:Program}{w:World}:∀{ss:List Str} {vs:List (Key×Value)} {us:List Value},vs.map (·.1)=ss.map (fun x=>(Sum.inr x:Key))->us.length=vs.length->(∀(j:Nat) (v:Value),us[j]?=some v->∃k x,vs[j]?=some (k,x)/\(aQ P w).is k v=true)->StrsAre us ss
 | [],[],[],_,_,_=> .nil
 |x::r,(k,y)::vs,u::us,hk,hl,hp=>by
  have hk1:k=Sum.inr x:=(List.cons.inj hk).1
  obtain⟨k',x',e1,e2⟩:=hp 0 u rfl
  have e1:(k,y)=(k',x'):=Option.some.inj e1
  cases e1
  rw[hk1] at e2
  have ih:=kG (P:=P) (w:=w) (ss:=r) (vs:=vs) (us:=us) (List.cons.inj hk).2 (by simpa using hl) fun j v e=>hp (j+1) v e
  have e3:ig (Sum.inr x) u=true:=e2
  cases u
  case str z t=>
   have:z=x:=by simpa [ig,Value.isStrOf] using e3
   rw[this]
   exact .cons x t ih
  all_goals exact absurd e3 (by simp[ig,Value.isStrOf])
 | [],_::_,_,hk,_,_=>by cases hk
 |_::_,[],_,hk,_,_=>by cases hk
 | [],[],_::_,_,hl,_=>by cases hl
 |_::_,_::_,[],_,hl,_=>by cases hl
theorem mq(hc:X.calm=true):ic X (.builtin "sorted") (fun xs H Q=>∃d kvs ss,xs=[V.ref d]/\H d=some (.dK kvs)/\kvs.map (·.1)=ss.map (fun x=>(Sum.inr x:Key))/\ss.length<64/\∀l ss',H l=none->ss'.Perm ss->sortedS ss'=true->Q (.ref l) (upd H l (.lst (ss'.map V.str)))):=by
 intro pins s σ H xs us Q I r h
 obtain⟨d,kvs,ss,rfl,hd,hk,h64,q⟩:=h
 obtain⟨u,rfl,ru⟩:=vals1 r
 obtain rfl:u=Value.ref d:=ru
 obtain⟨z,hsm,vs,rel,dd⟩:=mz I.hok hd
 obtain⟨ep,hat⟩:=dd.dictAt
 have hkv:vs.map (·.1)=kvs.map (·.1):=by
  clear hat dd z hk hd
  induction rel with
  |nil=>rfl
  |cons h _ ih=>rw[List.map_cons,List.map_cons,ih,h.1]
 have hlv:vs.length=ss.length:=by
  have:=congrArg List.length (hkv.trans hk)
  simpa using this
 refine Calls.call_function_entry kind_sorted plain_sorted entry_sorted (args_sorted1 _) ?_
 unfold Builtin.«sorted»
 refine wpAny_bind (m:=checkCount "sorted" 1 1 _) (wpAny_pure (wpAny_bind (PySem.W.kdu_collect (A:=X.A.in1) (PySem.W.kdl_dict (knd:=aQ X.prog X.w) (kvs:=vs) (ep:=ep) hsm) (I.ok.hd hc) hat (by rw[<-rel.length];exact z) fun h1 tk acc k1 hacc=>?_)))
 have hS:StrsAre acc.toList ss:=kG (P:=X.prog) (w:=X.w) (hkv.trans hk) (by rw[Array.length_toList];exact hacc.1) fun j v e=>hacc.2 j v (by rw[<-Array.getElem?_toList];exact e)
 have hl:=iQ hS
 refine wpAny_bind (wpAny_newList ?_ (small_of (by omega)))
 have hoL:(h1.push {cls:= .type "list",data:= .seq acc.toList.toArray}).get? h1.objs.size=some (seqObj "list" acc.toList.toArray 0):=Heap.get?_push_size _ rfl
 refine wpAny_bind (wpAny_holding (wpAny_call_entry slot_list_sort ⟨_,hoL,rfl⟩ entry_list_sort (list_sort_treeK strKind_oneLt hoL hS.keysOf (fun v₁ v₂ more e=>keyKind_strs (by rw[<-e];exact hS)) (by omega) fun st' p1 p2=>⟨_,rfl,wpAny_pure ⟨_,rfl,?_⟩⟩) (args_list_sort _)))
 obtain⟨ss',b1,b2,b3⟩:=sorted_out_str hS p1 p2
 obtain⟨e,he⟩:=sortedHeap_at (out:=(arrOf st').map (·.2)) hoL
 have hl2:=iQ b1
 have hl3:=b2.length_eq
 have k2:∀b u,s.heap.get? b=some u->(sortedHeap (h1.push {cls:= .type "list",data:= .seq acc.toList.toArray}) h1.objs.size acc.toList ((arrOf st').map (·.2))).get? b=some u:=fun b u e=>by
  have lt:=Heap.lt_size (k1 b u e)
  rw[sortedHeap_old (Nat.ne_of_lt lt) (by rw[Heap.size_push];exact Nat.lt_succ_of_lt lt)]
  exact Heap.get?_push_of_some _ (k1 b u e)
 have nD:s.heap.get? h1.objs.size=none:=by
  cases e:s.heap.get? h1.objs.size with
  |none=>rfl
  |some u=>exact absurd (Heap.lt_size (k1 _ u e)) (Nat.lt_irrefl _)
 have new:ba X.prog X.w (upd H h1.objs.size (.lst (ss'.map V.str))) (sortedHeap (h1.push {cls:= .type "list",data:= .seq acc.toList.toArray}) h1.objs.size acc.toList ((arrOf st').map (·.2))) h1.objs.size (.lst (ss'.map V.str)):=⟨small_of (by rw[List.length_map];omega),((arrOf st').map (·.2)).toList,e,mh b1,by rw[he,Array.toArray_toList]⟩
 obtain⟨I2,nt⟩:=I.laid2 (t':=tk) k2 nD new
 exact⟨.ref h1.objs.size,_,I2,rfl,q _ ss' nt b2 b3⟩
theorem pQ:∀(l:List Str) (p:Str),risingS p l=true->(p::l).Pairwise (fun a b=>a.cps.toList<=b.cps.toList)
 | [],p,_=>List.pairwise_singleton _ _
 |x::r,p,h=>by
  have h:(!ltCps x.cps.toList p.cps.toList&&risingS x r)=true:=h
  rw[Bool.and_eq_true] at h
  have ih:=pQ r x h.2
  have h1:p.cps.toList<=x.cps.toList:=by
   have:=h.1
   rw[ltCps_eq] at this
   exact of_decide_eq_false (by simpa using this)
  refine List.pairwise_cons.mpr ⟨fun y hy=>?_,ih⟩
  rcases List.mem_cons.mp hy with e |e
  ·rw[e];exact h1
  ·exact List.le_trans h1 ((List.pairwise_cons.mp ih).1 y e)
theorem pR:∀{l:List Str},sortedS l=true->l.Pairwise (fun a b=>a.cps.toList<=b.cps.toList)
 | [],_=>List.Pairwise.nil
 |x::r,h=>pQ r x h
theorem sY{l m:List Str}(hp:l.Perm m)(hl:sortedS l=true)(hm:sortedS m=true):l=m:=
 List.Perm.eq_of_pairwise (fun a b _ _ h1 h2=>by
  have:=List.le_antisymm h1 h2
  cases a;cases b
  congr 1
  exact Array.toList_inj.mp this) (pR hl) (pR hm) hp
end
end L2
end
section
set_option maxHeartbeats 2000000
namespace Fb
open PySem L2
theorem Dhs.of{H:Hp}:∀{ys:List V} {ds:List PyData},ys.length=ds.length->(∀(j:Nat) v d,ys[j]?=some v->ds[j]?=some d->Dh H v d)->Dhs H ys ds
 | [],[],_,_=> .nil
 |y::ys,d::ds,hl,h=> .cons (h 0 y d rfl rfl) (Dhs.of (ys:=ys) (ds:=ds) (by simpa using hl) fun j v e h1 h2=>h (j+1) v e h1 h2)
 | [],_::_,hl,_=>by cases hl
 |_::_,[],hl,_=>by cases hl
def DhX(D:Addr)(H:Hp)(v:V)(d:PyData):Prop:=∀H',(∀b o,H b=some o->b≠D->H' b=some o)->Dh H' v d
theorem DhX.dh{D:Addr}{H:Hp}{v:V}{d:PyData}(h:DhX D H v d):Dh H v d:=h H fun _ _ e _=>e
theorem DhX.mono{D:Addr}{H H':Hp}{v:V}{d:PyData}(h:DhX D H v d)(k:∀b o,H b=some o->b≠D->H' b=some o):DhX D H' v d:=fun H2 k2=>h H2 fun b o e n=>k2 b o (k b o e n) n
theorem DhX.of{D:Addr}{H:Hp}{v:V}{d:PyData}{ys:List V}(hD:H D=some (.lst ys))(h:Dh H v d)(hn:noL d=true):DhX D H v d:=fun H' k=>h.sameT (fun b xs e=>k b _ e (cu e hD (by intro z;cases z))) hn
theorem DhX.lst{D r:Addr}{H:Hp}{ds:List PyData}{ys xs:List V}(hD:H D=some (.lst ys))(hr:H r=some (.lst xs))(hx:Dhs H xs ds)(hn:noLs ds=true)(ne:r≠D):DhX D H (.ref r) (.list ds):=fun H' k=> .lst (k r _ hr ne) (hx.sameT (fun b xs e=>k b _ e (cu e hD (by intro z;cases z))) hn)
theorem lW{J:It}{xs:List V}{D:Addr}{n:Nat}{g:TG}{tc:TT}{te:TE}{σ:St}{Qd:Addr->Hp->Prop}{H1:Hp}(hD:H1 D=none)(hy:∀H,Same H1 H->aR J xs H)(hlen:xs.length<=900)(f:Nat->PyData)
  (hs:∀i x H (R:VK) (E:Hp->Prop),xs[i]?=some x->Same H1 H->(∃ys,H D=some (.lst ys))->(∀v H',DhX D H' v (f i)->Same H H'->R v H')->g x (σ++List.replicate n none) H fun σ2 H2=>(∀(j:Nat) v,(σ++List.replicate n none)[j]?=some (some v)->σ2[j]?=some (some v))/\tc σ2 H2 fun b H3=>if b=true then te σ2 H3 R else E H3)
  (hd:∀H,Dh H (.ref D) (.list ((List.range xs.length).map f))->Same H1 H->Qd D H):LcW J D n g tc te σ Qd H1:=by
 refine kL (xs:=xs) (fun i H=>∃ys,H D=some (.lst ys)/\Same H1 H/\ys.length=i/\i<=xs.length/\∀(j:Nat) v,ys[j]?=some v->DhX D H v (f j)) ?_ ?_ ?_ ?_
 ·exact⟨[],upd_same,(Same.refl H1).new hD,rfl,Nat.zero_le _,fun j v e=>by simp at e⟩
 ·rintro i H _ ⟨ys,_,s,_⟩
  exact hy H s
 ·rintro i x H hx ⟨ys,hys,s,hl,hle,hv⟩
  refine hs i x H _ _ hx s ⟨ys,hys⟩ fun v H' hv' s'=>?_
  have lt:=(List.getElem?_eq_some_iff.mp hx).1
  refine⟨ys,s' _ _ hys,bu (by omega),ys++ [v],upd_same,fun b o e=>?_,by rw[List.length_append,hl];rfl,by omega,fun j u e=>?_⟩
  ·rw[aj (aq e hD)];exact s' _ _ (s _ _ e)
  ·have k:∀b o,H' b=some o->b≠D->(upd H' D (.lst (ys++ [v]))) b=some o:=fun b o e n=>by rw[aj n];exact e
   by_cases hj:j<ys.length
   ·rw[List.getElem?_append_left hj] at e
    exact((hv j u e).mono fun b o e n=>s' _ _ e).mono k
   ·have ej:j=ys.length:=by
     have:=(List.getElem?_eq_some_iff.mp e).1
     rw[List.length_append] at this
     simp at this
     omega
    rw[ej] at e ⊢
    simp at e
    subst e
    rw[hl]
    exact hv'.mono k
 ·rintro H ⟨ys,hys,s,hl,_,hv⟩
  refine hd H (.lst hys (Dhs.of (by simp[hl]) fun j v d h1 h2=>?_)) s
  rw[List.getElem?_map] at h2
  have lt:=(List.getElem?_eq_some_iff.mp h1).1
  rw[List.getElem?_range (by omega)] at h2
  obtain rfl:f j=d:=by simpa using h2
  exact(hv j v h1).dh
theorem range_getD{α β:Type}(l:List α)(d:α)(g:α->β):(List.range l.length).map (fun i=>g (l.getD i d))=l.map g:=by
 apply List.ext_getElem
 ·simp
 ·intro i h1 h2
  have:i<l.length:=by simpa using h2
  simp[List.getD_eq_getElem?_getD,this]
structure Listed (ss:List Str) (g:Str->Bool):Prop where
 nd:ss.Nodup
 mem:∀n,n∈ss↔g n=true
 so:PyProof.Rows.sortedS ss=true
theorem Listed.uniq{ss tt:List Str}{g:Str->Bool}(a:Listed ss g)(b:Listed tt g):ss=tt:=
 sY ((List.perm_ext_iff_of_nodup a.nd b.nd).mpr fun n=>(a.mem n).trans (b.mem n).symm) a.so b.so
theorem Listed.of{ks ss:List Str}{g:Str->Bool}(nd:ks.Nodup)(hm:∀n,n∈ks↔g n=true)(hp:ss.Perm ks)(so:PyProof.Rows.sortedS ss=true):Listed ss g:=⟨hp.nodup_iff.mpr nd,fun n=>hp.mem_iff.trans (hm n),so⟩
theorem kN{ks:List Str}{g:Str->Bool}(nd:ks.Nodup)(hm:∀n,n∈ks↔g n=true):∃ss,Listed ss g:=by
 refine⟨ks.mergeSort (fun a b=>decide (a.cps.toList<=b.cps.toList)),Listed.of nd hm (List.mergeSort_perm _ _) (PyProof.Rows.sortedS_of_pairwise _ ?_)⟩
 have:=List.pairwise_mergeSort (le:=fun a b:Str=>decide (a.cps.toList<=b.cps.toList)) (fun a b c h1 h2=>decide_eq_true (List.le_trans (of_decide_eq_true h1) (of_decide_eq_true h2))) (fun a b=>by
  rcases List.le_total a.cps.toList b.cps.toList with h |h
  ·simp[h]
  ·simp[h]) ks
 refine this.imp fun {a b} h=>?_
 rw[PyProof.Rows.ltCps_eq]
 exact decide_eq_false (of_decide_eq_true h)
def hZ(s:Y.S Str)(n:Str):PyData:=match s.th n with
 |some t=> .tuple [.str n,.int t.value,.int t.version]
 |none=> .none
def gh(f:Str->Option Y.Cp)(n:Str):PyData:=match f n with
 |some x=> .tuple [.str n,.int x.value,.int x.version,.int x.till]
 |none=> .none
theorem zo(s:Y.S Str)(n:Str):noL (hZ s n)=true:=by unfold hZ;cases s.th n<;>rfl
theorem sq(f:Str->Option Y.Cp)(n:Str):noL (gh f n)=true:=by unfold gh;cases f n<;>rfl
theorem sK{α:Type}(f:α->PyData)(h:∀a,noL (f a)=true):∀l:List α,noLs (l.map f)=true
 | []=>rfl
 |a::l=>by
  show(noL (f a)&&noLs (l.map f))=true
  rw[h a,sK f h l];rfl
open Y in
theorem zh{p:Pl}{s:S Str}{δ:Deed Str}(m:Str):((Y.step p s δ).2.th m).isSome=(s.th m).isSome:=by
 have nm:∀(d:Int) (n:Str) (k:Th->An×S Str),(∀t,s.th n=some t->((k t).2.th m).isSome=(s.th m).isSome)->((named p s d n k).2.th m).isSome=(s.th m).isSome:=fun d n k hk=>by
  unfold named
  cases isDesk p d with
  |false=>rfl
  |true=>
   simp only[↓reduceIte]
   cases ht:s.th n with
   |none=>rfl
   |some t=>
    dsimp only
    cases s.up d with
    |false=>rfl
    |true=>exact hk t ht
 have set:∀(n:Str) (t t':Th),s.th n=some t->(set1 s.th n (some t') m).isSome=(s.th m).isSome:=fun n t t' ht=>by
  by_cases z:m=n
  ·rw[z,ai,ht];rfl
  ·rw[ao z]
 cases δ with
 |pass q=>rfl
 |shift d o=>simp only[Y.step];split;split;all_goals rfl
 |read d n=>
  refine nm d n _ fun t ht=>?_
  unfold cg
  split
  ·rfl
  ·split
   ·rfl
   ·split
    ·split
     ·rfl
     ·exact set n t _ ht
    ·rfl
 |change d n v=>
  refine nm d n _ fun t ht=>?_
  unfold bQ
  split
  ·split
   ·exact set n t _ ht
   ·exact set n t _ ht
  ·rfl
 |tries n=>
  simp only[Y.step]
  split
  ·rfl
  ·rename_i t ht
   split
   ·exact set n t _ ht
   ·rfl
 |back d n=>
  refine nm d n _ fun t ht=>?_
  unfold ie
  cases hu:s.up t.keeper with
  |true=>exact set n t _ ht
  |false=>rfl
 |stop d=>
  simp only[Y.step]
  split
  ·split
   ·show((s.th m).map _).isSome=_
    rw[Option.isSome_map]
   ·rfl
  ·rfl
 |wake d=>
  simp only[Y.step]
  split
  ·split
   ·rfl
   ·show((s.th m).map _).isSome=_
    rw[Option.isSome_map]
  ·rfl
open Y in
theorem jZ{p:Pl}(m:Str):∀(δs:List (Deed Str)) (s:S Str),((run p s δs).2.th m).isSome=(s.th m).isSome
 | [],_=>rfl
 |δ::δs,s=>(jZ m δs _).trans (zh m)
end Fb
end
section
set_option maxHeartbeats 2000000
namespace Fb
open PySem L2
section
variable {σ : St} {H0 : Hp} {K : PySem.W.Frag}
theorem xk{H:Hp}{vs:List V}{d e f:PyData}(h:Dhs H vs [d,e,f]):∃x y z,vs=[x,y,z]/\Dh H x d/\Dh H y e/\Dh H z f:=by
 obtain⟨w1,r1,rfl,g1,h⟩:=Dhs.one h
 obtain⟨w2,r2,rfl,g2,h⟩:=Dhs.one h
 obtain⟨w3,r3,rfl,g3,h⟩:=Dhs.one h
 obtain rfl:=Dhs.none h
 exact⟨_,_,_,rfl,g1,g2,g3⟩
theorem oJ{H:Hp}{vs:List V}{d e:PyData}(h:Dhs H vs [d,e]):∃x y,vs=[x,y]/\Dh H x d/\Dh H y e:=by
 obtain⟨w1,r1,rfl,g1,h⟩:=Dhs.one h
 obtain⟨w2,r2,rfl,g2,h⟩:=Dhs.one h
 obtain rfl:=Dhs.none h
 exact⟨_,_,rfl,g1,g2⟩
theorem cc{H:Hp}{v:V}{ds:List PyData}(h:Dh H v (.list ds)):∃A xs,v= .ref A/\H A=some (.lst xs)/\Dhs H xs ds:=by cases h with |lst h1 h2=>exact⟨_,_,rfl,h1,h2⟩
theorem bf{H:Hp}{v:V}{i:Int}(h:Dh H v (.int i)):v= .int i:=by cases h;rfl
theorem A0{H:Hp}{v:V}{b:Bool}(h:Dh H v (.bool b)):v= .bl b:=by cases h;rfl
theorem rd_neg{t:TE}{i:Int}(h:Rd1 t σ H0 (.int i)):Rd1 (tUn (rU fun i=> .int (-i)) t) σ H0 (.int (-i)):=fun H Q s q=>
 h H _ s fun v H1 hv s1=>by
  obtain rfl:=show v= .int i by cases hv;rfl
  exact⟨i,rfl,q _ H1 (.int _) s1⟩
theorem uE{ts te:TE}{z:Int}(ns:List Int)(hs:Rd1 ts σ H0 (.list (ns.map .int)))(he:Rd1 te σ H0 (.int z))(h0:0<=z)(h1:z<ns.length):Rd1 (tOp (iI K) ts te) σ H0 (.int (ns.getD z.toNat 0)):=fun H Q s q=>
 hs H _ s fun v H1 hv s1=>he H1 _ (s.trans s1) fun u H2 hu s2=>by
  obtain rfl:=show u= .int z by cases hu;rfl
  obtain⟨A,xs,rfl,h2,h3⟩:∃A xs,v= .ref A/\H1 A=some (.lst xs)/\Dhs H1 xs (ns.map .int):=by cases hv with |lst h1 h2=>exact⟨_,_,rfl,h1,h2⟩
  have e:xs=ns.map V.int:=by
   have:=eD h3 (by simp[mK])
   rw[this,List.map_map]
   rfl
  subst e
  obtain⟨o,ho,ho2⟩:=uV (ns:=ns) h0 h1
  refine fg (SqL.of (s2 _ _ h2)) ho ?_
  have:=q (.int (ns.getD z.toNat 0)) H2 (.int _) (s1.trans s2)
  rw[List.getD_eq_getElem?_getD,ho2] at this
  exact this
theorem fh{ts te:TE}{k:Nat}{ds:List PyData}{d:PyData}(hs:Rd1 ts σ H0 (.list ds))(he:Rd1 te σ H0 (.int (k:Int)))(hk:ds[k]?=some d):Rd1 (tOp (iI K) ts te) σ H0 d:=fun H Q s q=>
 hs H _ s fun v H1 hv s1=>he H1 _ (s.trans s1) fun u H2 hu s2=>by
  obtain rfl:=show u= .int (k:Int) by cases hu;rfl
  obtain⟨A,xs,rfl,h2,h3⟩:∃A xs,v= .ref A/\H1 A=some (.lst xs)/\Dhs H1 xs ds:=by cases hv with |lst h1 h2=>exact⟨_,_,rfl,h1,h2⟩
  obtain⟨w,e1,e2⟩:=Dhs.at' h3 hk
  exact fg (SqL.of (s2 _ _ h2)) (bP e1) (q _ H2 (e2.same s2.d) (s1.trans s2))
theorem jX{ts te:TE}{k:Nat}{ds:List PyData}{d:PyData}(hs:Rd1 ts σ H0 (.tuple ds))(he:Rd1 te σ H0 (.int (k:Int)))(hk:ds[k]?=some d):Rd1 (tOp (eF K) ts te) σ H0 d:=fun H Q s q=>
 hs H _ s fun v H1 hv s1=>he H1 _ (s.trans s1) fun u H2 hu s2=>by
  obtain rfl:=show u= .int (k:Int) by cases hu;rfl
  obtain⟨A,xs,rfl,h2,h3⟩:∃A xs,v= .ref A/\H1 A=some (.tup xs)/\Dhs H1 xs ds:=by cases hv with |tup h1 h2=>exact⟨_,_,rfl,h1,h2⟩
  obtain⟨w,e1,e2⟩:=Dhs.at' h3 hk
  exact ge (SqT.of (s2 _ _ h2)) (bP e1) (q _ H2 (e2.same s2.d) (s1.trans s2))
theorem uF{te:TE}{ds:List PyData}(he:Rd1 te σ H0 (.list ds)):Rd1 (tCB (fun xs H Q=>∃p ys,xs=[V.ref p]/\(SqL K H p ys∨SqT K H p ys)/\Q (.int ys.length) H) (tCons te tNil)) σ H0 (.int ds.length):=fun H Q s q=>
 he H _ s fun v H1 hv s1=>by
  obtain⟨A,xs,rfl,h2,h3⟩:∃A xs,v= .ref A/\H1 A=some (.lst xs)/\Dhs H1 xs ds:=by cases hv with |lst h1 h2=>exact⟨_,_,rfl,h1,h2⟩
  refine⟨A,xs,rfl,Or.inl (SqL.of h2),?_⟩
  rw[h3.length]
  exact q _ H1 (.int _) s1
theorem pP{sp:Sp}{E:XK}{ta:TA}{d:PyData}(ds:List PyData)(ha:RdA ta σ H0 ds)(h:∀vs H Q,Dhs H vs ds->(∀v H',Dh H' v d->Same H H'->Q v H')->sp vs H Q E):Rd1 (tCall sp [] E ta) σ H0 d:=fun H Q s q=>
 ha H _ s fun vs H1 hv s1=>by
  rw[List.append_nil]
  exact h vs H1 Q hv fun v H2 hv2 s2=>q v H2 hv2 (s1.trans s2)
theorem uG{A:Around}{ta tb:TE}{d e:PyData}(ha:Rd1 ta σ H0 d)(hb:Rd1 tb σ H0 e)(l1:d.canLay0=true)(l2:e.canLay0=true)(hu:A.units+min d.depth e.depth<cLine):Rd1 (tOp (CP K A) ta tb) σ H0 (.bool (!PyData.eqv d e)):=fun H Q s q=>
 ha H _ s fun v H1 hv s1=>hb H1 _ (s.trans s1) fun u H2 hu2 s2=>⟨d,e,(hv.same s2.d).dt,hu2.dt,l1,l2,hu,q _ H2 (.bl _) (s1.trans s2)⟩
theorem yT{A:Around}{ta tb:TE}{d e:PyData}(ha:Rd1 ta σ H0 d)(hb:Rd1 tb σ H0 e)(l1:d.canLay0=true)(l2:e.canLay0=true)(hu:A.units+min d.depth e.depth<cLine):Rd1 (tOp (CO K A) ta tb) σ H0 (.bool (PyData.eqv d e)):=fun H Q s q=>
 ha H _ s fun v H1 hv s1=>hb H1 _ (s.trans s1) fun u H2 hu2 s2=>⟨d,e,(hv.same s2.d).dt,hu2.dt,l1,l2,hu,q _ H2 (.bl _) (s1.trans s2)⟩
theorem nJ{σ:St}{n k:Nat}{x:Option V}(hk:σ.length<=k)(j:Nat)(v:V)(h:(σ++List.replicate n none)[j]?=some (some v)):((σ++List.replicate n none).set k x)[j]?=some (some v):=by
 by_cases e:j=k
 ·subst e
  rw[List.getElem?_append_right hk,List.getElem?_replicate] at h
  split at h
  ·cases h
  ·cases h
 ·rw[List.getElem?_set_ne (fun z=>e z.symm)];exact h
theorem yW{ts te:TE}{n k:Nat}{ds:List PyData}(f:Nat->PyData)(hs:Rd1 ts σ H0 (.list ds))(hk:σ.length<=k)(hl:ds.length<=900)(hn:∀i,noL (f i)=true)
  (he:∀i d v H,ds[i]?=some d->Same H0 H->Dh H v d->Rd1 te ((σ++List.replicate n none).set k (some v)) H (f i)):Rd1 (tLc n (iList K ts) (gName k) tYes te) σ H0 (.list ((List.range ds.length).map f)):=fun H Q s q=>by
 refine hs H _ s fun v H1 hv s1=>?_
 obtain⟨A,xs,rfl,h2,h3⟩:∃A xs,v= .ref A/\H1 A=some (.lst xs)/\Dhs H1 xs ds:=by cases hv with |lst h1 h2=>exact⟨_,_,rfl,h1,h2⟩
 refine⟨A,rfl,⟨xs,SqL.of h2⟩,fun D hD=>?_⟩
 refine lW (xs:=xs) hD (fun H' sm=>aR.list (SqL.of (sm _ _ h2))) (by rw[h3.length];exact hl) f (fun i x H2 R E hx sm hys r=>?_) fun H2 hd sm=>?_
 ·obtain⟨d,g1,g2⟩:=h3.get hx
  refine⟨nJ hk,?_⟩
  obtain⟨ys,hys⟩:=hys
  refine eZ (B:=E H2) ?_
  exact he i d x H2 g1 (s.trans (s1.trans sm)) (g2.same sm.d) H2 R (Same.refl _) fun v H' hv s'=>r v H' (DhX.of (s' _ _ hys) hv (hn i)) s'
 ·rw[h3.length] at hd
  exact q _ H2 hd (s1.trans sm)
theorem zc{ts te:TE}{n k i:Nat}{ds:List PyData}{D:Ends}{H:Hp}(f:Nat->PyData)(hs:Rd1 ts σ H (.list ds))(hk:σ.length<=k)(hl:ds.length<=900)(hn:∀i,noL (f i)=true)
  (he:∀i d v H',ds[i]?=some d->Same H H'->Dh H' v d->Rd1 te ((σ++List.replicate n none).set k (some v)) H' (f i))(q:∀v H',Dh H' v (.list ((List.range ds.length).map f))->Same H H'->D.nx (σ.set i (some v)) H'):sLc n i (iList K ts) (gName k) tYes te D σ H:=
 yW (K:=K) f hs hk hl hn he H (fun v H'=>D.nx (σ.set i (some v)) H') (Same.refl H) fun v H' hv s=>q v H' hv s
def RdT(t:TT)(σ:St)(H0:Hp)(b:Bool):Prop:=∀H Q,Same H0 H->(∀H',Same H H'->Q b H')->t σ H Q
theorem ay{t:TE}{b:Bool}(h:Rd1 t σ H0 (.bool b)):RdT (tTest t) σ H0 b:=fun H Q s q=>h H _ s fun v H1 hv s1=>by
 obtain rfl:=show v= .bl b by cases hv;rfl
 exact⟨b,rfl,q H1 s1⟩
theorem nP{t:TE}{b:Bool}(h:Rd1 t σ H0 (.bool b)):RdT (tB t) σ H0 b:=fun H Q s q=>h H _ s fun v H1 hv s1=>by
 obtain rfl:=show v= .bl b by cases hv;rfl
 exact⟨b,rfl,q H1 s1⟩
theorem dC{t:TT}{b:Bool}(h:RdT t σ H0 b):RdT (tNot t) σ H0 (!b):=fun H Q s q=>h H _ s q
theorem rD{t u:TT}{a b:Bool}(h:RdT t σ H0 a)(h2:a=false->RdT u σ H0 b):RdT (tOr t u) σ H0 (a||b):=fun H Q s q=>h H _ s fun H1 s1=>by
 cases a with
 |true=>rw[if_pos rfl];exact q H1 s1
 |false=>rw[if_neg (by decide)];exact h2 rfl H1 _ (s.trans s1) fun H2 s2=>q H2 (s1.trans s2)
theorem fi{t u:TT}{a b:Bool}(h:RdT t σ H0 a)(h2:a=true->RdT u σ H0 b):RdT (tAnd t u) σ H0 (a&&b):=fun H Q s q=>h H _ s fun H1 s1=>by
 cases a with
 |false=>rw[if_neg (by decide)];exact q H1 s1
 |true=>rw[if_pos rfl];exact h2 rfl H1 _ (s.trans s1) fun H2 s2=>q H2 (s1.trans s2)
theorem RdT.to{t:TT}{a b:Bool}(h:RdT t σ H0 a)(e:a=b):RdT t σ H0 b:=e▸h
theorem aW{c:TT}{t1 t2:TS}{D:Ends}{H:Hp}(h:RdT c σ H false)(q:∀H',Same H H'->t2 D σ H'):tIfS c t1 t2 D σ H:=h H _ (Same.refl H) fun H' s=>by
 rw[if_neg (by decide)];exact q H' s
theorem bh{c:TT}{t1 t2:TS}{D:Ends}{H:Hp}(h:RdT c σ H true)(q:∀H',Same H H'->t1 D σ H'):tIfS c t1 t2 D σ H:=h H _ (Same.refl H) fun H' s=>by
 rw[if_pos rfl];exact q H' s
theorem jp{c:TT}{t1 t2:TS}{D:Ends}{H:Hp}{b:Bool}(h:RdT c σ H b)(q1:∀H',b=true->Same H H'->t1 D σ H')(q2:∀H',b=false->Same H H'->t2 D σ H'):tIfS c t1 t2 D σ H:=h H _ (Same.refl H) fun H' s=>by
 cases b with
 |true=>rw[if_pos rfl];exact q1 H' rfl s
 |false=>rw[if_neg (by decide)];exact q2 H' rfl s
structure One (H0 H:Hp) (A:Addr) (ds:List PyData):Prop where
 a:∃xs,H A=some (.lst xs)/\Dhs H xs ds
 na:noLs ds=true
 a0:H0 A=none
 all:Same H0 H
theorem One.dh{H0 H:Hp}{A:Addr}{ds:List PyData}(t:One H0 H A ds):Dh H (.ref A) (.list ds):=let ⟨_,h,d⟩:=t.a; .lst h d
theorem One.same{H0 H H':Hp}{A:Addr}{ds:List PyData}(t:One H0 H A ds)(s:Same H H'):One H0 H' A ds:=⟨let ⟨xs,h,d⟩:=t.a;⟨xs,s _ _ h,d.same s.d⟩,t.na,t.a0,t.all.trans s⟩
theorem One.app{i:Nat}{D:Ends}{H:Hp}{A:Addr}{ds:List PyData}{t:TE}(T:One H0 H A ds)(d:PyData)(hi:σ[i]?=some (some (.ref A)))(hl:ds.length<=900)(ht:Rd1 t σ H d)(hd:noL d=true)
  (q:∀H',One H0 H' A (ds++ [d])->(∀b o,H b=some o->b≠A->H' b=some o)->D.nx σ H'):tDrop (tBM K "list" rB (tVar i) (tCons t tNil)) D σ H:=by
 obtain⟨xs,h1,h2⟩:=T.a
 exact Ca hi h1 h2 T.na hl ht hd fun H' xs' hA hx kp=>q H' ⟨⟨xs',hA,hx⟩,by rw[gd,T.na];simp[noLs,hd],T.a0,fun b o e=>kp b o (T.all b o e) (aq e T.a0)⟩ kp
end
end Fb
end
section
set_option maxHeartbeats 2000000
namespace L2
open PySem PySem.Spec PyProof.Rows
section
variable {X : Cx} {pins : List (Addr × Obj)} {σ : St} {H : Hp} {s : Shared}
theorem lF{σ:St}{i j:Nat}{v:V}(h:(σ.set i none)[j]?=some (some v)):j≠i/\σ[j]?=some (some v):=by
 by_cases e:j=i
 ·subst e
  rw[List.getElem?_set] at h
  split at h
  ·split at h
   ·cases h
   ·cases h
  ·exact absurd rfl (by assumption)
 ·exact⟨e,by rw[List.getElem?_set_ne (fun z=>e z.symm)] at h;exact h⟩
abbrev Cx.reX(X:Cx)(i:Nat)(x:Str):Cx:={X with N:=X.N.set i x}
theorem Cx.Ok.reX(ok:X.Ok)(i:Nat)(x:Str):(X.reX i x).Ok:=
 ⟨ok.mod,ok.kind,ok.glob,ok.blt,ok.above,ok.inj,ok.has,ok.cab,ok.hd,ok.frames,ok.stk,ok.exf,ok.bs,ok.bsz,ok.noex,ok.exfs,ok.funs,ok.frf⟩
theorem Inv.reX(I:Inv X pins σ H s)(i:Nat)(y:Str):Inv (X.reX i y) pins (σ.set i none) H s:=by
 refine⟨I.ok.reX i y,I.os,I.bare,I.base,?_,I.cell,I.free,I.freeC,I.pin,I.hok,by rw[List.length_set,List.length_set];exact I.len⟩
 obtain⟨m,hm,hl⟩:=I.loc
 refine⟨m,hm,fun j x v e1 e2 e3=>?_⟩
 obtain⟨ne,e2⟩:=lF e2
 have e1:(X.N.set i y)[j]?=some x:=e1
 rw[List.getElem?_set_ne (fun z=>ne z.symm)] at e1
 exact hl j x v e1 e2 e3
theorem Inv.unreX{i:Nat}{y:Str}(I:Inv (X.reX i y) pins σ H s)(ok:X.Ok):Inv X pins (σ.set i none) H s:=by
 refine⟨ok,I.os,I.bare,I.base,?_,I.cell,I.free,I.freeC,I.pin,I.hok,by have:=I.len;rw[List.length_set,this];exact List.length_set⟩
 obtain⟨m,hm,hl⟩:=I.loc
 refine⟨m,hm,fun j x v e1 e2 e3=>?_⟩
 obtain⟨ne,e2'⟩:=lF e2
 exact hl j x v (show(X.N.set i y)[j]?=some x by rw[List.getElem?_set_ne (fun z=>ne z.symm)];exact e1) e2' e3
def CW(i:Nat)(t:TS):TS:=fun D σ H=>t ⟨fun σ' H'=>D.nx (σ'.set i none) H',D.rt,fun σ' H'=>D.bk (σ'.set i none) H',fun σ' H'=>D.ct (σ'.set i none) H'⟩ (σ.set i none) H
theorem BV{st:Stmt}{t:TS}(i:Nat)(y:Str)(h:PS (X.reX i y) st t):PS X st (CW i t):=by
 intro pins s σ H D I q
 refine thn (h pins s (σ.set i none) H _ (I.reX i y) q) fun f s1 q=>?_
 cases f with
 |next=>obtain⟨σ',H',I',q⟩:=q;exact⟨_,H',I'.unreX I.ok,q⟩
 |brk=>obtain⟨σ',H',I',q⟩:=q;exact⟨_,H',I'.unreX I.ok,q⟩
 |cont=>obtain⟨σ',H',I',q⟩:=q;exact⟨_,H',I'.unreX I.ok,q⟩
 |ret u=>obtain⟨v,σ',H',I',r,q⟩:=q;exact⟨v,_,H',I'.unreX I.ok,r,q⟩
theorem zM{K:PySem.W.Frag}(hK:X.K=K):IxR X (eF K):=hK▸aA
theorem yB{K:PySem.W.Frag}(hK:X.K=K):OpR X (binaryOp .Add) (yP K):=hK▸Az
end
end L2
end
section
set_option maxHeartbeats 2000000
namespace Fb
open PySem L2
section
variable {σ : St} {H0 : Hp} {K : PySem.W.Frag}
theorem gA{H:Hp}{v:V}{x:Str}(h:Dh H v (.str x)):v= .str x:=by cases h;rfl
def AS:PyData->String
 | .none=>"NoneType"
 | .bool _=>"bool"
 | .int _=>"int"
 | .str _=>"str"
 | .list _=>"list"
 | .tuple _=>"tuple"
 |_=>"dict"
theorem Br{H:Hp}{v:V}{d:PyData}(h:Dh H v d):tyN H v=some (AS d):=by
 cases h with
 |non=>rfl
 |bl _=>rfl
 |int _=>rfl
 |str _=>rfl
 |lst h _=>exact jb h
 |tup h _=>exact eC h
theorem Cc{te:TE}{d:PyData}{n:String}(h:Rd1 te σ H0 d)(hn:n∈cU):Rd1 (tCB (fun xs H Q=>∃x n tn,xs=[x,V.ty n]/\tyN H x=some tn/\n∈cU/\Q (.bl (bv tn n)) H) (tCons te (tCons (tC (.ty n)) tNil))) σ H0 (.bool (bv (AS d) n)):=fun H Q s q=>
 h H _ s fun v H1 hv s1=>⟨v,n,AS d,rfl,Br hv,hn,q _ H1 (.bl _) s1⟩
theorem rd_eqS{ta tb:TE}{x y:Str}(ha:Rd1 ta σ H0 (.str x))(hb:Rd1 tb σ H0 (.str y)):Rd1 (tOp rEq ta tb) σ H0 (.bool (decide (x=y))):=fun H Q s q=>
 ha H _ s fun v H1 hv s1=>hb H1 _ (s.trans s1) fun u H2 hu s2=>by
  obtain rfl:=gA hv
  obtain rfl:=gA hu
  refine⟨rfl,?_⟩
  have:=q (.bl (decide (x=y))) H2 (.bl _) (s1.trans s2)
  simp only[V.str.injEq]
  exact this
theorem yZ{ta tb:TE}{x y:Str}(ha:Rd1 ta σ H0 (.str x))(hb:Rd1 tb σ H0 (.str y)):Rd1 (tOp rNe ta tb) σ H0 (.bool (!decide (x=y))):=fun H Q s q=>
 ha H _ s fun v H1 hv s1=>hb H1 _ (s.trans s1) fun u H2 hu s2=>by
  obtain rfl:=gA hv
  obtain rfl:=gA hu
  refine⟨rfl,?_⟩
  have:=q (.bl (!decide (x=y))) H2 (.bl _) (s1.trans s2)
  simp only[V.str.injEq]
  exact this
theorem CU{ta tb:TE}{i j:Int}(ha:Rd1 ta σ H0 (.int i))(hb:Rd1 tb σ H0 (.int j)):Rd1 (tOp rNe ta tb) σ H0 (.bool (!decide (i=j))):=fun H Q s q=>
 ha H _ s fun v H1 hv s1=>hb H1 _ (s.trans s1) fun u H2 hu s2=>by
  obtain rfl:=bf hv
  obtain rfl:=bf hu
  refine⟨rfl,?_⟩
  have:=q (.bl (!decide (i=j))) H2 (.bl _) (s1.trans s2)
  simp only[V.int.injEq]
  exact this
theorem AL{t:TE}{b:Bool}(h:Rd1 t σ H0 (.bool b)):Rd1 (tNotV t) σ H0 (.bool (!b)):=fun H Q s q=>h H _ s fun v H1 hv s1=>by
 obtain rfl:=A0 hv
 exact⟨b,rfl,q _ H1 (.bl _) s1⟩
theorem jY{k:Nat}{A:Around}(r:Room k A){n:Nat}(h:n<=200):A.units+n<cLine:=by have:=r.un;omega
def kx{α:Type}(xs:List α)(lo hi:Option Int):List α:=(xs.drop (HT.sIx xs.length 0 lo)).take (HT.sIx xs.length xs.length hi - HT.sIx xs.length 0 lo)
theorem xg{α β:Type}(f:α->β)(xs:List α)(lo hi:Option Int):kx (xs.map f) lo hi=(kx xs lo hi).map f:=by
 unfold kx
 rw[List.length_map,List.map_take,List.map_drop]
theorem sr{α:Type}(xs:List α)(lo hi:Option Int):(kx xs lo hi).length<=xs.length:=by
 unfold kx
 rw[List.length_take,List.length_drop]
 omega
theorem zE(xs:List V)(lo hi:Option Int):lJ xs lo hi=kx xs lo hi:=rfl
def RdO(t:TO)(σ:St)(H0:Hp)(o:Option Int):Prop:=∀H Q,Same H0 H->(∀H',Same H H'->Q o H')->t σ H Q
theorem sU{t:TE}{i:Int}(h:Rd1 t σ H0 (.int i)):RdO (Bg t) σ H0 (some i):=fun H Q s q=>h H _ s fun v H1 hv s1=>by
 obtain rfl:=bf hv
 exact⟨i,rfl,q H1 s1⟩
theorem iq{H:Hp}:∀ns:List Int,Dhs H (ns.map V.int) (ns.map PyData.int)
 | []=> .nil
 |n::ns=> .cons (.int n) (iq ns)
theorem jC{H:Hp}:∀ns:List Str,Dhs H (ns.map V.str) (ns.map PyData.str)
 | []=> .nil
 |n::ns=> .cons (.str n) (jC ns)
theorem Cf{i:Nat}{a:Addr}{ns:List Int}{tl th:TO}{lo hi:Option Int}(h:σ[i]?=some (some (.ref a)))(hS:SqL K H0 a (ns.map V.int))(hl:RdO tl σ H0 lo)(hh:RdO th σ H0 hi):Rd1 (tSl (CS K) (tVar i) tl th) σ H0 (.list ((kx ns lo hi).map .int)):=fun H Q s q=>
 ⟨_,h,hl H _ s fun H2 s2=>hh H2 _ (s.trans s2) fun H3 s3=>by
  refine⟨a,_,rfl,((s.trans s2).trans s3).seq hS,fun p hp=>?_⟩
  rw[zE,xg]
  have S:=(Same.refl H3).new (o:= .lst ((kx ns lo hi).map V.int)) hp
  exact q _ _ (.lst upd_same (iq _)) ((s2.trans s3).trans S)⟩
def zx(D:Addr)(H:Hp)(vs:List V)(ds:List PyData):Prop:=∀H',(∀b o,H b=some o->b≠D->H' b=some o)->Dhs H' vs ds
theorem zx.mono{D:Addr}{H H':Hp}{v:List V}{d:List PyData}(h:zx D H v d)(k:∀b o,H b=some o->b≠D->H' b=some o):zx D H' v d:=fun H2 k2=>h H2 fun b o e n=>k2 b o (k b o e n) n
theorem xM{J:It}{xs:List V}{D:Addr}{n:Nat}{g:TG}{tc:TT}{te:TE}{σ:St}{Qd:Addr->Hp->Prop}{H1:Hp}(hD:H1 D=none)(hy:∀H,Same H1 H->aR J xs H)(hlen:xs.length<=900)(p:Nat->Bool)(f:Nat->PyData)
  (hs:∀i x H (R:VK) (E:Hp->Prop),xs[i]?=some x->Same H1 H->(∃ys,H D=some (.lst ys))->(p i=true->∀v H',DhX D H' v (f i)->Same H H'->R v H')->(p i=false->∀H',Same H H'->E H')->
   g x (σ++List.replicate n none) H fun σ2 H2=>(∀(j:Nat) v,(σ++List.replicate n none)[j]?=some (some v)->σ2[j]?=some (some v))/\tc σ2 H2 fun b H3=>if b=true then te σ2 H3 R else E H3)
  (hd:∀H,Dh H (.ref D) (.list (((List.range xs.length).filter p).map f))->Same H1 H->Qd D H):LcW J D n g tc te σ Qd H1:=by
 refine kL (xs:=xs) (fun i H=>∃ys,H D=some (.lst ys)/\Same H1 H/\i<=xs.length/\zx D H ys (((List.range i).filter p).map f)) ?_ ?_ ?_ ?_
 ·exact⟨[],upd_same,(Same.refl H1).new hD,Nat.zero_le _,fun _ _=> .nil⟩
 ·rintro i H _ ⟨ys,_,s,_⟩
  exact hy H s
 ·rintro i x H hx ⟨ys,hys,s,hle,hv⟩
  have lt:=(List.getElem?_eq_some_iff.mp hx).1
  have el:ys.length<=i:=by
   have h1:=(hv H fun _ _ e _=>e).length
   have h2:((List.range i).filter p).length<=(List.range i).length:=List.length_filter_le _ _
   rw[List.length_map] at h1
   rw[List.length_range] at h2
   omega
  refine hs i x H _ _ hx s ⟨ys,hys⟩ (fun hp v H' hv' s'=>?_) fun hp H' s'=>?_
  ·refine⟨ys,s' _ _ hys,bu (by omega),ys++ [v],upd_same,fun b o e=>?_,lt,?_⟩
   ·rw[aj (aq e hD)];exact s' _ _ (s _ _ e)
   ·have k:∀b o,H' b=some o->b≠D->(upd H' D (.lst (ys++ [v]))) b=some o:=fun b o e n=>by rw[aj n];exact e
    intro H2 k2
    rw[List.range_succ,List.filter_append,List.map_append,List.filter_cons,hp]
    exact Dhs.snoc (hv H2 fun b o e n=>k2 b o (k b o (s' _ _ e) n) n) (hv' H2 fun b o e n=>k2 b o (k b o e n) n)
  ·refine⟨ys,s' _ _ hys,s.trans s',lt,?_⟩
   rw[List.range_succ,List.filter_append,List.filter_cons,hp]
   simp only[Bool.false_eq_true, ↓reduceIte,List.filter_nil,List.append_nil]
   exact hv.mono fun b o e _=>s' _ _ e
 ·rintro H ⟨ys,hys,s,_,hv⟩
  exact hd H (.lst hys (hv H fun _ _ e _=>e)) s
theorem Ce{ts te:TE}{tc:TT}{n k:Nat}{ds:List PyData}(p:Nat->Bool)(f:Nat->PyData)(hs:Rd1 ts σ H0 (.list ds))(hk:σ.length<=k)(hl:ds.length<=900)(hn:∀i,noL (f i)=true)
  (hc:∀i d v H,ds[i]?=some d->Same H0 H->Dh H v d->RdT tc ((σ++List.replicate n none).set k (some v)) H (p i))
  (he:∀i d v H,ds[i]?=some d->p i=true->Same H0 H->Dh H v d->Rd1 te ((σ++List.replicate n none).set k (some v)) H (f i)):Rd1 (tLc n (iList K ts) (gName k) tc te) σ H0 (.list (((List.range ds.length).filter p).map f)):=fun H Q s q=>by
 refine hs H _ s fun v H1 hv s1=>?_
 obtain⟨A,xs,rfl,h2,h3⟩:=cc hv
 refine⟨A,rfl,⟨xs,SqL.of h2⟩,fun D hD=>?_⟩
 refine xM (xs:=xs) hD (fun H' sm=>aR.list (SqL.of (sm _ _ h2))) (by rw[h3.length];exact hl) p f (fun i x H2 R E hx sm hys r e=>?_) fun H2 hd sm=>?_
 ·obtain⟨d,g1,g2⟩:=h3.get hx
  obtain⟨ys,hys⟩:=hys
  refine⟨nJ hk,?_⟩
  refine hc i d x H2 g1 (s.trans (s1.trans sm)) (g2.same sm.d) H2 _ (Same.refl _) fun H3 s3=>?_
  cases hp:p i with
  |true=>exact eZ (he i d x H3 g1 hp (s.trans (s1.trans (sm.trans s3))) (g2.same (sm.trans s3).d) H3 R (Same.refl _) fun v H' hv s'=>r hp v H' (DhX.of (s' _ _ (s3 _ _ hys)) hv (hn i)) (s3.trans s'))
  |false=>exact fK (e hp H3 s3)
 ·rw[h3.length] at hd
  exact q _ H2 hd (s1.trans sm)
theorem wJ{ts te:TE}{tc:TT}{n k i:Nat}{ds:List PyData}{D:Ends}{H:Hp}(p:Nat->Bool)(f:Nat->PyData)(hs:Rd1 ts σ H (.list ds))(hk:σ.length<=k)(hl:ds.length<=900)(hn:∀i,noL (f i)=true)
  (hc:∀i d v H',ds[i]?=some d->Same H H'->Dh H' v d->RdT tc ((σ++List.replicate n none).set k (some v)) H' (p i))
  (he:∀i d v H',ds[i]?=some d->p i=true->Same H H'->Dh H' v d->Rd1 te ((σ++List.replicate n none).set k (some v)) H' (f i))(q:∀v H',Dh H' v (.list (((List.range ds.length).filter p).map f))->Same H H'->D.nx (σ.set i (some v)) H'):sLc n i (iList K ts) (gName k) tc te D σ H:=
 Ce (K:=K) p f hs hk hl hn hc he H (fun v H'=>D.nx (σ.set i (some v)) H') (Same.refl H) fun v H' hv s=>q v H' hv s
def bC(R:List PyData->PyData->Prop):Sp:=fun vs H Q _=>∃ds d,R ds d/\Dhs H vs ds/\∀v H',Dh H' v d->Same H H'->Q v H'
theorem iX{R:List PyData->PyData->Prop}{E:XK}{ta:TA}{ds:List PyData}{d:PyData}(ha:RdA ta σ H0 ds)(h:R ds d):Rd1 (tCall (bC R) [] E ta) σ H0 d:=pP _ ha fun vs H Q hv q=>⟨ds,d,h,hv,q⟩
theorem qB{c:TT}{t1 t2:TS}{D:Ends}{H:Hp}{b:Bool}(h:RdT c σ H b)(P:St->Hp->Prop)(k:∀σ' H',P σ' H'->D.nx σ' H')(q1:∀H' (D':Ends),(∀σ' H',P σ' H'->D'.nx σ' H')->D'.rt=D.rt->b=true->Same H H'->t1 D' σ H')(q2:∀H' (D':Ends),(∀σ' H',P σ' H'->D'.nx σ' H')->D'.rt=D.rt->b=false->Same H H'->t2 D' σ H'):tIfS c t1 t2 D σ H:=h H _ (Same.refl H) fun H' s=>by
 cases b with
 |true=>rw[if_pos rfl];exact q1 H' D k rfl rfl s
 |false=>rw[if_neg (by decide)];exact q2 H' D k rfl rfl s
theorem stay{t:TS}{D:Ends}{H:Hp}(h:∀D':Ends,(∀H',Same H H'->D'.nx σ H')->D'.rt=D.rt->t D' σ H)(k:∀H',Same H H'->D.nx σ H'):t D σ H:=h D k rfl
theorem iP{t u:TS}{D:Ends}{H:Hp}(h:∀D':Ends,(∀H',Same H H'->D'.nx σ H')->D'.rt=D.rt->t D' σ H)(k:∀H',Same H H'->u D σ H'):tSeq t u D σ H:=h {D with nx:=u D} k rfl
theorem vG{t u:TS}{D:Ends}{H:Hp}(P:St->Hp->Prop)(h:∀D':Ends,(∀σ' H',P σ' H'->D'.nx σ' H')->D'.rt=D.rt->t D' σ H)(k:∀σ' H',P σ' H'->u D σ' H'):tSeq t u D σ H:=h {D with nx:=u D} k rfl
theorem rK{H:Hp}{ta:TA}{g:TG}{tb:TS}{D:Ends}{m:Nat}(ha:RdA ta σ H [.int (m:Int)])(hb:m<=1000)(q:∀H',Same H H'->wY (Itr 0 m) g tb D σ H'):tForG (iRng1 ta) g tb D σ H:=
 ha H _ (Same.refl H) fun vs H1 hv s1=>by
  obtain⟨w,r,rfl,g1,hv⟩:=Dhs.one hv
  obtain rfl:=Dhs.none hv
  obtain rfl:=bf g1
  refine⟨m,rfl,by omega,by omega,?_⟩
  rw[Int.toNat_natCast]
  exact q H1 s1
theorem xu{tb:TS}{D:Ends}{H1:Hp}{A:Addr}{ds:List PyData}{j n:Nat}{x0:Option V}(f:Nat->PyData)(T:One H0 H1 A ds)(hx0:σ[j]?=some x0)
  (hs:∀(i:Nat) H' (D':Ends),i<n->One H0 H' A (ds++(List.range i).map f)->D'.rt=D.rt->(∀H2,One H0 H2 A (ds++(List.range i).map f++ [f i])->D'.nx (σ.set j (some (.int (i:Int)))) H2)->tb D' (σ.set j (some (.int (i:Int)))) H')
  (q:∀x H',One H0 H' A (ds++(List.range n).map f)->D.nx (σ.set j x) H'):wY (Itr 0 n) (gName j) tb D σ H1:=by
 refine bR (xs:=nQ 0 n) (fun i σ' H'=>∃x,σ'=σ.set j x/\One H0 H' A (ds++(List.range i).map f)) ⟨x0,?_,by simpa using T⟩ (fun _ _ _ _ _=>aR.range) ?_ ?_
 ·obtain⟨hj,e⟩:=List.getElem?_eq_some_iff.mp hx0
  rw[<-e,List.set_getElem_self]
 ·rintro i v σ' H' hv ⟨x,rfl,T'⟩
  obtain⟨hi,rfl⟩:=gZ hv
  rw[show(0:Int)+(i:Int)=(i:Int) by omega]
  show tb _ ((σ.set j x).set j _) H'
  rw[List.set_set]
  refine hs i H' _ hi T' rfl fun H2 T2=>⟨_,rfl,?_⟩
  rw[List.range_succ,List.map_append]
  rw[List.append_assoc] at T2
  exact T2
 ·rintro σ' H' ⟨x,rfl,T'⟩
  rw[iJ] at T'
  exact q x H' T'
theorem vh{tb:TS}{D:Ends}{H:Hp}{j n:Nat}(Pv:Nat->St->Hp->Prop)(h0:Pv 0 σ H)
  (hs:∀(i:Nat) σ' H' (D':Ends),i<n->Pv i σ' H'->D'.rt=D.rt->(∀σ2 H2,Pv (i+1) σ2 H2->D'.nx σ2 H2)->tb D' (σ'.set j (some (.int (i:Int)))) H')
  (q:∀σ' H',Pv n σ' H'->D.nx σ' H'):wY (Itr 0 n) (gName j) tb D σ H:=by
 refine bR (xs:=nQ 0 n) Pv h0 (fun _ _ _ _ _=>aR.range) ?_ ?_
 ·intro i v σ' H' hv pv
  obtain⟨hi,rfl⟩:=gZ hv
  rw[show(0:Int)+(i:Int)=(i:Int) by omega]
  exact hs i σ' H' _ hi pv rfl fun σ2 H2 p2=>p2
 ·intro σ' H' pv
  rw[iJ] at pv
  exact q σ' H' pv
theorem C4{ta:TA}{tb:TS}{D:Ends}{H:Hp}{j m:Nat}(Pv:Nat->St->Hp->Prop)(h:RdA ta σ H [.int (m:Int)])(hm:m<=1000)(h0:∀H1,Same H H1->Pv 0 σ H1)
  (hs:∀(i:Nat) σ' H' (D':Ends),i<m->Same H H'->Pv i σ' H'->D'.rt=D.rt->(∀σ2 H2,Pv (i+1) σ2 H2->Same H' H2->D'.nx σ2 H2)->tb D' (σ'.set j (some (.int (i:Int)))) H')
  (q:∀σ' H',Pv m σ' H'->Same H H'->D.nx σ' H'):tForG (iRng1 ta) (gName j) tb D σ H:=
 rK h hm fun H1 s1=>vh (fun i σ' H'=>Pv i σ' H'/\Same H H') ⟨h0 H1 s1,s1⟩ (fun i σ' H' D' hi pv rt nx=>hs i σ' H' D' hi pv.2 pv.1 rt fun σ2 H2 p2 s2=>nx σ2 H2 ⟨p2,pv.2.trans s2⟩) fun σ' H' pv=>q σ' H' pv.1 pv.2
theorem ze{ta:TE}{xs ss:List Str}(ha:Rd1 ta σ H0 (.list (xs.map .str)))(h64:xs.length<64)(hp:∀ss':List Str,ss'.Perm xs->PyProof.Rows.sortedS ss'=true->ss'=ss):Rd1 (tCB (fun ys H Q=>∃a ss,ys=[V.ref a]/\SqL K H a (ss.map V.str)/\ss.length<64/\∀l ss',H l=none->ss'.Perm ss->PyProof.Rows.sortedS ss'=true->Q (.ref l) (upd H l (.lst (ss'.map V.str)))) (tCons ta tNil)) σ H0 (.list (ss.map .str)):=fun H Q s q=>
 ha H _ s fun v H1 hv s1=>by
  obtain⟨A,ys,rfl,h2,h3⟩:=cc hv
  have e:ys=xs.map V.str:=by
   rw[eD h3 (by simp[mK]),List.map_map]
   rfl
  subst e
  refine⟨A,xs,rfl,SqL.of h2,h64,fun l ss' hl p so=>?_⟩
  obtain rfl:=hp ss' p so
  have S:=(Same.refl H1).new (o:= .lst (ss'.map V.str)) hl
  exact q _ _ (.lst upd_same (jC _)) (s1.trans S)
end
end Fb
end
section
namespace Fb
namespace Y
variable {N : Type} [DecidableEq N]
theorem lc{κ α:Type}[DecidableEq κ]{f:κ->α}{k:κ}{a b:α}:set1 (set1 f k a) k b=set1 f k b:=by
 funext x
 unfold set1
 by_cases h:x=k
 ·simp[h]
 ·simp[h]
theorem wP{f:Int->N->Option Cp}{d:Int}{n:N}{c:Option Cp}:setC f d n c d n=c:=by
 unfold setC;rw[ai,ai]
theorem vM{f:Int->N->Option Cp}{d e:Int}{n m:N}{c:Option Cp}(h:¬(e=d/\m=n)):setC f d n c e m=f e m:=by
 unfold setC
 by_cases he:e=d
 ·subst he
  rw[ai,ao fun z=>h ⟨rfl,z⟩]
 ·rw[ao he]
structure Inv (p:Pl) (s:S N):Prop where
 off:∀d, -p.bound<=s.off d/\s.off d<=p.bound
 cpu:∀d n c,s.cp d n=some c->c.till<=s.time+p.bound+p.length
 ln:∀n t d u,s.th n=some t->t.lent d=some u->u<=s.time+p.bound+p.length
 qu:∀n t q,s.th n=some t->t.quiet=some q->q<=s.time+3*p.bound+p.length
 ok:∀d n c,s.cp d n=some c->isDesk p d=true/\∃t,s.th n=some t/\(s.time+p.bound<=c.till->c.value=t.value/\c.version=t.version/\(t.lent d=some c.till∨(∃q,t.quiet=some q/\c.till<=q)∨s.up t.keeper=false))
 dn:∀d,s.up d=false->(∀n,s.cp d n=none)/\(∀n t,s.th n=some t->t.keeper=d->t.lent=(fun _=>none)/\t.waiting=none)
end Y
end Fb
end
section
namespace Fb
namespace Y
variable {N : Type} [DecidableEq N]
def yh:Deed N->Prop
 | .pass m=>0<=m
 |_=>True
theorem sJ(p:Pl)(s:S N)(d:Int)(n:N)(k:Th->An×S N)(P:An×S N->Prop)(h0:isDesk p d=false->P (.noDesk,s))(h1:isDesk p d=true->s.th n=none->P (.noThing,s))(h2:∀t,isDesk p d=true->s.th n=some t->s.up d=false->P (.stopped,s))(h3:∀t,isDesk p d=true->s.th n=some t->s.up d=true->P (k t)):P (named p s d n k):=by
 unfold named
 cases e:isDesk p d with
 |false=>exact h0 e
 |true=>
  rw[if_pos rfl]
  cases e1:s.th n with
  |none=>exact h1 e e1
  |some t=>
   dsimp only
   cases e2:s.up d with
   |true=>rw[if_pos rfl];exact h3 t e e1 e2
   |false=>rw[if_neg (by decide)];exact h2 t e e1 e2
end Y
end Fb
end
section
set_option maxHeartbeats 2000000
namespace Fb
open PySem L2
open Y
section
variable {σ : St} {H0 : Hp} {K : PySem.W.Frag}
theorem vI{ta tb:TE}{x y:Str}(ha:Rd1 ta σ H0 (.str x))(hb:Rd1 tb σ H0 (.str y))(hl:x.length+y.length<=sizeLine):Rd1 (tOp (fun x y H Q=>∃i j,x= .str i/\y= .str j/\i.length+j.length<=sizeLine/\Q (.str (i++j)) H) ta tb) σ H0 (.str (x++y)):=fun H Q s q=>
 ha H _ s fun v H1 hv s1=>hb H1 _ (s.trans s1) fun u H2 hu s2=>by
  obtain rfl:=gA hv
  obtain rfl:=gA hu
  exact⟨x,y,rfl,rfl,hl,q _ H2 (.str _) (s1.trans s2)⟩
theorem vK{ta tb:TE}{x:Str}{n:Int}(ha:Rd1 ta σ H0 (.str x))(hb:Rd1 tb σ H0 (.int n))(hl:MulOk x n):Rd1 (tOp (fun x y H Q=>∃z n,x= .str z/\y= .int n/\MulOk z n/\Q (.str (Txt.mul z n)) H) ta tb) σ H0 (.str (Txt.mul x n)):=fun H Q s q=>
 ha H _ s fun v H1 hv s1=>hb H1 _ (s.trans s1) fun u H2 hu s2=>by
  obtain rfl:=gA hv
  obtain rfl:=bf hu
  exact⟨x,n,rfl,rfl,hl,q _ H2 (.str _) (s1.trans s2)⟩
theorem Cd{ta tb:TE}{x:Str}{n:Int}{c:Nat}(ha:Rd1 ta σ H0 (.str x))(hb:Rd1 tb σ H0 (.int n))(hl:x.length<=sizeLine)(hc:atI x.cps.toList n=some c):Rd1 (tOp BX ta tb) σ H0 (.str ⟨#[c]⟩):=fun H Q s q=>
 ha H _ s fun v H1 hv s1=>hb H1 _ (s.trans s1) fun u H2 hu s2=>by
  obtain rfl:=gA hv
  obtain rfl:=bf hu
  exact⟨x,n,c,rfl,rfl,hl,hc,q _ H2 (.str _) (s1.trans s2)⟩
theorem rd_fdiv{ta tb:TE}{i j:Int}(ha:Rd1 ta σ H0 (.int i))(hb:Rd1 tb σ H0 (.int j))(hc:Bi i j):Rd1 (tOp (rI Bi fun i j=> .int (i / j)) ta tb) σ H0 (.int (i / j)):=fun H Q s q=>
 ha H _ s fun v H1 hv s1=>hb H1 _ (s.trans s1) fun u H2 hu s2=>by
  obtain rfl:=bf hv
  obtain rfl:=bf hu
  exact⟨i,j,rfl,rfl,hc,q _ H2 (.int _) (s1.trans s2)⟩
theorem rd_it0{ts:TE}{a:PyData}{r:List PyData}(hs:Rd1 ts σ H0 (.tuple (a::r))):Rd1 (tOp (eF K) ts (tC (.int 0))) σ H0 a:=jX (k:=0) hs rd_int rfl
theorem rd_it1{ts:TE}{a b:PyData}{r:List PyData}(hs:Rd1 ts σ H0 (.tuple (a::b::r))):Rd1 (tOp (eF K) ts (tC (.int 1))) σ H0 b:=jX (k:=1) hs rd_int rfl
theorem rd_it2{ts:TE}{a b d:PyData}{r:List PyData}(hs:Rd1 ts σ H0 (.tuple (a::b::d::r))):Rd1 (tOp (eF K) ts (tC (.int 2))) σ H0 d:=jX (k:=2) hs rd_int rfl
theorem rd_it3{ts:TE}{a b d e:PyData}{r:List PyData}(hs:Rd1 ts σ H0 (.tuple (a::b::d::e::r))):Rd1 (tOp (eF K) ts (tC (.int 3))) σ H0 e:=jX (k:=3) hs rd_int rfl
end
theorem cmul_3(x:Int):mi 3 x:=Or.inl (by decide)
theorem cmul_5(x:Int):mi 5 x:=Or.inl (by decide)
theorem cmul_10(x:Int):mi 10 x:=Or.inl (by decide)
theorem xv(ns:List Nat)(k:Nat):(((ns.getD k 0:Nat)):Int)=(ns.map fun(n:Nat)=>(n:Int)).getD k 0:=by
 rw[List.getD_eq_getElem?_getD,List.getD_eq_getElem?_getD,List.getElem?_map]
 cases ns[k]?<;>rfl
def gu(c:Int):Pl:=⟨([2,3,4,2,3,4,1,9]:List Nat).getD (c*48271 % 1019 % 8).toNat 0,([1,5,10,1000000,7,20,100000000000000000000]:List Int).getD (c*48271 % 1009 % 7).toNat 0,([0,1,3,100,2,3*100000000000000000000]:List Int).getD (c*48271 % 1013 % 6).toNat 0⟩
theorem wF(c:Int):(0<(gu c).count/\(gu c).count<=9)/\0<=(gu c).bound/\0<(gu c).length:=by
 unfold gu
 dsimp only
 have h1:(c*48271 % 1019 % 8).toNat<8:=by omega
 have h2:(c*48271 % 1009 % 7).toNat<7:=by omega
 have h3:(c*48271 % 1013 % 6).toNat<6:=by omega
 have k1:∀i:Fin 8,0<([2,3,4,2,3,4,1,9]:List Nat).getD i.val 0/\([2,3,4,2,3,4,1,9]:List Nat).getD i.val 0<=9:=by decide
 have k2:∀i:Fin 7,0<([1,5,10,1000000,7,20,100000000000000000000]:List Int).getD i.val 0:=by decide
 have k3:∀i:Fin 6,0<=([0,1,3,100,2,3*100000000000000000000]:List Int).getD i.val 0:=by decide
 exact⟨k1 ⟨_,h1⟩,k3 ⟨_,h3⟩,k2 ⟨_,h2⟩⟩
def nmS(r j:Nat):Str:=(Txt.mul (Str.ofString "o") (r:Int)++(⟨#[97+j]⟩:Str))++Txt.mul (Str.ofString "o") (6 - (r:Int))
def nmP(j:Nat):Str:=([Str.ofString "oats",Str.ofString "oatsack",Str.ofString "",Str.ofString "bran",Str.ofString "oat"]:List Str).getD j (Str.ofString "")
def nameOf(p:Pl)(j:Nat):Str:=if p.bound % 2=1 then nmS (p.length % 7).toNat j else nmP j
theorem BN:∀r:Fin 7,MulOk (Str.ofString "o") (r.val:Int)/\MulOk (Str.ofString "o") (6 - (r.val:Int)):=by unfold MulOk;decide+kernel
theorem BM:∀(r:Fin 7) (j:Fin 5),(Txt.mul (Str.ofString "o") (r.val:Int)).length+(⟨#[97+j.val]⟩:Str).length<=1000/\(Txt.mul (Str.ofString "o") (r.val:Int)++(⟨#[97+j.val]⟩:Str)).length+(Txt.mul (Str.ofString "o") (6 - (r.val:Int))).length<=1000:=by decide+kernel
theorem CF:∀j:Fin 5,atI (Str.ofString "abcde").cps.toList (j.val:Int)=some (97+j.val):=by decide+kernel
theorem CG:∀(r:Fin 7) (j:Fin 5),PyData.strOk (nmS r.val j.val)=true:=by decide+kernel
theorem BK:∀j:Fin 5,PyData.strOk (nmP j.val)=true:=by decide+kernel
theorem BL:∀(r:Fin 7) (i j:Fin 5),nmS r.val i.val=nmS r.val j.val->i=j:=by decide+kernel
theorem Af:∀(i j:Fin 5),nmP i.val=nmP j.val->i=j:=by decide+kernel
theorem BJ(x:Int):(x % 7).toNat<7/\(((x % 7).toNat:Nat):Int)=x % 7:=by omega
theorem pI(p:Pl){j:Nat}(hj:j<5):PyData.strOk (nameOf p j)=true:=by
 unfold nameOf
 split
 ·exact CG ⟨_,(BJ p.length).1⟩ ⟨j,hj⟩
 ·exact BK ⟨j,hj⟩
theorem ui(p:Pl){i j:Nat}(hi:i<5)(hj:j<5)(h:nameOf p i=nameOf p j):i=j:=by
 unfold nameOf at h
 split at h
 ·exact congrArg Fin.val (BL ⟨_,(BJ p.length).1⟩ ⟨i,hi⟩ ⟨j,hj⟩ h)
 ·exact congrArg Fin.val (Af ⟨i,hi⟩ ⟨j,hj⟩ h)
def bx(c:Int)(p:Pl):List (Str×Int×Int):=[(nameOf p 0,c*48271 % 1021 % p.count,c*48271 % 1033 % 9 - 4),(nameOf p 1,c*48271 % 1031 % p.count,([0, -1,100000000000000000000]:List Int).getD (c*48271 % 1039 % 3).toNat 0)]++
 if c*48271 % 1087 % 2=1 then [(nameOf p 2,c % p.count,c*48271 % 1091 % 5),(nameOf p 3,c / 3 % p.count, -7)] else []
def ee(c:Int):Nat:=if c*48271 % 1087 % 2=1 then 4 else 2
theorem km(c:Int)(p:Pl):(bx c p).length=ee c:=by
 unfold bx ee
 split<;>rfl
theorem fb(c:Int):2<=ee c/\ee c<=4:=by unfold ee;split<;>decide
theorem iR(c:Int)(p:Pl):(bx c p).map (·.1)=(List.range (ee c)).map (nameOf p):=by
 unfold bx ee
 split<;>rfl
theorem lN{f:Nat->Str}{n:Nat}(h:∀i j,i<n->j<n->f i=f j->i=j):((List.range n).map f).Nodup:=by
 rw[List.nodup_iff_pairwise_ne]
 rw[List.pairwise_map]
 refine List.Pairwise.imp_of_mem ?_ List.nodup_range
 intro a b ha hb hab e
 exact hab (h a b (List.mem_range.mp ha) (List.mem_range.mp hb) e)
theorem tj(c:Int)(p:Pl):((bx c p).map (·.1)).Nodup:=by
 rw[iR]
 have:=fb c
 exact lN fun i j hi hj e=>ui p (by omega) (by omega) e
theorem su(x:Int){p:Pl}(h:0<p.count):isDesk p (x % (p.count:Int))=true:=by
 have h1:=Int.emod_nonneg x (show(p.count:Int)≠0 by omega)
 have h2:=Int.emod_lt_of_pos x (show 0<(p.count:Int) by omega)
 unfold isDesk
 simp[h1,h2]
theorem pq(c:Int){p:Pl}(h:0<p.count):∀e∈bx c p,isDesk p e.2.1=true:=by
 intro e he
 unfold bx at he
 split at he
 ·simp only[List.cons_append,List.nil_append,List.mem_cons,List.not_mem_nil,or_false] at he
  rcases he with rfl |rfl |rfl |rfl<;>exact su _ h
 ·simp only[List.append_nil,List.mem_cons,List.not_mem_nil,or_false] at he
  rcases he with rfl |rfl<;>exact su _ h
def sd(c:Int)(p:Pl):Int:=([1,0,2,p.length / 2,p.length,p.length+p.bound,p.length+2*p.bound]++ [p.length+4*p.bound+1]:List Int).getD (c*48271 % 1049 % 8).toNat 0
def bz(c:Int):Int:=c*48271 % 1051 % 16
def cN(c k:Int)(p:Pl):Int:=if c*48271 % 1061 % 31=30 then([-1,(p.count:Int), -2,0 - (p.count:Int),100000000000000000000,0 - 100000000000000000000]:List Int).getD (k % 6).toNat 0 else(c / 16+k) % (p.count:Int)
def ii(c:Int):Nat:=if c*48271 % 1069 % 17=16 then 4 else if c*48271 % 1103 % 4=3 then(2+c*48271 % 1109 % 2).toNat else(c*48271 % 1063 % 3 % 2).toNat
def CH(c:Int)(p:Pl):Int:=([0 - p.bound,p.bound,0,p.bound+1,0 - p.bound - 1,p.bound / 2]:List Int).getD (c*48271 % 1087 % 6).toNat 0
def valOf(c k:Int):Int:=([10*k+c*48271 % 1091 % 7,0 - k,100000000000000000000+k]:List Int).getD (c*48271 % 1093 % 3).toNat 0
def bI(c k:Int)(p:Pl):Deed Str:=
 if bz c<2 then .pass (sd (c / 16) p)
 else if bz c=2 then .shift (cN c k p) (CH c p)
 else if bz c<9 then .read (cN c k p) (nameOf p (ii c))
 else if bz c<11 then .change (cN c k p) (nameOf p (ii c)) (valOf c k)
 else if bz c<13 then .tries (nameOf p (ii c))
 else if bz c=13 then .back (cN c k p) (nameOf p (ii c))
 else if bz c=14 then .stop (cN c k p) else .wake (cN c k p)
def drawn(ns:List Int)(p:Pl):List (Deed Str):=(List.range ns.length).map fun k=>bI (ns.getD k 0+5*(k:Int)) (k:Int) p
theorem wc(ns:List Int)(p:Pl):(drawn ns p).length=ns.length:=by simp[drawn]
theorem yf(c:Int):ii c<5:=by
 unfold ii
 split
 ·decide
 ·split<;>omega
theorem vA:∀(ns:List Int) (k:Nat),(∀n∈ns,0<=n)->0<=ns.getD k 0
 | [],k,_=>by simp
 |n::r,0,h=>h n List.mem_cons_self
 |n::r,k+1,h=>by
  have:=vA r k fun m hm=>h m (List.mem_cons_of_mem _ hm)
  simpa using this
theorem wT(c:Int){p:Pl}(hb:0<=p.bound)(hl:0<=p.length):0<=sd c p:=by
 unfold sd
 refine vA _ _ fun n hn=>?_
 simp only[List.cons_append,List.nil_append,List.mem_cons,List.not_mem_nil,or_false] at hn
 rcases hn with rfl |rfl |rfl |rfl |rfl |rfl |rfl |rfl<;>omega
theorem wb(c k:Int){p:Pl}(hb:0<=p.bound)(hl:0<=p.length):yh (bI c k p):=by
 unfold bI
 repeat' split
 ·exact wT _ hb hl
 all_goals trivial
theorem xl(ns:List Int){p:Pl}(hb:0<=p.bound)(hl:0<=p.length):∀x∈drawn ns p,yh x:=fun x hx=>by
 unfold drawn at hx
 obtain⟨k,_,rfl⟩:=List.mem_map.mp hx
 exact wb _ _ hb hl
def okD:Deed Str->Bool
 | .read _ n=>PyData.strOk n
 | .change _ n _=>PyData.strOk n
 | .tries n=>PyData.strOk n
 | .back _ n=>PyData.strOk n
 |_=>true
theorem tP(c k:Int)(p:Pl):okD (bI c k p)=true:=by
 have:=pI p (yf c)
 unfold bI
 repeat' split
 all_goals first |rfl |exact this
theorem wd(ns:List Int)(p:Pl):(drawn ns p).all okD=true:=by
 rw[List.all_eq_true]
 intro x hx
 unfold drawn at hx
 obtain⟨k,_,rfl⟩:=List.mem_map.mp hx
 exact tP _ _ _
end Fb
end
section
namespace Fb
namespace Y
variable {N : Type} [DecidableEq N]
theorem jS{p:Pl}{s:S N}{d:Int}{n:N}{t:Th}{k:Th->An×S N}(hd:isDesk p d=true)(ht:s.th n=some t)(hu:s.up d=true):named p s d n k=k t:=by
 unfold named
 rw[if_pos hd,ht]
 dsimp only
 rw[if_pos hu]
end Y
end Fb
end
section
namespace Fb
namespace Y
variable {N : Type} [DecidableEq N]
theorem cS{p:Pl}{d:Int}:isDesk p d=true↔0<=d/\d<p.count:=by
 unfold isDesk
 simp only[Bool.and_eq_true,decide_eq_true_eq]
end Y
end Fb
end
section
set_option maxHeartbeats 2000000
namespace Fb
namespace Y
variable {N : Type} [DecidableEq N]
end Y
end Fb
end
section
namespace Fb
namespace Y
variable {N : Type} [DecidableEq N]
end Y
end Fb
end
section
set_option maxHeartbeats 2000000
namespace Fb
namespace Y
variable {N : Type} [DecidableEq N]
def gy(s:S N):Prop:=∀d m,(s.cp d m).isSome=true->(s.th m).isSome=true
theorem gy.step{p:Pl}{s:S N}(h:gy s)(δ:Deed N):gy (step p s δ).2:=by
 have nm:∀(d:Int) (n:N) (k:Th->An×S N),(∀t,s.th n=some t->gy (k t).2)->gy (named p s d n k).2:=fun d n k hk=>
  sJ p s d n k (fun r=>gy r.2) (fun _=>h) (fun _ _=>h) (fun _ _ _ _=>h) fun t _ ht _=>hk t ht
 have set:∀(d:Int) (n:N) (t:Th) (t':Th) (c:Option Cp) (s':S N),s.th n=some t->s'.cp=setC s.cp d n c->s'.th=set1 s.th n (some t')->gy s':=fun d n t t' c s' ht ec et e m hm=>by
  rw[et]
  by_cases z:m=n
  ·rw[z,ai];rfl
  ·rw[ao z]
   rw[ec,vM fun y=>z y.2] at hm
   exact h e m hm
 have set0:∀(n:N) (t':Th) (s':S N),s'.cp=s.cp->s'.th=set1 s.th n (some t')->gy s':=fun n t' s' ec et e m hm=>by
  rw[et]
  by_cases z:m=n
  ·rw[z,ai];rfl
  ·rw[ao z]
   rw[ec] at hm
   exact h e m hm
 cases δ with
 |pass q=>exact h
 |shift d o=>
  show gy (ite _ _ _:An×S N).2
  split
  ·split
   ·exact h
   ·exact h
  ·exact h
 |read d n=>
  refine nm d n _ fun t ht=>?_
  unfold cg
  split
  ·exact h
  ·split
   ·exact h
   ·split
    ·split
     ·exact h
     ·exact set d n t _ _ _ ht rfl rfl
    ·exact h
 |change d n v=>
  refine nm d n _ fun t ht=>?_
  unfold bQ
  split
  ·split
   ·exact set d n t _ _ _ ht rfl rfl
   ·exact set d n t _ _ _ ht rfl rfl
  ·exact h
 |tries n=>
  show gy (match s.th n with |none=>_ |some t=>_:An×S N).2
  split
  ·exact h
  ·rename_i t ht
   split
   ·exact set0 n _ _ rfl rfl
   ·exact h
 |back d n=>
  refine nm d n _ fun t ht=>?_
  unfold ie
  cases hu:s.up t.keeper with
  |true=>exact set d n t {t with lent:=set1 t.lent d none} none _ ht rfl rfl
  |false=>
   intro e m hm
   have hm:(setC s.cp d n none e m).isSome=true:=hm
   by_cases z:e=d/\m=n
   ·obtain⟨rfl,rfl⟩:=z
    rw[wP] at hm
    cases hm
   ·rw[vM z] at hm
    exact h e m hm
 |stop d=>
  show gy (ite _ _ _:An×S N).2
  split
  ·split
   ·intro e m hm
    have hm:(set1 s.cp d (fun _=>none) e m).isSome=true:=hm
    show((s.th m).map _).isSome=true
    rw[Option.isSome_map]
    by_cases z:e=d
    ·rw[z,ai] at hm;cases hm
    ·rw[ao z] at hm;exact h e m hm
   ·exact h
  ·exact h
 |wake d=>
  show gy (ite _ _ _:An×S N).2
  split
  ·split
   ·exact h
   ·intro e m hm
    show((s.th m).map _).isSome=true
    rw[Option.isSome_map]
    exact h e m hm
  ·exact h
theorem gy.run{p:Pl}:∀(δs:List (Deed N)) {s:S N},gy s->gy (run p s δs).2
 | [],_,h=>h
 |δ::δs,s,h=>gy.run δs (h.step δ)
theorem gy.begins(f:N->Option (Int×Int)):gy (begin_ f):=fun _ _ h=>nomatch h
end Y
end Fb
end
section
namespace Fb
namespace Y
variable {N : Type} [DecidableEq N]
structure Q where
 keeper:Int
 value:Int
 version:Int
 waiting:Option Int
def stopQ(f:N->Option Q)(d:Int):N->Option Q:=fun n=>(f n).map fun q=>if q.keeper=d then {q with waiting:=none} else q
inductive Turn (f:N->Option Q):Deed N->An->(N->Option Q)->Prop where
 |stop {d b}:Turn f (.stop d) (.bl b) (stopQ f d)
 |waits {d n v u q}:f n=some q->q.waiting=none->Turn f (.change d n v) (.waits u) (set1 f n (some {q with waiting:=some v}))
 |changed {d n v k q}:f n=some q->q.waiting=none->k=q.version+1->Turn f (.change d n v) (.changed k) (set1 f n (some {q with value:=v,version:=k,waiting:=none}))
 |tryW {n u q y}:f n=some q->q.waiting=some y->Turn f (.tries n) (.waits u) f
 |tryC {n k q y}:f n=some q->q.waiting=some y->k=q.version+1->Turn f (.tries n) (.changed k) (set1 f n (some {q with value:=y,version:=k,waiting:=none}))
 |keeps {x a}:(∀d,x≠ .stop d∨a= .noDesk)->(∀n,(x= .tries n∨∃d v,x= .change d n v)->(∀u,a≠ .waits u)/\(∀k,a≠ .changed k))->Turn f x a f
end Y
end Fb
end
section
set_option maxHeartbeats 2000000
namespace Fb
open PySem L2
section
variable {σ : St} {H0 : Hp} {K : PySem.W.Frag}
theorem aX{t u:TS}{D:Ends}{H:Hp}(h:t {D with nx:=u D} σ H):tSeq t u D σ H:=h
end
end Fb
end
section
set_option maxHeartbeats 2000000
namespace Fb
open PySem L2
section
variable {σ : St} {H0 : Hp} {K : PySem.W.Frag}
theorem xj{H:Hp}{v:V}{ds:List PyData}(h:Dh H v (.tuple ds)):∃A xs,v= .ref A/\H A=some (.tup xs)/\Dhs H xs ds:=by cases h with |tup h1 h2=>exact⟨_,_,rfl,h1,h2⟩
theorem AI{ta tb:TE}{ds es:List PyData}(ha:Rd1 ta σ H0 (.tuple ds))(hb:Rd1 tb σ H0 (.tuple es))(h1:ds≠[])(h2:es≠[])(hl:ds.length+es.length<=1000):Rd1 (tOp (yP K) ta tb) σ H0 (.tuple (ds++es)):=fun H Q s q=>
 ha H _ s fun v H1 hv s1=>hb H1 _ (s.trans s1) fun u H2 hu s2=>by
  obtain⟨A,xs,rfl,g1,g2⟩:=xj hv
  obtain⟨B,ys,rfl,g3,g4⟩:=xj hu
  have e1:=g2.length
  have e2:=g4.length
  refine⟨A,B,xs,ys,rfl,rfl,SqT.of (s2 _ _ g1),SqT.of g3,fun z=>?_,small_of (by omega),fun z=>?_,fun _ p hp=>?_⟩
  ·rw[z] at e1
   exact h1 (List.length_eq_zero_iff.mp e1.symm)
  ·rw[z] at e2
   exact absurd (List.length_eq_zero_iff.mp e2.symm) h2
  ·have S:=(Same.refl H2).new (o:= .tup (xs++ys)) hp
   exact q _ _ (.tup upd_same ((Dhs.app (g2.same s2.d) g4).same S.d)) ((s1.trans s2).trans S)
def RdF(t:TE)(σ:St)(H0:Hp)(es:List PyData):Prop:=∀H Q,Same H0 H->(∀r xs H',H r=none->H' r=some (.lst xs)->Dhs H' xs es->Same H H'->Q (.ref r) H')->t σ H Q
end
end Fb
end
section
set_option maxHeartbeats 2000000
namespace L2
open PySem PySem.Spec PyProof.Rows
section
variable {X : Cx}
theorem ik(hc:X.calm=true):ic X (.type "list") (fun xs H Q=>∃(d:Addr) (kvs:List (Key×V)) (ss:List Str),xs=[V.ref d]/\H d=some (.dK kvs)/\kvs.map (·.1)=ss.map (fun x=>(Sum.inr x:Key))/\∀l,H l=none->Q (.ref l) (upd H l (.lst (ss.map V.str)))):=by
 intro pins s σ H xs us Q I r h
 obtain⟨d,kvs,ss,rfl,hd,hk,q⟩:=h
 obtain⟨u,rfl,ru⟩:=vals1 r
 obtain rfl:u=Value.ref d:=ru
 obtain⟨z,hsm,vs,rel,dd⟩:=mz I.hok hd
 obtain⟨ep,hat⟩:=dd.dictAt
 have hkv:vs.map (·.1)=kvs.map (·.1):=by
  clear hat dd z hk hd
  induction rel with
  |nil=>rfl
  |cons h _ ih=>rw[List.map_cons,List.map_cons,ih,h.1]
 have hlv:kvs.length=ss.length:=by
  have:=congrArg List.length hk
  simpa using this
 refine PySem.W.kdl_call (PySem.W.kdl_dict (knd:=aQ X.prog X.w) (kvs:=vs) (ep:=ep) hsm) (I.ok.hd hc) hat (by rw[<-rel.length];exact z) fun h' tk acc c kp hD hacc=>?_
 have hS:StrsAre acc.toList ss:=kG (P:=X.prog) (w:=X.w) (hkv.trans hk) (by rw[Array.length_toList];exact hacc.1) fun j v e=>hacc.2 j v (by rw[<-Array.getElem?_toList];exact e)
 exact⟨.ref s.heap.objs.size,_,I.laid (t':=tk) kp (Nat.le_refl _) (show ba X.prog X.w _ h' _ (.lst (ss.map V.str)) from⟨by rw[List.length_map,<-hlv];exact z,acc.toList,c,mh hS,by simpa using hD⟩),rfl,q _ I.fresh⟩
end
end L2
end
section
set_option maxHeartbeats 2000000
namespace Fb
open PySem L2
def C8:Option Int->PyData
 |none=> .none
 |some w=> .int w
section
variable {σ : St} {H H0 : Hp} {K : PySem.W.Frag} {D : Addr} {G : Str → Addr} {ns : List Str} {f : Str → Option Y.Q} {n : Str} {q : Y.Q}
theorem vL{t:TE}{o:Option Int}(h:Rd1 t σ H0 (C8 o)):Rd1 (tNotN t) σ H0 (.bool (!decide (o=none))):=fun H Q s q'=>h H _ s fun v H1 hv s1=>by
 cases o with
 |none=>
  obtain rfl:v= .non:=by cases hv;rfl
  exact q' _ H1 (.bl _) s1
 |some w=>
  obtain rfl:=bf hv
  exact q' _ H1 (.bl _) s1
end
end Fb
end
section
set_option maxHeartbeats 2000000
namespace Fb
open PySem L2
section
variable {σ : St} {H H0 : Hp} {K : PySem.W.Frag} {D : Addr} {G : Str → Addr} {ns : List Str} {f : Str → Option Y.Q}
theorem wL{ta:TE}{xs ss:List Str}(ha:Rd1 ta σ H0 (.list (xs.map .str)))(h64:xs.length<64)(hp:∀ss':List Str,ss'.Perm xs->PyProof.Rows.sortedS ss'=true->ss'=ss):RdF (tCB (fun ys H Q=>∃a ss,ys=[V.ref a]/\SqL K H a (ss.map V.str)/\ss.length<64/\∀l ss',H l=none->ss'.Perm ss->PyProof.Rows.sortedS ss'=true->Q (.ref l) (upd H l (.lst (ss'.map V.str)))) (tCons ta tNil)) σ H0 (ss.map .str):=fun H Q s q=>
 ha H _ s fun v H1 hv s1=>by
  obtain⟨A,ys,rfl,h2,h3⟩:=cc hv
  have e:ys=xs.map V.str:=by
   rw[eD h3 (by simp[mK]),List.map_map]
   rfl
  subst e
  refine⟨A,xs,rfl,SqL.of h2,h64,fun l ss' hl p so=>?_⟩
  obtain rfl:=hp ss' p so
  have S:=(Same.refl H1).new (o:= .lst (ss'.map V.str)) hl
  exact q _ _ _ (s1.free hl) upd_same (jC _) (s1.trans S)
theorem Cw{ts:TE}{tb:TS}{Dn:Ends}{j:Nat}{A:Addr}{o:HO}{ss:List Str}(Pv:Nat->St->Hp->Prop)(hA:H A=some o)(h:RdF ts σ H (ss.map .str))(h0:∀H1,Same H H1->Pv 0 σ H1)
  (hs:∀(i:Nat) x σ' H' (D':Ends),ss[i]?=some x->Pv i σ' H'->D'.rt=Dn.rt->(∀σ2 H2,Pv (i+1) σ2 H2->(∀b o,H' b=some o->b≠A->H2 b=some o)->D'.nx σ2 H2)->tb D' (σ'.set j (some (.str x))) H')
  (q':∀σ' H',Pv ss.length σ' H'->Dn.nx σ' H'):tForG (iList K ts) (gName j) tb Dn σ H:=
 h H _ (Same.refl H) fun B xs H1 hB0 hB1 hxs s1=>by
  have hBA:B≠A:=fun z=>by rw[z,hA] at hB0;cases hB0
  have e:xs=ss.map V.str:=by
   rw[eD hxs (by simp[mK]),List.map_map]
   rfl
  subst e
  refine⟨B,rfl,⟨_,SqL.of hB1⟩,?_⟩
  refine bR (xs:=ss.map V.str) (fun i σ' H'=>Pv i σ' H'/\(∀b o,H1 b=some o->b≠A->H' b=some o)) ⟨h0 H1 s1,fun _ _ e _=>e⟩ (fun i σ' H' _ pv=>aR.list (SqL.of (pv.2 B _ hB1 hBA))) ?_ ?_
  ·rintro i v σ' H' hv ⟨pv,kp⟩
   rw[List.getElem?_map] at hv
   obtain⟨x,hx,rfl⟩:=Option.map_eq_some_iff.mp hv
   exact hs i x σ' H' _ hx pv rfl fun σ2 H2 p2 k2=>⟨p2,fun b o e n=>k2 b o (kp b o e n) n⟩
  ·rintro σ' H' ⟨pv,kp⟩
   rw[List.length_map] at pv
   exact q' σ' H' pv
end
end Fb
end
section
set_option maxHeartbeats 2000000
namespace Fb
namespace Y
variable {N : Type} [DecidableEq N]
end Y
end Fb
end
section
set_option maxHeartbeats 2000000
namespace Fb
open PySem L2
open Y
inductive Pc where
 |y |o |u |c |t
 |cd (i:Nat)
 |td (n:Str)
 |ln (n:Str)
 deriving DecidableEq
def Pc.val(p:Pl)(ns:List Str):Pc->Prop
 | .cd i=>i<p.count
 | .td n=>n∈ns
 | .ln n=>n∈ns
 |_=>True
section
variable (a b c d e f x : V)
def yv:List (Key×V):=[(.inr (Str.ofString "plan"),a),(.inr (Str.ofString "time"),b),(.inr (Str.ofString "offsets"),c),(.inr (Str.ofString "up"),d),(.inr (Str.ofString "copies"),e),(.inr (Str.ofString "things"),f)]
theorem AX:valV (yv a b c d e f) (Sum.inr (Str.ofString "plan"))=some a:=by kernel_rfl
theorem AY:valV (yv a b c d e f) (Sum.inr (Str.ofString "time"))=some b:=by kernel_rfl
theorem uU:valV (yv a b c d e f) (Sum.inr (Str.ofString "offsets"))=some c:=by kernel_rfl
theorem CZ:valV (yv a b c d e f) (Sum.inr (Str.ofString "up"))=some d:=by kernel_rfl
theorem wW:valV (yv a b c d e f) (Sum.inr (Str.ofString "copies"))=some e:=by kernel_rfl
theorem lu:valV (yv a b c d e f) (Sum.inr (Str.ofString "things"))=some f:=by kernel_rfl
theorem tE:putK (yv a b c d e f) (Sum.inr (Str.ofString "time")) x=yv a x c d e f:=by kernel_rfl
def tv:List (Key×V):=[(.inr (Str.ofString "keeper"),a),(.inr (Str.ofString "value"),b),(.inr (Str.ofString "version"),c),(.inr (Str.ofString "lent"),d),(.inr (Str.ofString "waiting"),e),(.inr (Str.ofString "quiet"),f)]
theorem wV:valV (tv a b c d e f) (Sum.inr (Str.ofString "keeper"))=some a:=by kernel_rfl
theorem zm:valV (tv a b c d e f) (Sum.inr (Str.ofString "value"))=some b:=by kernel_rfl
theorem uR:valV (tv a b c d e f) (Sum.inr (Str.ofString "version"))=some c:=by kernel_rfl
theorem AV:valV (tv a b c d e f) (Sum.inr (Str.ofString "lent"))=some d:=by kernel_rfl
theorem uS:valV (tv a b c d e f) (Sum.inr (Str.ofString "waiting"))=some e:=by kernel_rfl
theorem zl:valV (tv a b c d e f) (Sum.inr (Str.ofString "quiet"))=some f:=by kernel_rfl
theorem sf:putK (tv a b c d e f) (Sum.inr (Str.ofString "value")) x=tv a x c d e f:=by kernel_rfl
theorem oC:putK (tv a b c d e f) (Sum.inr (Str.ofString "version")) x=tv a b x d e f:=by kernel_rfl
theorem tp:putK (tv a b c d e f) (Sum.inr (Str.ofString "lent")) x=tv a b c x e f:=by kernel_rfl
theorem oE:putK (tv a b c d e f) (Sum.inr (Str.ofString "waiting")) x=tv a b c d x f:=by kernel_rfl
theorem se:putK (tv a b c d e f) (Sum.inr (Str.ofString "quiet")) x=tv a b c d e x:=by kernel_rfl
end
def AA:Option Int->List V
 |none=>[]
 |some w=>[.int w]
def Imm(H:Hp)(p:Pl)(ns:List Str)(adr:Pc->Addr)(w:Addr)(o:Option Int):Prop:=H w=some (.lst (AA o))/\∀x,x.val p ns->adr x≠w
structure CopL (H:Hp) (kvs:List (Key×V)) (ns:List Str) (f:Str->Option Cp):Prop where
 nd:(kvs.map (·.1)).Nodup
 ks:∀kv∈kvs,∃n,kv.1=Sum.inr n/\n∈ns
 no:∀n,f n=none->valV kvs (Sum.inr n)=none
 so:∀n x,f n=some x->∃a,valV kvs (Sum.inr n)=some (.ref a)/\H a=some (.tup [.int x.value,.int x.version,.int x.till])
def At(H:Hp)(adr:Pc->Addr)(P:Addr)(p:Pl)(ns:List Str)(s:S Str):Pc->Prop
 | .y=>H (adr .y)=some (.dK (yv (.ref P) (.int s.time) (.ref (adr .o)) (.ref (adr .u)) (.ref (adr .c)) (.ref (adr .t))))
 | .o=>H (adr .o)=some (.lst ((List.range p.count).map fun(i:Nat)=> .int (s.off (i:Int))))
 | .u=>H (adr .u)=some (.lst ((List.range p.count).map fun(i:Nat)=> .bl (s.up (i:Int))))
 | .c=>H (adr .c)=some (.lst ((List.range p.count).map fun(i:Nat)=> .ref (adr (.cd i))))
 | .t=>H (adr .t)=some (.dK (ns.map fun n=>((Sum.inr n:Key),V.ref (adr (.td n)))))
 | .cd i=>∃kvs,H (adr (.cd i))=some (.dK kvs)/\CopL H kvs ns (s.cp (i:Int))
 | .td n=>∀t,s.th n=some t->∃wa qa,H (adr (.td n))=some (.dK (tv (.int t.keeper) (.int t.value) (.int t.version) (.ref (adr (.ln n))) (.ref wa) (.ref qa)))/\Imm H p ns adr wa t.waiting/\Imm H p ns adr qa t.quiet
 | .ln n=>∀t,s.th n=some t->∃kvs,H (adr (.ln n))=some (.dK kvs)/\NoteR p kvs t.lent
structure Lw (H0 H:Hp) (adr:Pc->Addr) (P:Addr) (p:Pl) (ns:List Str) (s:S Str):Prop where
 inj:∀x x',x.val p ns->x'.val p ns->adr x=adr x'->x=x'
 new:∀x,x.val p ns->H0 (adr x)=none
 all:Same H0 H
 nd:ns.Nodup
 dom:∀n,n∈ns↔(s.th n).isSome=true
 at':∀x,x.val p ns->At H adr P p ns s x
 kp:∀n t,s.th n=some t->isDesk p t.keeper=true
def Agree(p:Pl)(s s':S Str):Pc->Prop
 | .y=>s'.time=s.time
 | .o=>∀i:Nat,i<p.count->s'.off (i:Int)=s.off (i:Int)
 | .u=>∀i:Nat,i<p.count->s'.up (i:Int)=s.up (i:Int)
 | .c=>True
 | .t=>True
 | .cd i=>s'.cp (i:Int)=s.cp (i:Int)
 | .td n=>∀t',s'.th n=some t'->∃t,s.th n=some t/\t'.keeper=t.keeper/\t'.value=t.value/\t'.version=t.version/\t'.waiting=t.waiting/\t'.quiet=t.quiet
 | .ln n=>∀t',s'.th n=some t'->∃t,s.th n=some t/\t'.lent=t.lent
section
variable {H0 H H' : Hp} {adr : Pc → Addr} {P : Addr} {p : Pl} {ns : List Str} {s s' : S Str}
theorem CopL.mono{kvs:List (Key×V)}{f:Str->Option Cp}(h:CopL H kvs ns f)(k:∀b xs,H b=some (.tup xs)->H' b=some (.tup xs)):CopL H' kvs ns f:=
 ⟨h.nd,h.ks,h.no,fun n x e=>let ⟨a,h1,h2⟩:=h.so n x e;⟨a,h1,k a _ h2⟩⟩
theorem Agree.refl(x:Pc):Agree p s s x:=by
 cases x with
 |y=>rfl
 |o=>exact fun _ _=>rfl
 |u=>exact fun _ _=>rfl
 |c=>trivial
 |t=>trivial
 |cd i=>rfl
 |td n=>exact fun t h=>⟨t,h,rfl,rfl,rfl,rfl,rfl⟩
 |ln n=>exact fun t h=>⟨t,h,rfl⟩
theorem At.keep{x:Pc}(h:At H adr P p ns s x)(ag:Agree p s s' x)(k:∀o,H (adr x)=some o->H' (adr x)=some o)(kt:∀b xs,H b=some (.tup xs)->H' b=some (.tup xs))(ki:∀w xs,H w=some (.lst xs)->(∀x,x.val p ns->adr x≠w)->H' w=some (.lst xs)):At H' adr P p ns s' x:=by
 cases x with
 |y=>
  show H' _=_
  rw[show s'.time=s.time from ag]
  exact k _ h
 |o=>
  show H' _=_
  rw[List.map_congr_left fun(i:Nat) hi=>by rw[show s'.off (i:Int)=s.off (i:Int) from ag i (List.mem_range.mp hi)]]
  exact k _ h
 |u=>
  show H' _=_
  rw[List.map_congr_left fun(i:Nat) hi=>by rw[show s'.up (i:Int)=s.up (i:Int) from ag i (List.mem_range.mp hi)]]
  exact k _ h
 |c=>exact k _ h
 |t=>exact k _ h
 |cd i=>
  obtain⟨kvs,h1,h2⟩:=h
  refine⟨kvs,k _ h1,?_⟩
  rw[show s'.cp (i:Int)=s.cp (i:Int) from ag]
  exact h2.mono kt
 |td n=>
  intro t' ht'
  obtain⟨t,ht,e1,e2,e3,e4,e5⟩:=ag t' ht'
  obtain⟨wa,qa,h1,h2,h3⟩:=h t ht
  refine⟨wa,qa,?_,?_,?_⟩
  ·rw[e1,e2,e3];exact k _ h1
  ·rw[e4];exact⟨ki _ _ h2.1 h2.2,h2.2⟩
  ·rw[e5];exact⟨ki _ _ h3.1 h3.2,h3.2⟩
 |ln n=>
  intro t' ht'
  obtain⟨t,ht,e1⟩:=ag t' ht'
  obtain⟨kvs,h1,h2⟩:=h t ht
  exact⟨kvs,k _ h1,by rw[e1];exact h2⟩
theorem Lw.same(L:Lw H0 H adr P p ns s)(k:Same H H'):Lw H0 H' adr P p ns s:=
 ⟨L.inj,L.new,L.all.trans k,L.nd,L.dom,fun x hx=>(L.at' x hx).keep (Agree.refl x) (fun o e=>k _ _ e) (fun b xs e=>k _ _ e) fun w xs e _=>k _ _ e,L.kp⟩
theorem Lw.mem(L:Lw H0 H adr P p ns s){n:Str}{t:Th}(h:s.th n=some t):n∈ns:=(L.dom n).mpr (by rw[h];rfl)
theorem Lw.has(L:Lw H0 H adr P p ns s){x:Pc}(hx:x.val p ns):∃o,H (adr x)=some o/\∀xs,o≠ .tup xs:=by
 have h:=L.at' x hx
 cases x with
 |y=>exact⟨_,h,fun xs z=>(nomatch z)⟩
 |o=>exact⟨_,h,fun xs z=>(nomatch z)⟩
 |u=>exact⟨_,h,fun xs z=>(nomatch z)⟩
 |c=>exact⟨_,h,fun xs z=>(nomatch z)⟩
 |t=>exact⟨_,h,fun xs z=>(nomatch z)⟩
 |cd i=>obtain⟨kvs,h1,_⟩:=h;exact⟨_,h1,fun xs z=>(nomatch z)⟩
 |td n=>
  obtain⟨t,ht⟩:=Option.isSome_iff_exists.mp ((L.dom n).mp hx)
  obtain⟨wa,qa,h1,_⟩:=h t ht
  exact⟨_,h1,fun xs z=>(nomatch z)⟩
 |ln n=>
  obtain⟨t,ht⟩:=Option.isSome_iff_exists.mp ((L.dom n).mp hx)
  obtain⟨kvs,h1,_⟩:=h t ht
  exact⟨_,h1,fun xs z=>(nomatch z)⟩
theorem Lw.put(L:Lw H0 H adr P p ns s){x0:Pc}(hv:x0.val p ns)(hk:∀b o,H b=some o->b≠adr x0->H' b=some o)(ag:∀x,x.val p ns->x≠x0->Agree p s s' x)(ok:At H' adr P p ns s' x0)(dom:∀n,(s'.th n).isSome=(s.th n).isSome)(kp:∀n t,s'.th n=some t->isDesk p t.keeper=true):Lw H0 H' adr P p ns s':=by
 refine⟨L.inj,L.new,fun b o e=>hk b o (L.all b o e) (aq e (L.new x0 hv)),L.nd,fun n=>by rw[dom n];exact L.dom n,fun x hx=>?_,kp⟩
 by_cases z:x=x0
 ·rw[z];exact ok
 ·obtain⟨o0,ho,hnt⟩:=L.has hv
  exact(L.at' x hx).keep (ag x hx z) (fun o e=>hk _ _ e fun y=>z (L.inj x x0 hx hv y)) (fun b xs e=>hk _ _ e (cu e ho fun y=>hnt xs y.symm)) fun w xs e h=>hk _ _ e (h x0 hv).symm
end
end Fb
end
section
set_option maxHeartbeats 2000000
namespace Fb
open PySem L2
section
variable {σ : St} {H H0 H1 : Hp} {K : PySem.W.Frag}
def Ev(t:TE)(σ:St)(H0:Hp)(v:V):Prop:=∀H Q,Same H0 H->(∀H',Same H H'->Q v H')->t σ H Q
theorem am{i:Nat}{v:V}(h:σ[i]?=some (some v)):Ev (tVar i) σ H0 v:=fun H Q _ q=>⟨v,h,q H (Same.refl H)⟩
theorem cr{v:V}:Ev (tC v) σ H0 v:=fun H Q _ q=>q H (Same.refl H)
theorem Ev.rd{t:TE}{v:V}{d:PyData}(h:Ev t σ H0 v)(hd:Dh H0 v d):Rd1 t σ H0 d:=fun H Q s q=>h H _ s fun H1 s1=>q v H1 (hd.same (s.trans s1).d) s1
theorem yU{t:TE}{d:PyData}(h:Rd1 t σ H0 d)(hs:mK d=true):Ev t σ H0 (scV d):=fun H Q s q=>h H _ s fun v H1 hv s1=>by
 obtain rfl:=dr hv hs
 exact q H1 s1
theorem fJ{t:TE}{i:Int}(h:Rd1 t σ H0 (.int i)):Ev t σ H0 (.int i):=yU h rfl
theorem tU{t:TE}{x:Str}(h:Rd1 t σ H0 (.str x)):Ev t σ H0 (.str x):=yU h rfl
theorem bJ{td tk:TE}{a:Addr}{k:Key}{kvs:List (Key×V)}{v:V}(h:Ev td σ H0 (.ref a))(hk:Ev tk σ H0 (kV k))(ha:H0 a=some (.dK kvs))(hv:valV kvs k=some v):Ev (tDGet td tk) σ H0 v:=fun H Q s q=>
 h H _ s fun H1 s1=>hk H1 _ (s.trans s1) fun H2 s2=>⟨a,v,rfl,by
  have:=gb.k (k:=k) ((s.trans (s1.trans s2)) _ _ ha)
  rw[hv] at this
  exact this,q H2 (s1.trans s2)⟩
theorem mD{ts te:TE}{a:Addr}{i:Int}{xs:List V}{v:V}(h:Ev ts σ H0 (.ref a))(he:Ev te σ H0 (.int i))(ha:H0 a=some (.lst xs))(hv:atI xs i=some v):Ev (tOp (iI K) ts te) σ H0 v:=fun H Q s q=>
 h H _ s fun H1 s1=>he H1 _ (s.trans s1) fun H2 s2=>fg (SqL.of ((s.trans (s1.trans s2)) _ _ ha)) hv (q H2 (s1.trans s2))
theorem kD{ts te:TE}{a:Addr}{i:Int}{xs:List V}{v:V}(h:Ev ts σ H0 (.ref a))(he:Ev te σ H0 (.int i))(ha:H0 a=some (.tup xs))(hv:atI xs i=some v):Ev (tOp (eF K) ts te) σ H0 v:=fun H Q s q=>
 h H _ s fun H1 s1=>he H1 _ (s.trans s1) fun H2 s2=>ge (SqT.of ((s.trans (s1.trans s2)) _ _ ha)) hv (q H2 (s1.trans s2))
theorem Bt{ty td:TE}{a:Addr}{k:Key}{kvs:List (Key×V)}(hy:Ev ty σ H0 (kV k))(h:Ev td σ H0 (.ref a))(ha:H0 a=some (.dK kvs)):Ev (tDIn ty td) σ H0 (.bl (valV kvs k).isSome):=fun H Q s q=>
 hy H _ s fun H1 s1=>h H1 _ (s.trans s1) fun H2 s2=>⟨a,_,rfl,gb.k (k:=k) ((s.trans (s1.trans s2)) _ _ ha),q H2 (s1.trans s2)⟩
theorem dU{t:TE}{v:V}{i:Nat}{Dn:Ends}(h:Ev t σ H v)(nx:∀H',Same H H'->Dn.nx (σ.set i (some v)) H'):tAsg t (gName i) Dn σ H:=h H _ (Same.refl H) nx
theorem kE{t:TE}{v:V}{Dn:Ends}(h:Ev t σ H v)(nx:∀H',Same H H'->Dn.rt v H'):tRet t Dn σ H:=h H _ (Same.refl H) nx
def EvN(t:TE)(σ:St)(H0:Hp)(o:HO):Prop:=∀H Q,Same H0 H->(∀r H',H r=none->H' r=some o->Same H H'->Q (.ref r) H')->t σ H Q
theorem jG:EvN (tLst tNil) σ H0 (.lst []):=fun H Q _ q=>⟨small_of (by decide),fun p hp=>q p _ hp upd_same ((Same.refl H).new hp)⟩
theorem jF:EvN tDNewK σ H0 (.dK []):=fun H Q _ q p hp=>q p _ hp upd_same ((Same.refl H).new hp)
theorem vb{t:TE}{v:V}(h:Ev t σ H0 v):EvN (tLst (tCons t tNil)) σ H0 (.lst [v]):=fun H Q s q=>
 h H _ s fun H1 s1=>⟨small_of (Nat.le_of_ble_eq_true rfl),fun p hp=>q p _ (s1.free hp) upd_same (s1.trans ((Same.refl H1).new hp))⟩
theorem xr{ta tb tc:TE}{x y z:V}(ha:Ev ta σ H0 x)(hb:Ev tb σ H0 y)(hc:Ev tc σ H0 z):EvN (tTup (tCons ta (tCons tb (tCons tc tNil)))) σ H0 (.tup [x,y,z]):=fun H Q s q=>
 ha H _ s fun H1 s1=>hb H1 _ (s.trans s1) fun H2 s2=>hc H2 _ ((s.trans s1).trans s2) fun H3 s3=>⟨small_of (Nat.le_of_ble_eq_true rfl),fun p hp=>q p _ ((s1.trans (s2.trans s3)).free hp) upd_same ((s1.trans (s2.trans s3)).trans ((Same.refl H3).new hp))⟩
theorem tS{td tk tv:TE}{a:Addr}{k:Key}{kvs:List (Key×V)}{v:V}{Dn:Ends}(hv:Ev tv σ H v)(h:Ev td σ H (.ref a))(hk:Ev tk σ H (kV k))(ha:H a=some (.dK kvs))(hl:kvs.length<=1000)(nx:∀H',Same H H'->Dn.nx σ (upd H' a (.dK (putK kvs k v)))):sDPut td tk tv Dn σ H:=
 hv H _ (Same.refl H) fun H1 s1=>h H1 _ s1 fun H2 s2=>hk H2 _ (s1.trans s2) fun H3 s3=>⟨a,_,rfl,lH.k (k:=k) ((s1.trans (s2.trans s3)) _ _ ha) (bu hl),nx H3 (s1.trans (s2.trans s3))⟩
theorem gc{td tk tv:TE}{a:Addr}{k:Key}{kvs:List (Key×V)}{o:HO}{Dn:Ends}(hv:EvN tv σ H o)(h:Ev td σ H (.ref a))(hk:Ev tk σ H (kV k))(ha:H a=some (.dK kvs))(hl:kvs.length<=1000)(nx:∀r H',H r=none->H' r=some o->Same H H'->Dn.nx σ (upd H' a (.dK (putK kvs k (.ref r))))):sDPut td tk tv Dn σ H:=
 hv H _ (Same.refl H) fun r H1 hr0 hr1 s1=>h H1 _ s1 fun H2 s2=>hk H2 _ (s1.trans s2) fun H3 s3=>⟨a,_,rfl,lH.k (k:=k) ((s1.trans (s2.trans s3)) _ _ ha) (bu hl),nx r H3 hr0 (s3 _ _ (s2 _ _ hr1)) (s1.trans (s2.trans s3))⟩
theorem va{ts te tv:TE}{a:Addr}{i:Nat}{xs:List V}{v:V}{Dn:Ends}(hv:Ev tv σ H v)(h:Ev ts σ H (.ref a))(he:Ev te σ H (.int (i:Int)))(ha:H a=some (.lst xs))(hi:i<xs.length)(nx:∀H',Same H H'->Dn.nx σ (upd H' a (.lst (xs.set i v)))):tAsg tv (we ts te pO) Dn σ H:=
 hv H _ (Same.refl H) fun H1 s1=>h H1 _ s1 fun H2 s2=>he H2 _ (s1.trans s2) fun H3 s3=>⟨a,xs,(i:Int),i,rfl,rfl,(s1.trans (s2.trans s3)) _ _ ha,by unfold ixN;rw[if_pos (by omega),if_pos (by omega)];simp,nx H3 (s1.trans (s2.trans s3))⟩
theorem xq{ts te tv:TE}{a:Addr}{i:Nat}{xs:List V}{o:HO}{Dn:Ends}(hv:EvN tv σ H o)(h:Ev ts σ H (.ref a))(he:Ev te σ H (.int (i:Int)))(ha:H a=some (.lst xs))(hi:i<xs.length)(nx:∀r H',H r=none->H' r=some o->Same H H'->Dn.nx σ (upd H' a (.lst (xs.set i (.ref r))))):tAsg tv (we ts te pO) Dn σ H:=
 hv H _ (Same.refl H) fun r H1 hr0 hr1 s1=>h H1 _ s1 fun H2 s2=>he H2 _ (s1.trans s2) fun H3 s3=>⟨a,xs,(i:Int),i,rfl,rfl,(s1.trans (s2.trans s3)) _ _ ha,by unfold ixN;rw[if_pos (by omega),if_pos (by omega)];simp,nx r H3 hr0 (s3 _ _ (s2 _ _ hr1)) (s1.trans (s2.trans s3))⟩
theorem iu{t:TE}{b:Bool}(h:Ev t σ H0 (.bl b)):RdT (tB t) σ H0 b:=fun H Q s q=>h H _ s fun H1 s1=>⟨b,rfl,q H1 s1⟩
end
end Fb
end
section
set_option maxHeartbeats 2000000
namespace Fb
open PySem L2
open Y
section
variable {H0 H H' : Hp} {adr : Pc → Addr} {P : Addr} {p : Pl} {ns : List Str} {s : S Str}
theorem Lw.setTime(L:Lw H0 H adr P p ns s)(v:Int):Lw H0 (upd H (adr .y) (.dK (yv (.ref P) (.int v) (.ref (adr .o)) (.ref (adr .u)) (.ref (adr .c)) (.ref (adr .t))))) adr P p ns {s with time:=v}:=
 L.put (x0:= .y) trivial (fun b o e n=>by rw[aj n];exact e) (fun x _ hne=>by
  cases x with
  |y=>exact absurd rfl hne
  |o=>exact fun _ _=>rfl
  |u=>exact fun _ _=>rfl
  |c=>trivial
  |t=>trivial
  |cd i=>rfl
  |td n=>exact fun t h=>⟨t,h,rfl,rfl,rfl,rfl,rfl⟩
  |ln n=>exact fun t h=>⟨t,h,rfl⟩) upd_same (fun _=>rfl) L.kp
theorem jN{α:Type}(n:Nat)(f:Int->α)(i:Nat)(v:α):((List.range n).map fun(j:Nat)=>f (j:Int)).set i v=(List.range n).map fun(j:Nat)=>set1 f (i:Int) v (j:Int):=by
 apply List.ext_getElem
 ·simp
 ·intro j h1 h2
  simp only[List.getElem_set,List.getElem_map,List.getElem_range]
  by_cases z:i=j
  ·subst z;rw[if_pos rfl,ai]
  ·rw[if_neg z,ao fun y=>z (by omega)]
theorem Lw.setOff(L:Lw H0 H adr P p ns s)(i:Nat)(v:Int):Lw H0 (upd H (adr .o) (.lst (((List.range p.count).map fun(j:Nat)=>V.int (s.off (j:Int))).set i (.int v)))) adr P p ns {s with off:=set1 s.off (i:Int) v}:=by
 refine L.put (x0:= .o) trivial (fun b o e n=>by rw[aj n];exact e) (fun x _ hne=>?_) ?_ (fun _=>rfl) L.kp
 ·cases x with
  |y=>rfl
  |o=>exact absurd rfl hne
  |u=>exact fun _ _=>rfl
  |c=>trivial
  |t=>trivial
  |cd i=>rfl
  |td n=>exact fun t h=>⟨t,h,rfl,rfl,rfl,rfl,rfl⟩
  |ln n=>exact fun t h=>⟨t,h,rfl⟩
 ·show upd _ _ _ _=_
  rw[upd_same,jN p.count (fun d=>V.int (s.off d)) i (.int v)]
  congr 3
  funext j
  show set1 (fun d=>V.int (s.off d)) (i:Int) (.int v) (j:Int)=V.int (set1 s.off (i:Int) v (j:Int))
  by_cases z:(j:Int)=(i:Int)
  ·rw[z,ai,ai]
  ·rw[ao z,ao z]
theorem Lw.setUp(L:Lw H0 H adr P p ns s)(i:Nat)(v:Bool):Lw H0 (upd H (adr .u) (.lst (((List.range p.count).map fun(j:Nat)=>V.bl (s.up (j:Int))).set i (.bl v)))) adr P p ns {s with up:=set1 s.up (i:Int) v}:=by
 refine L.put (x0:= .u) trivial (fun b o e n=>by rw[aj n];exact e) (fun x _ hne=>?_) ?_ (fun _=>rfl) L.kp
 ·cases x with
  |y=>rfl
  |o=>exact fun _ _=>rfl
  |u=>exact absurd rfl hne
  |c=>trivial
  |t=>trivial
  |cd i=>rfl
  |td n=>exact fun t h=>⟨t,h,rfl,rfl,rfl,rfl,rfl⟩
  |ln n=>exact fun t h=>⟨t,h,rfl⟩
 ·show upd _ _ _ _=_
  rw[upd_same,jN p.count (fun d=>V.bl (s.up d)) i (.bl v)]
  congr 3
  funext j
  show set1 (fun d=>V.bl (s.up d)) (i:Int) (.bl v) (j:Int)=V.bl (set1 s.up (i:Int) v (j:Int))
  by_cases z:(j:Int)=(i:Int)
  ·rw[z,ai,ai]
  ·rw[ao z,ao z]
theorem Lw.setCd(L:Lw H0 H adr P p ns s){i:Nat}(hi:i<p.count){kvs:List (Key×V)}{f:Str->Option Cp}(hk:∀b o,H b=some o->b≠adr (.cd i)->H' b=some o)(h1:H' (adr (.cd i))=some (.dK kvs))(h2:CopL H' kvs ns f):Lw H0 H' adr P p ns {s with cp:=set1 s.cp (i:Int) f}:=by
 refine L.put (x0:= .cd i) hi hk (fun x hx hne=>?_) ⟨kvs,h1,by show CopL H' kvs ns (set1 s.cp (i:Int) f (i:Int));rw[ai];exact h2⟩ (fun _=>rfl) L.kp
 cases x with
 |y=>rfl
 |o=>exact fun _ _=>rfl
 |u=>exact fun _ _=>rfl
 |c=>trivial
 |t=>trivial
 |cd j=>
  show set1 s.cp (i:Int) f (j:Int)=_
  rw[ao fun z=>hne (by have:j=i:=(by omega);rw[this])]
 |td n=>exact fun t h=>⟨t,h,rfl,rfl,rfl,rfl,rfl⟩
 |ln n=>exact fun t h=>⟨t,h,rfl⟩
theorem Lw.setLn(L:Lw H0 H adr P p ns s){n:Str}{t:Th}(ht:s.th n=some t){kvs:List (Key×V)}{g:Int->Option Int}(hk:∀b o,H b=some o->b≠adr (.ln n)->H' b=some o)(h1:H' (adr (.ln n))=some (.dK kvs))(h2:NoteR p kvs g):Lw H0 H' adr P p ns {s with th:=set1 s.th n (some {t with lent:=g})}:=by
 refine L.put (x0:= .ln n) (L.mem ht) hk (fun x hx hne=>?_) (fun t' ht'=>?_) (fun m=>?_) fun m t' ht'=>?_
 ·cases x with
  |y=>rfl
  |o=>exact fun _ _=>rfl
  |u=>exact fun _ _=>rfl
  |c=>trivial
  |t=>trivial
  |cd j=>rfl
  |td m=>
   intro t' ht'
   have ht':set1 s.th n (some {t with lent:=g}) m=some t':=ht'
   by_cases z:m=n
   ·subst z
    rw[ai] at ht'
    cases ht'
    exact⟨t,ht,rfl,rfl,rfl,rfl,rfl⟩
   ·rw[ao z] at ht'
    exact⟨t',ht',rfl,rfl,rfl,rfl,rfl⟩
  |ln m=>
   intro t' ht'
   have ht':set1 s.th n (some {t with lent:=g}) m=some t':=ht'
   rw[ao fun z=>hne (by rw[z])] at ht'
   exact⟨t',ht',rfl⟩
 ·have ht':set1 s.th n (some {t with lent:=g}) n=some t':=ht'
  rw[ai] at ht'
  cases ht'
  exact⟨kvs,h1,h2⟩
 ·show(set1 s.th n _ m).isSome=_
  by_cases z:m=n
  ·rw[z,ai,ht];rfl
  ·rw[ao z]
 ·have ht':set1 s.th n (some {t with lent:=g}) m=some t':=ht'
  by_cases z:m=n
  ·subst z
   rw[ai] at ht'
   cases ht'
   exact L.kp m t ht
  ·rw[ao z] at ht'
   exact L.kp m t' ht'
theorem Lw.setTd(L:Lw H0 H adr P p ns s){n:Str}{t t2:Th}(ht:s.th n=some t)(hkp:t2.keeper=t.keeper)(hln:t2.lent=t.lent){wa qa:Addr}(hk:∀b o,H b=some o->b≠adr (.td n)->H' b=some o)(h1:H' (adr (.td n))=some (.dK (tv (.int t2.keeper) (.int t2.value) (.int t2.version) (.ref (adr (.ln n))) (.ref wa) (.ref qa))))(h2:Imm H' p ns adr wa t2.waiting)(h3:Imm H' p ns adr qa t2.quiet):Lw H0 H' adr P p ns {s with th:=set1 s.th n (some t2)}:=by
 refine L.put (x0:= .td n) (L.mem ht) hk (fun x hx hne=>?_) (fun t' ht'=>?_) (fun m=>?_) fun m t' ht'=>?_
 ·cases x with
  |y=>rfl
  |o=>exact fun _ _=>rfl
  |u=>exact fun _ _=>rfl
  |c=>trivial
  |t=>trivial
  |cd j=>rfl
  |td m=>
   intro t' ht'
   have ht':set1 s.th n (some t2) m=some t':=ht'
   rw[ao fun z=>hne (by rw[z])] at ht'
   exact⟨t',ht',rfl,rfl,rfl,rfl,rfl⟩
  |ln m=>
   intro t' ht'
   have ht':set1 s.th n (some t2) m=some t':=ht'
   by_cases z:m=n
   ·subst z
    rw[ai] at ht'
    cases ht'
    exact⟨t,ht,hln⟩
   ·rw[ao z] at ht'
    exact⟨t',ht',rfl⟩
 ·have ht':set1 s.th n (some t2) n=some t':=ht'
  rw[ai] at ht'
  cases ht'
  exact⟨wa,qa,h1,h2,h3⟩
 ·show(set1 s.th n _ m).isSome=_
  by_cases z:m=n
  ·rw[z,ai,ht];rfl
  ·rw[ao z]
 ·have ht':set1 s.th n (some t2) m=some t':=ht'
  by_cases z:m=n
  ·subst z
   rw[ai] at ht'
   cases ht'
   rw[hkp];exact L.kp m t ht
  ·rw[ao z] at ht'
   exact L.kp m t' ht'
theorem Lw.ne_new(L:Lw H0 H adr P p ns s){r:Addr}(hr:H r=none)(x:Pc)(hx:x.val p ns):adr x≠r:=fun z=>by
 obtain⟨o,ho,_⟩:=L.has hx
 rw[z,hr] at ho
 cases ho
def Pc.tells:Pc->Pc->Prop
 | .y,.o=>True
 | .y,.u=>True
 | .y,.c=>True
 | .y,.t=>True
 | .c,.cd _=>True
 | .t,.td _=>True
 | .td n,.ln m=>n=m
 |_,_=>False
theorem At.rebind{x x1:Pc}{r:Addr}{kvs:List (Key×V)}(h:At H adr P p ns s x)(hr:H r=some (.dK kvs))(hne:x≠x1)(nt:¬x.tells x1):At H (set1 adr x1 r) P p ns s x:=by
 have ad:∀y,y≠x1->set1 adr x1 r y=adr y:=fun y hy=>ao hy
 have im:∀{w:Addr} {o:Option Int},Imm H p ns adr w o->Imm H p ns (set1 adr x1 r) w o:=fun {w o} h=>⟨h.1,fun y hy=>by
  by_cases z:y=x1
  ·rw[z,ai]
   intro y
   have:=h.1
   rw[<-y,hr] at this
   cases this
  ·rw[ad y z];exact h.2 y hy⟩
 cases x with
 |y=>
  show H _=_
  rw[ad .y hne,ad .o fun z=>nt (by rw[<-z];trivial),ad .u fun z=>nt (by rw[<-z];trivial),ad .c fun z=>nt (by rw[<-z];trivial),ad .t fun z=>nt (by rw[<-z];trivial)]
  exact h
 |o=>show H _=_;rw[ad .o hne];exact h
 |u=>show H _=_;rw[ad .u hne];exact h
 |c=>
  show H _=_
  rw[ad .c hne,List.map_congr_left fun(i:Nat) _=>by rw[ad (.cd i) fun z=>nt (by rw[<-z];trivial)]]
  exact h
 |t=>
  show H _=_
  rw[ad .t hne,List.map_congr_left fun(n:Str) _=>by rw[ad (.td n) fun z=>nt (by rw[<-z];trivial)]]
  exact h
 |cd i=>
  obtain⟨kvs,h1,h2⟩:=h
  exact⟨kvs,by rw[ad _ hne];exact h1,h2⟩
 |td n=>
  intro t ht
  obtain⟨wa,qa,h1,h2,h3⟩:=h t ht
  refine⟨wa,qa,?_,im h2,im h3⟩
  rw[ad _ hne,ad (.ln n) fun z=>nt (by rw[<-z];exact rfl)]
  exact h1
 |ln n=>
  intro t ht
  obtain⟨kvs,h1,h2⟩:=h t ht
  exact⟨kvs,by rw[ad _ hne];exact h1,h2⟩
theorem Lw.rebind(L:Lw H0 H adr P p ns s){s':S Str}{x0 x1:Pc}{r:Addr}{kvs:List (Key×V)}(hv:x0.val p ns)(hr0:H r=none)(hk:∀b o,H b=some o->b≠adr x0->H' b=some o)(hr:H' r=some (.dK kvs))(ag:∀x,x.val p ns->x≠x0->x≠x1->Agree p s s' x)(nt:∀x,x≠x0->¬x.tells x1)(ok0:At H' (set1 adr x1 r) P p ns s' x0)(ok1:At H' (set1 adr x1 r) P p ns s' x1)(dom:∀n,(s'.th n).isSome=(s.th n).isSome)(kp:∀n t,s'.th n=some t->isDesk p t.keeper=true):Lw H0 H' (set1 adr x1 r) P p ns s':=by
 have h0:H0 r=none:=by
  cases e:H0 r with
  |none=>rfl
  |some o=>have:=L.all r o e;rw[hr0] at this;cases this
 refine⟨fun x x' hx hx' e=>?_,fun x hx=>?_,fun b o e=>hk b o (L.all b o e) (aq e (L.new x0 hv)),L.nd,fun n=>by rw[dom n];exact L.dom n,fun x hx=>?_,kp⟩
 ·by_cases z:x=x1
  ·by_cases z':x'=x1
   ·rw[z,z']
   ·rw[z,ai,ao z'] at e
    exact absurd e.symm (L.ne_new hr0 x' hx')
  ·by_cases z':x'=x1
   ·rw[z',ai,ao z] at e
    exact absurd e (L.ne_new hr0 x hx)
   ·rw[ao z,ao z'] at e
    exact L.inj x x' hx hx' e
 ·by_cases z:x=x1
  ·rw[z,ai];exact h0
  ·rw[ao z];exact L.new x hx
 ·by_cases z:x=x0
  ·rw[z];exact ok0
  ·by_cases z':x=x1
   ·rw[z'];exact ok1
   ·obtain⟨o0,ho,hnt⟩:=L.has hv
    exact((L.at' x hx).keep (ag x hx z z') (fun o e=>hk _ _ e fun y=>z (L.inj x x0 hx hv y)) (fun b xs e=>hk _ _ e (cu e ho fun y=>hnt xs y.symm)) fun w xs e h=>hk _ _ e (h x0 hv).symm).rebind hr z' (nt x z)
theorem Lw.newLn(L:Lw H0 H adr P p ns s){n:Str}{t:Th}(ht:s.th n=some t){r wa qa:Addr}{kvs:List (Key×V)}{g:Int->Option Int}(hr0:H r=none)(hs:Same H H')(hr:H' r=some (.dK kvs))(hg:NoteR p kvs g)(h2:Imm H p ns adr wa t.waiting)(h3:Imm H p ns adr qa t.quiet):
  Lw H0 (upd H' (adr (.td n)) (.dK (tv (.int t.keeper) (.int t.value) (.int t.version) (.ref r) (.ref wa) (.ref qa)))) (set1 adr (.ln n) r) P p ns {s with th:=set1 s.th n (some {t with lent:=g})}:=by
 have hn:=L.mem ht
 have hrn:=L.ne_new hr0 (.td n) hn
 have hr':upd H' (adr (.td n)) (.dK (tv (.int t.keeper) (.int t.value) (.int t.version) (.ref r) (.ref wa) (.ref qa))) r=some (.dK kvs):=by rw[aj hrn.symm];exact hr
 have im:∀{w:Addr} {o:Option Int},Imm H p ns adr w o->Imm (upd H' (adr (.td n)) (.dK (tv (.int t.keeper) (.int t.value) (.int t.version) (.ref r) (.ref wa) (.ref qa)))) p ns (set1 adr (.ln n) r) w o:=fun {w o} h=>by
  refine⟨by rw[aj (h.2 (.td n) hn).symm];exact hs _ _ h.1,fun x hx=>?_⟩
  by_cases z:x= .ln n
  ·rw[z,ai]
   intro y
   have:=h.1
   rw[<-y,hr0] at this
   cases this
  ·rw[ao z];exact h.2 x hx
 refine L.rebind (x0:= .td n) hn hr0 (fun b o e ne=>by rw[aj ne];exact hs _ _ e) hr' (fun x hx z z'=>?_) (fun x hx=>?_) (fun t' ht'=>?_) (fun t' ht'=>?_) (fun m=>?_) fun m t' ht'=>?_
 ·cases x with
  |y=>rfl
  |o=>exact fun _ _=>rfl
  |u=>exact fun _ _=>rfl
  |c=>trivial
  |t=>trivial
  |cd j=>rfl
  |td m=>
   intro t' ht'
   have ht':set1 s.th n (some {t with lent:=g}) m=some t':=ht'
   rw[ao fun y=>z (by rw[y])] at ht'
   exact⟨t',ht',rfl,rfl,rfl,rfl,rfl⟩
  |ln m=>
   intro t' ht'
   have ht':set1 s.th n (some {t with lent:=g}) m=some t':=ht'
   rw[ao fun y=>z' (by rw[y])] at ht'
   exact⟨t',ht',rfl⟩
 ·cases x with
  |td m=>exact fun y=>hx (by rw[show m=n from y])
  |_=>exact fun y=>y
 ·have ht':set1 s.th n (some {t with lent:=g}) n=some t':=ht'
  rw[ai] at ht'
  cases ht'
  refine⟨wa,qa,?_,im h2,im h3⟩
  rw[ao (show Pc.td n≠Pc.ln n from fun y=>nomatch y),ai,upd_same]
 ·have ht':set1 s.th n (some {t with lent:=g}) n=some t':=ht'
  rw[ai] at ht'
  cases ht'
  exact⟨kvs,by rw[ai];exact hr',hg⟩
 ·show(set1 s.th n _ m).isSome=_
  by_cases z:m=n
  ·rw[z,ai,ht];rfl
  ·rw[ao z]
 ·have ht':set1 s.th n (some {t with lent:=g}) m=some t':=ht'
  by_cases z:m=n
  ·subst z
   rw[ai] at ht'
   cases ht'
   exact L.kp m t ht
  ·rw[ao z] at ht'
   exact L.kp m t' ht'
theorem qP(n:Nat)(i:Nat)(r:Addr):((List.range n).map fun(j:Nat)=>V.ref (adr (.cd j))).set i (.ref r)=(List.range n).map fun(j:Nat)=>V.ref (set1 adr (.cd i) r (.cd j)):=by
 apply List.ext_getElem
 ·simp
 ·intro j h1 h2
  simp only[List.getElem_set,List.getElem_map,List.getElem_range]
  by_cases z:i=j
  ·subst z;rw[if_pos rfl,ai]
  ·rw[if_neg z,ao fun y=>z (by cases y;rfl)]
theorem Lw.newCd(L:Lw H0 H adr P p ns s){i:Nat}(hi:i<p.count){r:Addr}{f:Str->Option Cp}{kvs:List (Key×V)}(hr0:H r=none)(hs:Same H H')(hr:H' r=some (.dK kvs))(hg:CopL H' kvs ns f):
  Lw H0 (upd H' (adr .c) (.lst (((List.range p.count).map fun(j:Nat)=>V.ref (adr (.cd j))).set i (.ref r)))) (set1 adr (.cd i) r) P p ns {s with cp:=set1 s.cp (i:Int) f}:=by
 have hc:=L.at' .c trivial
 have hrn:=L.ne_new hr0 .c trivial
 have hr':upd H' (adr .c) (.lst (((List.range p.count).map fun(j:Nat)=>V.ref (adr (.cd j))).set i (.ref r))) r=some (.dK kvs):=by rw[aj hrn.symm];exact hr
 refine L.rebind (x0:= .c) trivial hr0 (fun b o e ne=>by rw[aj ne];exact hs _ _ e) hr' (fun x hx z z'=>?_) (fun x hx=>?_) ?_ ?_ (fun m=>rfl) L.kp
 ·cases x with
  |y=>rfl
  |o=>exact fun _ _=>rfl
  |u=>exact fun _ _=>rfl
  |c=>trivial
  |t=>trivial
  |cd j=>
   show set1 s.cp (i:Int) f (j:Int)=_
   rw[ao fun y=>z' (by have:j=i:=(by omega);rw[this])]
  |td m=>exact fun t h=>⟨t,h,rfl,rfl,rfl,rfl,rfl⟩
  |ln m=>exact fun t h=>⟨t,h,rfl⟩
 ·cases x with
  |c=>exact absurd rfl hx
  |_=>exact fun y=>y
 ·show upd _ _ _ _=_
  rw[ao (show Pc.c≠Pc.cd i from fun y=>nomatch y),upd_same,qP]
 ·refine⟨kvs,by rw[ai];exact hr',?_⟩
  show CopL _ kvs ns (set1 s.cp (i:Int) f (i:Int))
  rw[ai]
  exact hg.mono fun b xs e=>by rw[aj (cu e (hs _ _ hc) fun z=>nomatch z)];exact e
end
end Fb
end
section
set_option maxHeartbeats 2000000
namespace L2
open PySem PySem.Spec PyProof.Rows
section
variable {X : Cx}
theorem pG{P:Program}{w:World}:∀{ss:List Int} {vs:List (Key×Value)} {us:List Value},vs.map (·.1)=ss.map (fun x=>(Sum.inl x:Key))->us.length=vs.length->(∀(j:Nat) (v:Value),us[j]?=some v->∃k x,vs[j]?=some (k,x)/\(aQ P w).is k v=true)->Vals (ss.map V.int) us
 | [],[],[],_,_,_=> .nil
 |x::r,(k,y)::vs,u::us,hk,hl,hp=>by
  have hk1:k=Sum.inl x:=(List.cons.inj hk).1
  obtain⟨k',x',e1,e2⟩:=hp 0 u rfl
  have e1:(k,y)=(k',x'):=Option.some.inj e1
  cases e1
  rw[hk1] at e2
  have ih:=pG (P:=P) (w:=w) (ss:=r) (vs:=vs) (us:=us) (List.cons.inj hk).2 (by simpa using hl) fun j v e=>hp (j+1) v e
  have e3:ig (Sum.inl x) u=true:=e2
  cases u
  case int z t=>
   have:z=x:=by simpa [ig,Value.isInt] using e3
   rw[this]
   exact .cons ⟨t,rfl⟩ ih
  all_goals exact absurd e3 (by simp[ig,Value.isInt])
 | [],_::_,_,hk,_,_=>by cases hk
 |_::_,[],_,hk,_,_=>by cases hk
 | [],[],_::_,_,hl,_=>by cases hl
 |_::_,_::_,[],_,hl,_=>by cases hl
theorem lI(hc:X.calm=true):ic X (.type "list") (fun xs H Q=>∃(d:Addr) (kvs:List (Key×V)) (ss:List Int),xs=[V.ref d]/\H d=some (.dK kvs)/\kvs.map (·.1)=ss.map (fun x=>(Sum.inl x:Key))/\∀l,H l=none->Q (.ref l) (upd H l (.lst (ss.map V.int)))):=by
 intro pins s σ H xs us Q I r h
 obtain⟨d,kvs,ss,rfl,hd,hk,q⟩:=h
 obtain⟨u,rfl,ru⟩:=vals1 r
 obtain rfl:u=Value.ref d:=ru
 obtain⟨z,hsm,vs,rel,dd⟩:=mz I.hok hd
 obtain⟨ep,hat⟩:=dd.dictAt
 have hkv:vs.map (·.1)=kvs.map (·.1):=by
  clear hat dd z hk hd
  induction rel with
  |nil=>rfl
  |cons h _ ih=>rw[List.map_cons,List.map_cons,ih,h.1]
 have hlv:kvs.length=ss.length:=by
  have:=congrArg List.length hk
  simpa using this
 refine PySem.W.kdl_call (PySem.W.kdl_dict (knd:=aQ X.prog X.w) (kvs:=vs) (ep:=ep) hsm) (I.ok.hd hc) hat (by rw[<-rel.length];exact z) fun h' tk acc c kp hD hacc=>?_
 have hS:Vals (ss.map V.int) acc.toList:=pG (P:=X.prog) (w:=X.w) (hkv.trans hk) (by rw[Array.length_toList];exact hacc.1) fun j v e=>hacc.2 j v (by rw[<-Array.getElem?_toList];exact e)
 exact⟨.ref s.heap.objs.size,_,I.laid (t':=tk) kp (Nat.le_refl _) (show ba X.prog X.w _ h' _ (.lst (ss.map V.int)) from⟨by rw[List.length_map,<-hlv];exact z,acc.toList,c,hS,by simpa using hD⟩),rfl,q _ I.fresh⟩
end
end L2
namespace Fb
open PySem L2
open Y
section
variable {σ : St} {H0 H H' : Hp} {K : PySem.W.Frag} {adr : Pc → Addr} {P : Addr} {p : Pl} {ns : List Str} {s : S Str} {t tk tx : TE}
theorem Cm{a:Addr}{o:HO}(h:H a=some o):upd H a o=H:=by
 funext b
 unfold upd
 by_cases z:b=a
 ·rw[if_pos z,z,h]
 ·rw[if_neg z]
theorem lp{kvs:List (Key×V)}{k:Key}(h:valV kvs k=none):k∉kvs.map (·.1):=fun hk=>by
 induction kvs with
 |nil=>cases hk
 |cons a r ih=>
  obtain⟨a1,a2⟩:=a
  by_cases z:a1=k
  ·simp[valV,z] at h
  ·refine ih (by simpa [valV,z] using h) ?_
   rcases List.mem_cons.mp hk with y |y
   ·exact absurd y.symm z
   ·exact y
theorem xp{td:TE}{a:Addr}{k:Key}{kvs:List (Key×V)}{z:V}{Dn:Ends}(h:Ev td σ H (.ref a))(hk:Ev tk σ H (kV k))(hx:Ev tx σ H z)(ha:H a=some (.dK kvs))(nx:∀H',Same H H'->Dn.nx σ (upd H' a (.dK (cj kvs k)))):tDrop (tDPop2 td tk tx) Dn σ H:=
 h H _ (Same.refl H) fun H1 s1=>⟨a,rfl,Or.inl ⟨kvs,Or.inl (s1 _ _ ha)⟩,hk H1 _ s1 fun H2 s2=>hx H2 _ (s1.trans s2) fun H3 s3=>⟨kvs,k,(s1.trans (s2.trans s3)) _ _ ha,rfl,fun v _=>nx H3 (s1.trans (s2.trans s3)),fun e=>by
  have:=nx H3 (s1.trans (s2.trans s3))
  rw[jD (lp e),Cm ((s1.trans (s2.trans s3)) _ _ ha)] at this
  exact this⟩⟩
theorem zG{td:TE}{a:Addr}{k:Key}{kvs:List (Key×V)}{i:Nat}{Dn:Ends}(h:Ev td σ H (.ref a))(hk:Ev tk σ H (kV k)){ds:List PyData}(hx:Rd1 tx σ H (.tuple ds))(ha:H a=some (.dK kvs))(nx:∀z H',Same H H'->Dh H' z (.tuple ds)->Dn.nx (σ.set i (some ((valV kvs k).getD z))) H'):tAsg (uM td tk tx) (gName i) Dn σ H:=
 h H _ (Same.refl H) fun H1 s1=>⟨a,rfl,Or.inl ⟨kvs,Or.inl (s1 _ _ ha)⟩,hk H1 _ s1 fun H2 s2=>hx H2 _ (s1.trans s2) fun z H3 hz s3=>⟨_,gb.k (k:=k) ((s1.trans (s2.trans s3)) _ _ ha),nx z H3 (s1.trans (s2.trans s3)) hz⟩⟩
theorem qp{α:Type}{n:Nat}{f:Nat->α}{i:Nat}(h:i<n):atI ((List.range n).map f) (i:Int)=some (f i):=bP (by rw[List.getElem?_map,List.getElem?_range h];rfl)
theorem dq{d:Int}(h:isDesk p d=true):∃i:Nat,d=(i:Int)/\i<p.count:=by
 have:=Y.cS.mp h
 exact⟨d.toNat,by omega,by omega⟩
theorem qT(L:Lw H0 H adr P p ns s)(h:Ev t σ H (.ref (adr .y))):Ev (tDGet t (tC (.str (Str.ofString "time")))) σ H (.int s.time):=bJ h cr (L.at' .y trivial) (AY _ _ _ _ _ _)
theorem qR(L:Lw H0 H adr P p ns s)(h:Ev t σ H (.ref (adr .y))):Ev (tDGet t (tC (.str (Str.ofString "plan")))) σ H (.ref P):=bJ h cr (L.at' .y trivial) (AX _ _ _ _ _ _)
theorem vw(L:Lw H0 H adr P p ns s)(h:Ev t σ H (.ref (adr .y))):Ev (tDGet t (tC (.str (Str.ofString "offsets")))) σ H (.ref (adr .o)):=bJ h cr (L.at' .y trivial) (uU _ _ _ _ _ _)
theorem xT(L:Lw H0 H adr P p ns s)(h:Ev t σ H (.ref (adr .y))):Ev (tDGet t (tC (.str (Str.ofString "up")))) σ H (.ref (adr .u)):=bJ h cr (L.at' .y trivial) (CZ _ _ _ _ _ _)
theorem vv(L:Lw H0 H adr P p ns s)(h:Ev t σ H (.ref (adr .y))):Ev (tDGet t (tC (.str (Str.ofString "copies")))) σ H (.ref (adr .c)):=bJ h cr (L.at' .y trivial) (wW _ _ _ _ _ _)
theorem qS(L:Lw H0 H adr P p ns s)(h:Ev t σ H (.ref (adr .y))):Ev (tDGet t (tC (.str (Str.ofString "things")))) σ H (.ref (adr .t)):=bJ h cr (L.at' .y trivial) (lu _ _ _ _ _ _)
theorem BH(L:Lw H0 H adr P p ns s)(h:Ev t σ H (.ref (adr .y))){d:Int}(hd:isDesk p d=true)(hk:Ev tk σ H (.int d)):Ev (tOp (iI K) (tDGet t (tC (.str (Str.ofString "offsets")))) tk) σ H (.int (s.off d)):=by
 obtain⟨i,rfl,hi⟩:=dq hd
 exact mD (vw L h) hk (L.at' .o trivial) (qp hi)
theorem lD(L:Lw H0 H adr P p ns s)(h:Ev t σ H (.ref (adr .y))){d:Int}(hd:isDesk p d=true)(hk:Ev tk σ H (.int d)):Ev (tOp (iI K) (tDGet t (tC (.str (Str.ofString "up")))) tk) σ H (.bl (s.up d)):=by
 obtain⟨i,rfl,hi⟩:=dq hd
 exact mD (xT L h) hk (L.at' .u trivial) (qp hi)
theorem mW(L:Lw H0 H adr P p ns s)(h:Ev t σ H (.ref (adr .y))){i:Nat}(hi:i<p.count)(hk:Ev tk σ H (.int (i:Int))):Ev (tOp (iI K) (tDGet t (tC (.str (Str.ofString "copies")))) tk) σ H (.ref (adr (.cd i))):=
 mD (vv L h) hk (L.at' .c trivial) (qp hi)
theorem sg{f:Str->V}{n:Str}:∀{ns:List Str},valV (ns.map fun n=>((Sum.inr n:Key),f n)) (Sum.inr n)=if n∈ns then some (f n) else none
 | []=>rfl
 |m::r=>by
  by_cases z:m=n
  ·simp[valV,z]
  ·have ih:=sg (f:=f) (n:=n) (ns:=r)
   have z':¬n=m:=fun y=>z y.symm
   simpa [valV,z,z'] using ih
theorem mX(L:Lw H0 H adr P p ns s)(h:Ev t σ H (.ref (adr .y))){n:Str}(hn:n∈ns)(hk:Ev tk σ H (.str n)):Ev (tDGet (tDGet t (tC (.str (Str.ofString "things")))) tk) σ H (.ref (adr (.td n))):=
 bJ (k:=Sum.inr n) (qS L h) hk (L.at' .t trivial) (by rw[sg,if_pos hn])
section
variable {n : Str} {x : Th}
theorem cq(L:Lw H0 H adr P p ns s)(hx:s.th n=some x)(h:Ev t σ H (.ref (adr (.td n)))):Ev (tDGet t (tC (.str (Str.ofString "keeper")))) σ H (.int x.keeper):=by
 obtain⟨wa,qa,h1,_⟩:=L.at' (.td n) (L.mem hx) x hx
 exact bJ h cr h1 (wV _ _ _ _ _ _)
theorem jO(L:Lw H0 H adr P p ns s)(hx:s.th n=some x)(h:Ev t σ H (.ref (adr (.td n)))):Ev (tDGet t (tC (.str (Str.ofString "value")))) σ H (.int x.value):=by
 obtain⟨wa,qa,h1,_⟩:=L.at' (.td n) (L.mem hx) x hx
 exact bJ h cr h1 (zm _ _ _ _ _ _)
theorem dW(L:Lw H0 H adr P p ns s)(hx:s.th n=some x)(h:Ev t σ H (.ref (adr (.td n)))):Ev (tDGet t (tC (.str (Str.ofString "version")))) σ H (.int x.version):=by
 obtain⟨wa,qa,h1,_⟩:=L.at' (.td n) (L.mem hx) x hx
 exact bJ h cr h1 (uR _ _ _ _ _ _)
theorem lX(L:Lw H0 H adr P p ns s)(hx:s.th n=some x)(h:Ev t σ H (.ref (adr (.td n)))):Ev (tDGet t (tC (.str (Str.ofString "lent")))) σ H (.ref (adr (.ln n))):=by
 obtain⟨wa,qa,h1,_⟩:=L.at' (.td n) (L.mem hx) x hx
 exact bJ h cr h1 (AV _ _ _ _ _ _)
theorem vB{o:Option Int}:Dhs H (AA o) (o.toList.map .int):=by
 cases o with
 |none=>exact .nil
 |some v=>exact .cons (.int v) .nil
theorem gQ(L:Lw H0 H adr P p ns s)(hx:s.th n=some x)(h:Ev t σ H (.ref (adr (.td n)))):Rd1 (tDGet t (tC (.str (Str.ofString "waiting")))) σ H (.list (x.waiting.toList.map .int)):=by
 obtain⟨wa,qa,h1,h2,h3⟩:=L.at' (.td n) (L.mem hx) x hx
 exact(bJ h cr h1 (uS _ _ _ _ _ _)).rd (.lst h2.1 vB)
theorem xS(L:Lw H0 H adr P p ns s)(hx:s.th n=some x)(h:Ev t σ H (.ref (adr (.td n)))):Rd1 (tDGet t (tC (.str (Str.ofString "quiet")))) σ H (.list (x.quiet.toList.map .int)):=by
 obtain⟨wa,qa,h1,h2,h3⟩:=L.at' (.td n) (L.mem hx) x hx
 exact(bJ h cr h1 (zl _ _ _ _ _ _)).rd (.lst h3.1 vB)
end
end
end Fb
end
section
set_option maxHeartbeats 2000000
namespace Fb
open PySem L2
open Y
section
variable {σ : St} {H0 H H' : Hp} {K : PySem.W.Frag} {adr : Pc → Addr} {P : Addr} {p : Pl} {ns : List Str} {s : S Str} {t tk tx : TE}
theorem pe(hs:List Int)(q:Int->Bool):((List.range hs.length).filter fun i=>q (hs.getD i 0)).map (fun i=>PyData.int (hs.getD i 0))=(hs.filter q).map .int:=by
 have e:hs=(List.range hs.length).map fun i=>hs.getD i 0:=by
  apply List.ext_getElem
  ·simp
  ·intro i h1 h2
   simp[h1]
 have e2:(hs.filter q).map PyData.int=((((List.range hs.length).map fun i=>hs.getD i 0).filter q)).map .int:=by rw[<-e]
 rw[e2,List.filter_map,List.map_map]
 rfl
theorem uC(hs:List Int):(List.range hs.length).map (fun i=>PyData.int (hs.getD i 0))=hs.map .int:=by
 apply List.ext_getElem
 ·simp
 ·intro i h1 h2
  have:i<hs.length:=by simpa using h1
  simp[this]
theorem pV{kvs:List (Key×V)}{k:Key}{v:V}(h:valV kvs k=some v):k∈kvs.map (·.1):=by
 induction kvs with
 |nil=>cases h
 |cons a r ih=>
  obtain⟨a1,a2⟩:=a
  by_cases z:a1=k
  ·simp[z]
  ·exact List.mem_cons_of_mem _ (ih (by simpa [valV,z] using h))
theorem A4{p:Pl}:∀{kvs:List (Key×V)},(∀kv∈kvs,∃d u,kv=((Sum.inl d:Key),V.int u)/\isDesk p d=true)->∃ks:List Int,kvs.map (·.1)=ks.map (fun x=>(Sum.inl x:Key))/\∀k∈ks,isDesk p k=true
 | [],_=>⟨[],rfl,fun _ h=>(nomatch h)⟩
 |a::r,h=>by
  obtain⟨d,u,rfl,hd⟩:=h a List.mem_cons_self
  obtain⟨ks,h1,h2⟩:=A4 fun kv hk=>h kv (List.mem_cons_of_mem _ hk)
  exact⟨d::ks,by rw[List.map_cons,List.map_cons,h1],fun k hk=>by
   rcases List.mem_cons.mp hk with z |z
   ·rw[z];exact hd
   ·exact h2 k z⟩
theorem NoteR.split{kvs:List (Key×V)}{g:Int->Option Int}(h:NoteR p kvs g):∃ks:List Int,kvs.map (·.1)=ks.map (fun x=>(Sum.inl x:Key))/\ks.length<=p.count/\(∀k∈ks,isDesk p k=true/\∃u,g k=some u/\valV kvs (Sum.inl k)=some (.int u))/\∀k u,g k=some u->k∈ks:=by
 obtain⟨ks,h1,h2⟩:=A4 h.ks
 refine⟨ks,h1,?_,fun k hk=>⟨h2 k hk,?_⟩,fun k u hu=>?_⟩
 ·have:=congrArg List.length h1
  rw[List.length_map,List.length_map] at this
  rw[<-this];exact h.len
 ·have e:=h.val k
  cases hv:valV kvs (Sum.inl k) with
  |none=>exact absurd (by rw[h1];exact List.mem_map.mpr ⟨k,hk,rfl⟩) (lp hv)
  |some v=>
   rw[hv] at e
   cases hg:g k with
   |none=>rw[hg] at e;cases e
   |some u=>rw[hg] at e;exact⟨u,rfl,e⟩
 ·have e:=h.val k
  rw[hu] at e
  have:=pV e
  rw[h1] at this
  obtain⟨j,hj,z⟩:=List.mem_map.mp this
  cases z
  exact hj
theorem wg{x:Th}{ks:List Int}(h1:∀k∈ks,isDesk p k=true/\∃u,x.lent k=some u)(h2:∀k u,x.lent k=some u->k∈ks)(c:Int):cK c (Y.cP p x)=iB (((ks.map fun k=>(x.lent k).getD 0)++x.quiet.toList).filter fun u=>decide (c<=u)):=by
 refine(lz fun u=>?_:cK c (Y.cP p x)=cK c ((ks.map fun k=>(x.lent k).getD 0)++x.quiet.toList))
 rw[pH,List.mem_append,List.mem_map]
 constructor
 ·rintro(⟨d,hd,e⟩ |e)
  ·exact Or.inl ⟨d,h2 d u e,by rw[e];rfl⟩
  ·exact Or.inr (by rw[e];simp)
 ·rintro(⟨k,hk,e⟩ |e)
  ·obtain⟨hd,v,hv⟩:=h1 k hk
   rw[hv] at e
   have:v=u:=e
   subst this
   exact Or.inl ⟨k,hd,hv⟩
  ·exact Or.inr (by simpa using e)
theorem yX{a:Addr}{kvs:List (Key×V)}{ks:List Int}(h:Ev t σ H (.ref a))(ha:H a=some (.dK kvs))(hk:kvs.map (·.1)=ks.map (fun x=>(Sum.inl x:Key))):Rd1 (tCB (fun xs H Q=>∃(d:Addr) (kvs:List (Key×V)) (ss:List Int),xs=[V.ref d]/\H d=some (.dK kvs)/\kvs.map (·.1)=ss.map (fun x=>(Sum.inl x:Key))/\∀l,H l=none->Q (.ref l) (upd H l (.lst (ss.map V.int)))) (tCons t tNil)) σ H (.list (ks.map .int)):=fun H1 Q s1 q=>
 h H1 _ s1 fun H2 s2=>⟨a,kvs,ks,rfl,(s1.trans s2) _ _ ha,hk,fun l hl=>q _ _ (.lst upd_same (iq ks)) (s2.trans ((Same.refl H2).new hl))⟩
theorem yY{a:Addr}{kvs:List (Key×V)}{ks:List Str}(h:Ev t σ H (.ref a))(ha:H a=some (.dK kvs))(hk:kvs.map (·.1)=ks.map (fun x=>(Sum.inr x:Key))):Rd1 (tCB (fun xs H Q=>∃(d:Addr) (kvs:List (Key×V)) (ss:List Str),xs=[V.ref d]/\H d=some (.dK kvs)/\kvs.map (·.1)=ss.map (fun x=>(Sum.inr x:Key))/\∀l,H l=none->Q (.ref l) (upd H l (.lst (ss.map V.str)))) (tCons t tNil)) σ H (.list (ks.map .str)):=fun H1 Q s1 q=>
 h H1 _ s1 fun H2 s2=>⟨a,kvs,ks,rfl,(s1.trans s2) _ _ ha,hk,fun l hl=>q _ _ (.lst upd_same (jC ks)) (s2.trans ((Same.refl H2).new hl))⟩
theorem AJ{ns:List Int}{m:Int}(h:Rd1 t σ H (.list (ns.map .int)))(hm:iB ns=some m):Rd1 (tCB (fun xs H Q=>∃a ns,xs=[V.ref a]/\SqL K H a (ns.map V.int)/\ns≠[]/\∀m,m∈ns->(∀y∈ns,y<=m)->Q (.int m) H) (tCons t tNil)) σ H (.int m):=fun H1 Q s1 q=>
 h H1 _ s1 fun v H2 hv s2=>by
  obtain⟨A,ys,rfl,h2,h3⟩:=cc hv
  have e:ys=ns.map V.int:=by
   rw[eD h3 (by simp[mK]),List.map_map]
   rfl
  subst e
  refine⟨A,ns,rfl,SqL.of h2,fun z=>?_,fun k hk hy=>?_⟩
  ·rw[z] at hm;cases hm
  ·have:=kP hk hy
   rw[hm] at this
   cases this
   exact q _ H2 (.int _) s2
theorem xQ{n:Str}{x:Th}(L:Lw H0 H adr P p ns s)(hx:s.th n=some x):∃ks:List Int,ks.length<=p.count/\(∃kvs,H (adr (.ln n))=some (.dK kvs)/\kvs.map (·.1)=ks.map (fun x=>(Sum.inl x:Key))/\∀k∈ks,valV kvs (Sum.inl k)=some (.int ((x.lent k).getD 0)))/\∀c,cK c (Y.cP p x)=iB (((ks.map fun k=>(x.lent k).getD 0)++x.quiet.toList).filter fun u=>decide (c<=u)):=by
 obtain⟨kvs,h1,h2⟩:=L.at' (.ln n) (L.mem hx) x hx
 obtain⟨ks,e1,e2,e3,e4⟩:=h2.split
 refine⟨ks,e2,⟨kvs,h1,e1,fun k hk=>?_⟩,wg (fun k hk=>⟨(e3 k hk).1,(e3 k hk).2.imp fun u h=>h.1⟩) e4⟩
 obtain⟨_,u,g1,g2⟩:=e3 k hk
 rw[g2,g1];rfl
end
end Fb
end
section
set_option maxHeartbeats 2000000
namespace Fb
open PySem L2
open Y
section
variable {σ : St} {H0 H H' : Hp} {K : PySem.W.Frag} {adr : Pc → Addr} {P : Addr} {p : Pl} {ns : List Str} {s : S Str} {t tk tx : TE}
theorem jE:∀ns:List Int,PyData.eqv (.list (ns.map .int)) (.list [])=decide (ns=[])
 | []=>rfl
 |_::_=>rfl
theorem xo{sp:Sp}{E:XK}{ta tb:TE}{x y v:V}(ha:Ev ta σ H x)(hb:Ev tb σ H y)(h:∀H' Q,Same H H'->(∀H'',Same H' H''->Q v H'')->sp [x,y] H' Q E):Ev (tCall sp [] E (tCons ta (tCons tb tNil))) σ H v:=fun H1 Q s1 q=>
 ha H1 _ s1 fun H2 s2=>hb H2 _ (s1.trans s2) fun H3 s3=>h H3 Q (s1.trans (s2.trans s3)) fun H4 s4=>q H4 (s2.trans (s3.trans s4))
theorem yV{ta tb:TE}{i j:Int}(ha:Rd1 ta σ H0 (.int i))(hb:Rd1 tb σ H0 (.int j)):Rd1 (tOp (rI0 fun a b=> .bl (decide (b<=a))) ta tb) σ H0 (.bool (decide (j<=i))):=fun H Q s q=>
 ha H _ s fun v H1 hv s1=>hb H1 _ (s.trans s1) fun u H2 hu s2=>by
  obtain rfl:=bf hv
  obtain rfl:=bf hu
  exact⟨i,j,rfl,rfl,q _ H2 (.bl _) (s1.trans s2)⟩
def tF(H0:Hp)(adr:Pc->Addr)(P:Addr)(p:Pl)(ns:List Str)(r:An×S Str)(Q:VK):Prop:=∀H' adr' v,Lw H0 H' adr' P p ns r.2->adr' .y=adr .y->Dh H' v (anD r.1)->Q v H'
def fB:Sp:=fun vs H Q _=>∃(H0:Hp) (adr:Pc->Addr) (P:Addr) (p:Pl) (ns:List Str) (s:S Str) (d:Int),vs=[.ref (adr .y),.int d]/\Lw H0 H adr P p ns s/\isDesk p d=true/\∀H',Same H H'->Q (.int (s.clock d)) H'
theorem jP{E:XK}{d:Int}(L:Lw H0 H adr P p ns s)(ht:Ev t σ H (.ref (adr .y)))(hk:Ev tk σ H (.int d))(hd:isDesk p d=true):Ev (tCall fB [] E (tCons t (tCons tk tNil))) σ H (.int (s.clock d)):=
 xo ht hk fun H' Q s1 q=>⟨H0,adr,P,p,ns,s,d,rfl,L.same s1,hd,q⟩
def ma:Sp:=fun vs H Q _=>∃(H0:Hp) (adr:Pc->Addr) (P:Addr) (p:Pl) (ns:List Str) (s:S Str) (n:Str) (x:Th),vs=[.ref (adr .y),.ref (adr (.td n))]/\Lw H0 H adr P p ns s/\p.count<=500/\s.th n=some x/\
 tF H0 adr P p ns ((attempt p (s.clock x.keeper) x).1,{s with th:=set1 s.th n (some (attempt p (s.clock x.keeper) x).2)}) Q
theorem lZ{f:Str->Option Th}{n:Str}{x:Th}(h:f n=some x):set1 f n (some x)=f:=by
 funext m
 by_cases z:m=n
 ·rw[z,ai,h]
 ·rw[ao z]
theorem oa{f:Str->Option Th}{n:Str}{x y:Option Th}:set1 (set1 f n x) n y=set1 f n y:=by
 funext m
 by_cases z:m=n
 ·rw[z,ai,ai]
 ·rw[ao z,ao z,ao z]
theorem xR{n:Str}{x x2:Th}{td tw:TE}{Dn:Ends}{w:Int}{fld:Str}(L:Lw H0 H adr P p ns s)(hx:s.th n=some x)(hv:Ev tw σ H (.int w))(h:Ev td σ H (.ref (adr (.td n))))
  (hf:∀a b,putK (tv (.int x.keeper) (.int x.value) (.int x.version) (.ref (adr (.ln n))) a b) (Sum.inr fld) (.int w)=tv (.int x2.keeper) (.int x2.value) (.int x2.version) (.ref (adr (.ln n))) a b)(h1:x2.keeper=x.keeper)(h2:x2.lent=x.lent)(h3:x2.waiting=x.waiting)(h4:x2.quiet=x.quiet)
  (nx:∀H',Lw H0 H' adr P p ns {s with th:=set1 s.th n (some x2)}->Dn.nx σ H'):sDPut td (tC (.str fld)) tw Dn σ H:=by
 obtain⟨wa,qa,e1,e2,e3⟩:=L.at' (.td n) (L.mem hx) x hx
 refine tS (k:=Sum.inr fld) hv h cr e1 (Nat.le_of_ble_eq_true rfl) fun H' s'=>nx _ ?_
 have hn:=L.mem hx
 refine(L.same s').setTd hx h1 h2 (wa:=wa) (qa:=qa) (fun b o e ne=>by rw[aj ne];exact e) (by rw[upd_same,hf]) ?_ ?_
 ·rw[h3];exact⟨by rw[aj (e2.2 (.td n) hn).symm];exact s' _ _ e2.1,e2.2⟩
 ·rw[h4];exact⟨by rw[aj (e3.2 (.td n) hn).symm];exact s' _ _ e3.1,e3.2⟩
theorem qQ{n:Str}{x:Th}{td tw:TE}{Dn:Ends}{o:Option Int}(L:Lw H0 H adr P p ns s)(hx:s.th n=some x)(hv:EvN tw σ H (.lst (AA o)))(h:Ev td σ H (.ref (adr (.td n))))
  (nx:∀H',Lw H0 H' adr P p ns {s with th:=set1 s.th n (some {x with waiting:=o})}->Dn.nx σ H'):sDPut td (tC (.str (Str.ofString "waiting"))) tw Dn σ H:=by
 obtain⟨wa,qa,e1,e2,e3⟩:=L.at' (.td n) (L.mem hx) x hx
 refine gc (k:=Sum.inr (Str.ofString "waiting")) hv h cr e1 (Nat.le_of_ble_eq_true rfl) fun r H' hr0 hr s'=>nx _ ?_
 have hn:=L.mem hx
 refine(L.same s').setTd (t2:={x with waiting:=o}) hx rfl rfl (wa:=r) (qa:=qa) (fun b o e ne=>by rw[aj ne];exact e) (by rw[upd_same,oE]) ?_ ?_
 ·exact⟨by rw[aj (L.ne_new hr0 (.td n) hn).symm];exact hr,fun y hy=>L.ne_new hr0 y hy⟩
 ·exact⟨by rw[aj (e3.2 (.td n) hn).symm];exact s' _ _ e3.1,e3.2⟩
theorem vq{n:Str}{x:Th}{td tw:TE}{Dn:Ends}{o:Option Int}(L:Lw H0 H adr P p ns s)(hx:s.th n=some x)(hv:EvN tw σ H (.lst (AA o)))(h:Ev td σ H (.ref (adr (.td n))))
  (nx:∀H',Lw H0 H' adr P p ns {s with th:=set1 s.th n (some {x with quiet:=o})}->Dn.nx σ H'):sDPut td (tC (.str (Str.ofString "quiet"))) tw Dn σ H:=by
 obtain⟨wa,qa,e1,e2,e3⟩:=L.at' (.td n) (L.mem hx) x hx
 refine gc (k:=Sum.inr (Str.ofString "quiet")) hv h cr e1 (Nat.le_of_ble_eq_true rfl) fun r H' hr0 hr s'=>nx _ ?_
 have hn:=L.mem hx
 refine(L.same s').setTd (t2:={x with quiet:=o}) hx rfl rfl (wa:=wa) (qa:=r) (fun b o e ne=>by rw[aj ne];exact e) (by rw[upd_same,se]) ?_ ?_
 ·exact⟨by rw[aj (e2.2 (.td n) hn).symm];exact s' _ _ e2.1,e2.2⟩
 ·exact⟨by rw[aj (L.ne_new hr0 (.td n) hn).symm];exact hr,fun y hy=>L.ne_new hr0 y hy⟩
theorem vo{n:Str}{x:Th}{td:TE}{Dn:Ends}(L:Lw H0 H adr P p ns s)(hx:s.th n=some x)(h:Ev td σ H (.ref (adr (.td n))))
  (nx:∀r H',Lw H0 H' (set1 adr (.ln n) r) P p ns {s with th:=set1 s.th n (some {x with lent:=fun _=>none})}->Dn.nx σ H'):sDPut td (tC (.str (Str.ofString "lent"))) tDNewK Dn σ H:=by
 obtain⟨wa,qa,e1,e2,e3⟩:=L.at' (.td n) (L.mem hx) x hx
 refine gc (k:=Sum.inr (Str.ofString "lent")) jF h cr e1 (Nat.le_of_ble_eq_true rfl) fun r H' hr0 hr s'=>nx r _ ?_
 rw[tp]
 exact L.newLn hx hr0 s' hr NoteR.nil e2 e3
theorem vp{n:Str}{x:Th}{td:TE}{Dn:Ends}{d:Int}{z:V}(L:Lw H0 H adr P p ns s)(hx:s.th n=some x)(h:Ev td σ H (.ref (adr (.td n))))(hk:Ev tk σ H (.int d))(hz:Ev tx σ H z)
  (nx:∀H',Lw H0 H' adr P p ns {s with th:=set1 s.th n (some {x with lent:=set1 x.lent d none})}->Dn.nx σ H'):tDrop (tDPop2 (tDGet td (tC (.str (Str.ofString "lent")))) tk tx) Dn σ H:=by
 obtain⟨kvs,e1,e2⟩:=L.at' (.ln n) (L.mem hx) x hx
 exact xp (k:=Sum.inl d) (lX L hx h) hk hz e1 fun H' s'=>nx _ ((L.same s').setLn hx (fun b o e ne=>by rw[aj ne];exact e) upd_same (e2.drop d))
theorem Aa{n:Str}{x:Th}{td tw:TE}{Dn:Ends}{d u:Int}(L:Lw H0 H adr P p ns s)(hp:p.count<=500)(hx:s.th n=some x)(h:Ev td σ H (.ref (adr (.td n))))(hk:Ev tk σ H (.int d))(hw:Ev tw σ H (.int u))(hd:isDesk p d=true)
  (nx:∀H',Lw H0 H' adr P p ns {s with th:=set1 s.th n (some {x with lent:=set1 x.lent d (some u)})}->Dn.nx σ H'):sDPut (tDGet td (tC (.str (Str.ofString "lent")))) tk tw Dn σ H:=by
 obtain⟨kvs,e1,e2⟩:=L.at' (.ln n) (L.mem hx) x hx
 exact tS (k:=Sum.inl d) hw (lX L hx h) hk e1 (Nat.le_trans e2.len (by omega)) fun H' s'=>nx _ ((L.same s').setLn hx (fun b o e ne=>by rw[aj ne];exact e) upd_same (e2.put hd))
end
end Fb
end
section
set_option maxHeartbeats 2000000
namespace Fb
open PySem L2
open Y
section
variable {σ : St} {H0 H H' : Hp} {K : PySem.W.Frag} {adr : Pc → Addr} {P : Addr} {p : Pl} {ns : List Str} {s : S Str} {t tk tx : TE} {kvs : List (Key × V)} {f : Str → Option Cp}
theorem CopL.nil:CopL H [] ns fun _=>none:=⟨List.nodup_nil,fun _ h=>(nomatch h),fun _ _=>rfl,fun _ _ h=>(nomatch h)⟩
theorem CopL.drop(h:CopL H kvs ns f)(n:Str):CopL H (cj kvs (Sum.inr n)) ns (set1 f n none):=by
 refine⟨iD h.nd,fun kv hk=>h.ks kv (iU hk),fun m e=>?_,fun m x e=>?_⟩
 ·rw[ef]
  by_cases z:m=n
  ·rw[z,if_pos rfl]
  ·rw[if_neg (fun q=>z (Sum.inr.inj q))]
   rw[ao z] at e
   exact h.no m e
 ·by_cases z:m=n
  ·rw[z,ai] at e;cases e
  ·rw[ao z] at e
   obtain⟨a,h1,h2⟩:=h.so m x e
   exact⟨a,by rw[ef,if_neg (fun q=>z (Sum.inr.inj q))];exact h1,h2⟩
theorem CopL.put(h:CopL H kvs ns f){n:Str}{a:Addr}{x:Cp}(hn:n∈ns)(ha:H a=some (.tup [.int x.value,.int x.version,.int x.till])):CopL H (putK kvs (Sum.inr n) (.ref a)) ns (set1 f n (some x)):=by
 refine⟨uj _ h.nd,fun kv hk=>?_,fun m e=>?_,fun m y e=>?_⟩
 ·rcases nh hk with z |z
  ·exact h.ks kv z
  ·exact⟨n,by rw[z],hn⟩
 ·by_cases z:m=n
  ·rw[z,ai] at e;cases e
  ·rw[ao z] at e
   rw[fZ,if_neg (fun q=>z (Sum.inr.inj q))]
   exact h.no m e
 ·by_cases z:m=n
  ·rw[z,ai] at e
   cases e
   exact⟨a,by rw[fZ,z,if_pos rfl],ha⟩
  ·rw[ao z] at e
   obtain⟨b,h1,h2⟩:=h.so m y e
   exact⟨b,by rw[fZ,if_neg (fun q=>z (Sum.inr.inj q))];exact h1,h2⟩
theorem CopL.len(h:CopL H kvs ns f):kvs.length<=ns.length:=by
 have:=len_sub (m:=ns.map fun n=>(Sum.inr n:Key)) h.nd fun k hk=>by
  obtain⟨kv,h1,h2⟩:=List.mem_map.mp hk
  obtain⟨n,e,hn⟩:=h.ks kv h1
  exact List.mem_map.mpr ⟨n,hn,by rw[<-h2,e]⟩
 simpa using this
theorem CopL.isSome(h:CopL H kvs ns f)(n:Str):(valV kvs (Sum.inr n)).isSome=(f n).isSome:=by
 cases e:f n with
 |none=>rw[h.no n e];rfl
 |some x=>
  obtain⟨a,h1,_⟩:=h.so n x e
  rw[h1];rfl
theorem xO{d:Int}{n:Str}{td:TE}{Dn:Ends}{z:V}(L:Lw H0 H adr P p ns s)(h:Ev t σ H (.ref (adr .y)))(hd:isDesk p d=true)(hi:Ev td σ H (.int d))(hk:Ev tk σ H (.str n))(hz:Ev tx σ H z)
  (nx:∀H',Lw H0 H' adr P p ns {s with cp:=setC s.cp d n none}->Dn.nx σ H'):tDrop (tDPop2 (tOp (iI K) (tDGet t (tC (.str (Str.ofString "copies")))) td) tk tx) Dn σ H:=by
 obtain⟨i,rfl,hl⟩:=dq hd
 obtain⟨kvs,e1,e2⟩:=L.at' (.cd i) hl
 exact xp (k:=Sum.inr n) (mW L h hl hi) hk hz e1 fun H' s'=>nx _ ((L.same s').setCd hl (fun b o e ne=>by rw[aj ne];exact e) upd_same ((e2.drop n).mono fun b xs e=>by rw[aj (cu e e1 fun y=>nomatch y)];exact s' _ _ e))
theorem BC{d:Int}{n:Str}{td ta tb tc:TE}{Dn:Ends}{x:Cp}(L:Lw H0 H adr P p ns s)(hns:ns.length<=900)(hn:n∈ns)(h:Ev t σ H (.ref (adr .y)))(hd:isDesk p d=true)(hi:Ev td σ H (.int d))(hk:Ev tk σ H (.str n))(h1:Ev ta σ H (.int x.value))(h2:Ev tb σ H (.int x.version))(h3:Ev tc σ H (.int x.till))
  (nx:∀H',Lw H0 H' adr P p ns {s with cp:=setC s.cp d n (some x)}->Dn.nx σ H'):sDPut (tOp (iI K) (tDGet t (tC (.str (Str.ofString "copies")))) td) tk (tTup (tCons ta (tCons tb (tCons tc tNil)))) Dn σ H:=by
 obtain⟨i,rfl,hl⟩:=dq hd
 obtain⟨kvs,e1,e2⟩:=L.at' (.cd i) hl
 refine gc (k:=Sum.inr n) (xr h1 h2 h3) (mW L h hl hi) hk e1 (Nat.le_trans e2.len (by omega)) fun r H' hr0 hr s'=>nx _ ((L.same s').setCd hl (fun b o e ne=>by rw[aj ne];exact e) upd_same (CopL.mono (H:=H') ((e2.mono fun b xs e=>s' _ _ e).put hn hr) fun b xs e=>by rw[aj (cu e (s' _ _ e1) fun y=>nomatch y)];exact e))
theorem BB{d:Int}{n:Str}{td:TE}{Dn:Ends}{j:Nat}(L:Lw H0 H adr P p ns s)(h:Ev t σ H (.ref (adr .y)))(hd:isDesk p d=true)(hi:Ev td σ H (.int d))(hk:Ev tk σ H (.str n)){ds:List PyData}(hx:Rd1 tx σ H (.tuple ds))
  (nx:∀v H',Same H H'->Dh H' v (match s.cp d n with |none=> .tuple ds |some x=> .tuple [.int x.value,.int x.version,.int x.till])->Dn.nx (σ.set j (some v)) H'):tAsg (uM (tOp (iI K) (tDGet t (tC (.str (Str.ofString "copies")))) td) tk tx) (gName j) Dn σ H:=by
 obtain⟨i,rfl,hl⟩:=dq hd
 obtain⟨kvs,e1,e2⟩:=L.at' (.cd i) hl
 refine zG (k:=Sum.inr n) (mW L h hl hi) hk hx e1 fun z H' s' hz=>nx _ H' s' ?_
 cases e:s.cp (i:Int) n with
 |none=>rw[e2.no n e];exact hz
 |some x=>
  obtain⟨a,g1,g2⟩:=e2.so n x e
  rw[g1]
  exact .tup (s' _ _ g2) (.cons (.int _) (.cons (.int _) (.cons (.int _) .nil)))
theorem CA{d:Int}{n:Str}{td:TE}(L:Lw H0 H adr P p ns s)(h:Ev t σ H (.ref (adr .y)))(hd:isDesk p d=true)(hi:Ev td σ H (.int d))(hk:Ev tk σ H (.str n)):Ev (tDIn tk (tOp (iI K) (tDGet t (tC (.str (Str.ofString "copies")))) td)) σ H (.bl (s.cp d n).isSome):=by
 obtain⟨i,rfl,hl⟩:=dq hd
 obtain⟨kvs,e1,e2⟩:=L.at' (.cd i) hl
 have:=Bt (k:=Sum.inr n) hk (mW (K:=K) L h hl hi) e1
 rw[e2.isSome] at this
 exact this
structure Yl (H:Hp) (adr:Pc->Addr) (H0:Hp) (P:Addr) (p:Pl) (ns:List Str) (s:S Str):Prop where
 L:Lw H0 H adr P p ns s
 hp:p.count<=500
 hn:ns.length<=900
 hP:H0 P=some (.tup [.int p.count,.int p.length,.int p.bound])
def oq:Sp:=fun vs H Q _=>∃(H0:Hp) (adr:Pc->Addr) (P:Addr) (p:Pl) (ns:List Str) (s:S Str) (d:Int) (n:Str) (x:Th),vs=[.ref (adr .y),.int d,.str n]/\Yl H adr H0 P p ns s/\isDesk p d=true/\s.th n=some x/\tF H0 adr P p ns (cg p s d n x) Q
def ju:Sp:=fun vs H Q _=>∃(H0:Hp) (adr:Pc->Addr) (P:Addr) (p:Pl) (ns:List Str) (s:S Str) (d:Int) (n:Str) (v:Int) (x:Th),vs=[.ref (adr .y),.int d,.str n,.int v]/\Yl H adr H0 P p ns s/\isDesk p d=true/\s.th n=some x/\tF H0 adr P p ns (bQ p s d n v x) Q
def oh:Sp:=fun vs H Q _=>∃(H0:Hp) (adr:Pc->Addr) (P:Addr) (p:Pl) (ns:List Str) (s:S Str) (d:Int) (n:Str) (x:Th),vs=[.ref (adr .y),.int d,.str n]/\Yl H adr H0 P p ns s/\isDesk p d=true/\s.th n=some x/\tF H0 adr P p ns (ie s d n x) Q
theorem CB(G:Yl H adr H0 P p ns s)(h:Ev t σ H (.ref (adr .y))):Ev (tOp (eF K) (tDGet t (tC (.str (Str.ofString "plan")))) (tC (.int 1))) σ H (.int p.length):=kD (qR G.L h) cr (G.L.all _ _ G.hP) rfl
theorem BF(G:Yl H adr H0 P p ns s)(h:Ev t σ H (.ref (adr .y))):Ev (tOp (eF K) (tDGet t (tC (.str (Str.ofString "plan")))) (tC (.int 2))) σ H (.int p.bound):=kD (qR G.L h) cr (G.L.all _ _ G.hP) rfl
theorem C7(G:Yl H adr H0 P p ns s)(h:Ev t σ H (.ref (adr .y))):Ev (tOp (eF K) (tDGet t (tC (.str (Str.ofString "plan")))) (tC (.int 0))) σ H (.int p.count):=kD (qR G.L h) cr (G.L.all _ _ G.hP) rfl
theorem Yl.same(G:Yl H adr H0 P p ns s)(k:Same H H'):Yl H' adr H0 P p ns s:=⟨G.L.same k,G.hp,G.hn,G.hP⟩
end
end Fb
end
section
set_option maxHeartbeats 2000000
namespace Fb
open PySem L2
open Y
structure Down5 (s:S Str):Prop where
 th:∀n t,s.th n=some t->s.up t.keeper=false->(∀d,t.lent d=none)/\t.waiting=none
 cp:∀d n,s.up d=false->s.cp d n=none
theorem gI{s:S Str}(h:Down5 s){d:Int}{n:Str}{c:Option Cp}(hd:s.up d=true∨c=none):∀e m,s.up e=false->setC s.cp d n c e m=none:=fun e m he=>by
 unfold setC
 by_cases z:e=d
 ·rw[z,ai]
  by_cases y:m=n
  ·rw[y,ai]
   rcases hd with hd |hd
   ·rw[z,hd] at he;cases he
   ·exact hd
  ·rw[ao y,<-z];exact h.cp e m he
 ·rw[ao z];exact h.cp e m he
theorem iM{s:S Str}(h:Down5 s){n:Str}{t t':Th}{cp:Int->Str->Option Cp}(ht:s.th n=some t)(hk:t'.keeper=t.keeper)(hu:s.up t.keeper=true)(hc:∀d n,s.up d=false->cp d n=none):Down5 {s with cp:=cp,th:=set1 s.th n (some t')}:=by
 refine⟨fun m x hx hd=>?_,hc⟩
 have hx:set1 s.th n (some t') m=some x:=hx
 by_cases z:m=n
 ·rw[z,ai] at hx
  cases hx
  have hd:s.up t'.keeper=false:=hd
  rw[hk,hu] at hd
  cases hd
 ·rw[ao z] at hx
  exact h.th m x hx hd
theorem mn{p:Pl}{c:Int}{t:Th}:(attempt p c t).2.keeper=t.keeper:=by
 unfold attempt
 split
 ·rfl
 ·split<;>rfl
theorem jm{p:Pl}{s:S Str}(h:Down5 s){d:Int}{n:Str}{k:Th->An×S Str}(hk:∀t,s.th n=some t->s.up d=true->Down5 (k t).2):Down5 (named p s d n k).2:=by
 unfold named
 split
 ·split
  ·exact h
  ·rename_i t ht
   split
   ·rename_i hu;exact hk t ht hu
   ·exact h
 ·exact h
theorem uL{p:Pl}{s:S Str}{δ:Deed Str}(h:Down5 s):Down5 (Y.step p s δ).2:=by
 cases δ with
 |pass m=>exact⟨h.th,h.cp⟩
 |shift d o=>
  simp only[Y.step]
  split
  ·split
   ·exact⟨h.th,h.cp⟩
   ·exact h
  ·exact h
 |read d n=>
  refine jm h fun t ht hu=>?_
  unfold cg
  split
  ·exact h
  ·split
   ·exact h
   ·split
    ·rename_i hk
     split
     ·exact h
     ·exact iM (t':={t with lent:=_}) h ht rfl hk (gI h (Or.inl hu))
    ·exact h
 |change d n v=>
  refine jm h fun t ht hu=>?_
  unfold bQ
  split
  ·rename_i hk
   split
   ·exact iM (t':={t with lent:=_}) h ht rfl hk (gI h (Or.inr rfl))
   ·exact iM h ht (by rw[mn]) hk (gI h (Or.inr rfl))
  ·exact h
 |tries n=>
  simp only[Y.step]
  split
  ·exact h
  ·rename_i t ht
   split
   ·rename_i hk
    exact iM (cp:=s.cp) h ht mn hk h.cp
   ·exact h
 |back d n=>
  refine jm h fun t ht hu=>?_
  unfold ie
  by_cases hk:s.up t.keeper=true
  ·simp only[hk,if_true]
   exact iM (t':={t with lent:=_}) h ht rfl hk (gI h (Or.inr rfl))
  ·simp only[hk,if_false]
   exact⟨h.th,gI h (Or.inr rfl)⟩
 |stop d=>
  simp only[Y.step]
  split
  ·split
   ·refine⟨fun n t ht hd=>?_,fun e n he=>?_⟩
    ·obtain⟨t0,h0,rfl⟩:=Option.map_eq_some_iff.mp (show(s.th n).map _=some t from ht)
     by_cases z:t0.keeper=d
     ·rw[if_pos z];exact⟨fun _=>rfl,rfl⟩
     ·rw[if_neg z]
      rw[if_neg z] at hd
      have hd:set1 s.up d false t0.keeper=false:=hd
      rw[ao z] at hd
      exact h.th n t0 h0 hd
    ·show set1 s.cp d _ e n=none
     have he:set1 s.up d false e=false:=he
     by_cases z:e=d
     ·rw[z,ai]
     ·rw[ao z]
      rw[ao z] at he
      exact h.cp e n he
   ·exact h
  ·exact h
 |wake d=>
  simp only[Y.step]
  split
  ·split
   ·exact h
   ·refine⟨fun n t ht hd=>?_,fun e n he=>?_⟩
    ·obtain⟨t0,h0,rfl⟩:=Option.map_eq_some_iff.mp (show(s.th n).map _=some t from ht)
     by_cases z:t0.keeper=d
     ·rw[if_pos z] at hd
      have hd:set1 s.up d true t0.keeper=false:=hd
      rw[z,ai] at hd
      cases hd
     ·rw[if_neg z]
      rw[if_neg z] at hd
      have hd:set1 s.up d true t0.keeper=false:=hd
      rw[ao z] at hd
      exact h.th n t0 h0 hd
    ·have he:set1 s.up d true e=false:=he
     by_cases z:e=d
     ·rw[z,ai] at he;cases he
     ·rw[ao z] at he
      exact h.cp e n he
  ·exact h
theorem wR{s:S Str}(h:Down5 s){d:Int}(hd:s.up d=false):oz s d=s:=by
 obtain⟨tm,off,up,cp,th⟩:=s
 simp only[oz,S.mk.injEq,true_and]
 refine⟨?_,?_,?_⟩
 ·funext e
  by_cases z:e=d
  ·rw[z,ai];exact hd.symm
  ·rw[ao z]
 ·funext e
  by_cases z:e=d
  ·rw[z,ai];funext n;exact(h.cp d n hd).symm
  ·rw[ao z]
 ·funext n
  cases e:th n with
  |none=>rfl
  |some t=>
   show some _=some t
   dsimp only
   by_cases z:t.keeper=d
   ·rw[if_pos z]
    obtain⟨h1,h2⟩:=h.th n t e (by rw[z];exact hd)
    obtain⟨k,v,ve,le,qu,wa⟩:=t
    have h1:(fun _=>none)=le:=funext fun d=>(h1 d).symm
    have h2:wa=none:=h2
    rw[h1,h2]
   ·rw[if_neg z]
def walk(s:S Str)(ns:List Str)(g:Th->Th)(i:Nat):S Str:={s with th:=fun n=>(s.th n).map fun t=>if n∈ns.take i then g t else t}
theorem pY{s:S Str}{ns:List Str}{g:Th->Th}:walk s ns g 0=s:=by
 obtain⟨tm,off,up,cp,th⟩:=s
 simp only[walk,S.mk.injEq,true_and]
 funext n
 cases th n<;>simp
theorem tD{s:S Str}{ns:List Str}{g:Th->Th}(h:∀n,n∈ns↔(s.th n).isSome=true):walk s ns g ns.length={s with th:=fun n=>(s.th n).map g}:=by
 simp only[walk,S.mk.injEq,true_and,List.take_length]
 funext n
 cases e:s.th n with
 |none=>rfl
 |some t=>
  have:n∈ns:=(h n).mpr (by rw[e];rfl)
  simp[this]
theorem walk_at{s:S Str}{ns:List Str}{g:Th->Th}{i:Nat}{m:Str}{t:Th}(nd:ns.Nodup)(h:ns[i]?=some m)(ht:s.th m=some t):(walk s ns g i).th m=some t/\walk s ns g (i+1)={walk s ns g i with th:=set1 (walk s ns g i).th m (some (g t))}:=by
 have hm:m∉ns.take i:=fun hm=>by
  obtain⟨j,hj⟩:=List.mem_iff_getElem?.mp hm
  rw[List.getElem?_take] at hj
  split at hj
  ·rename_i lt
   have:=(List.getElem?_inj (List.getElem?_eq_some_iff.mp hj).1 nd).mp (hj.trans h.symm)
   omega
  ·cases hj
 constructor
 ·simp[walk,ht,hm]
 ·simp only[walk,S.mk.injEq,true_and]
  funext n
  by_cases z:n=m
  ·rw[z,ai,List.take_add_one,h]
   simp[ht]
  ·rw[ao z,List.take_add_one,h]
   simp[z]
section
variable {σ : St} {H0 H1 H H' : Hp} {K : PySem.W.Frag} {adr : Pc → Addr} {P : Addr} {p : Pl} {ns : List Str} {s : S Str} {t tk tx : TE}
theorem Lw.less(L:Lw H1 H adr P p ns s)(k:Same H0 H1):Lw H0 H adr P p ns s:=
 ⟨L.inj,fun x hx=>k.free (L.new x hx),k.trans L.all,L.nd,L.dom,L.at',L.kp⟩
theorem Lw.more(L:Lw H0 H adr P p ns s){A:Addr}{o:HO}(h:H A=some o)(ne:∀x,x.val p ns->adr x≠A):Lw (upd H0 A o) H adr P p ns s:=
 ⟨L.inj,fun x hx=>by rw[aj (ne x hx)];exact L.new x hx,fun b u e=>by
  by_cases z:b=A
  ·rw[z,upd_same] at e;cases e;rw[z];exact h
  ·rw[aj z] at e;exact L.all b u e,L.nd,L.dom,L.at',L.kp⟩
theorem sA{tb:TS}{Dn:Ends}{j:Nat}(L:Lw H0 H adr P p ns s)(h:Ev t σ H (.ref (adr .y)))(Pv:Hp->Nat->St->Hp->Prop)(hP:∀H1 i σ' H',Pv H1 i σ' H'->Same H1 H')(h0:∀H1 H',Same H0 H1->Lw H1 H' adr P p ns s->Pv H1 0 σ H')
  (hs:∀H1 (i:Nat) n σ' H' (D':Ends),ns[i]?=some n->Pv H1 i σ' H'->D'.rt=Dn.rt->(∀σ2 H2,Pv H1 (i+1) σ2 H2->D'.nx σ2 H2)->tb D' (σ'.set j (some (.str n))) H')
  (q:∀H1 σ' H',Same H0 H1->Pv H1 ns.length σ' H'->Dn.nx σ' H'):tForG (iList K (tCB (fun xs H Q=>∃(d:Addr) (kvs:List (Key×V)) (ss:List Str),xs=[V.ref d]/\H d=some (.dK kvs)/\kvs.map (·.1)=ss.map (fun x=>(Sum.inr x:Key))/\∀l,H l=none->Q (.ref l) (upd H l (.lst (ss.map V.str)))) (tCons (tDGet t (tC (.str (Str.ofString "things")))) tNil))) (gName j) tb Dn σ H:=
 qS L h H _ (Same.refl H) fun H2 s2=>⟨adr .t,_,ns,rfl,s2 _ _ (L.at' .t trivial),by rw[List.map_map];rfl,fun A hA=>by
  have L2:=L.same s2
  have nA:=fun x hx=>L2.ne_new hA x hx
  have L3:=(L2.same ((Same.refl H2).new (o:= .lst (ns.map V.str)) hA)).more upd_same nA
  have h0A:H0 A=none:=by
   cases e:H0 A with
   |none=>rfl
   |some o=>have:=L2.all _ _ e;rw[hA] at this;cases this
  have k0:Same H0 (upd H0 A (.lst (ns.map V.str))):=(Same.refl H0).new h0A
  refine⟨A,rfl,⟨ns.map V.str,SqL.of upd_same⟩,?_⟩
  refine bR (xs:=ns.map V.str) (Pv (upd H0 A (.lst (ns.map V.str)))) (h0 _ _ k0 L3) (fun i σ' H' _ pv=>aR.list (SqL.of (hP _ i σ' H' pv _ _ upd_same))) ?_ ?_
  ·intro i u σ' H' hu pv
   rw[List.getElem?_map] at hu
   obtain⟨n,hn,rfl⟩:=Option.map_eq_some_iff.mp hu
   exact hs _ i n σ' H' _ hn pv rfl fun σ2 H2 p2=>p2
  ·intro σ' H' pv
   rw[List.length_map] at pv
   exact q _ σ' H' k0 pv⟩
end
end Fb
end
section
set_option maxHeartbeats 2000000
namespace Fb
open PySem L2
open Y
section
variable {σ : St} {H0 H1 H H' : Hp} {K : PySem.W.Frag} {adr : Pc → Addr} {P : Addr} {p : Pl} {ns : List Str} {s : S Str} {t tk tx tw td : TE} {Dn : Ends}
theorem BG{d:Int}{b:Bool}(L:Lw H0 H adr P p ns s)(h:Ev t σ H (.ref (adr .y)))(hd:isDesk p d=true)(hi:Ev td σ H (.int d))(hv:Ev tw σ H (.bl b))(nx:∀H',Lw H0 H' adr P p ns {s with up:=set1 s.up d b}->Dn.nx σ H'):tAsg tw (we (tDGet t (tC (.str (Str.ofString "up")))) td pO) Dn σ H:=by
 obtain⟨i,rfl,hl⟩:=dq hd
 exact va (i:=i) hv (xT L h) hi (L.at' .u trivial) (by rw[List.length_map,List.length_range];exact hl) fun H2 s2=>nx _ ((L.same s2).setUp i b)
theorem BE{d v:Int}(L:Lw H0 H adr P p ns s)(h:Ev t σ H (.ref (adr .y)))(hd:isDesk p d=true)(hi:Ev td σ H (.int d))(hv:Ev tw σ H (.int v))(nx:∀H',Lw H0 H' adr P p ns {s with off:=set1 s.off d v}->Dn.nx σ H'):tAsg tw (we (tDGet t (tC (.str (Str.ofString "offsets")))) td pO) Dn σ H:=by
 obtain⟨i,rfl,hl⟩:=dq hd
 exact va (i:=i) hv (vw L h) hi (L.at' .o trivial) (by rw[List.length_map,List.length_range];exact hl) fun H2 s2=>nx _ ((L.same s2).setOff i v)
theorem Ab{v:Int}(L:Lw H0 H adr P p ns s)(h:Ev t σ H (.ref (adr .y)))(hv:Ev tw σ H (.int v))(nx:∀H',Lw H0 H' adr P p ns {s with time:=v}->Dn.nx σ H'):sDPut t (tC (.str (Str.ofString "time"))) tw Dn σ H:=
 tS (k:=Sum.inr (Str.ofString "time")) hv h cr (L.at' .y trivial) (Nat.le_of_ble_eq_true rfl) fun H2 s2=>nx _ (by rw[tE];exact(L.same s2).setTime v)
theorem zZ{d:Int}(L:Lw H0 H adr P p ns s)(h:Ev t σ H (.ref (adr .y)))(hd:isDesk p d=true)(hi:Ev td σ H (.int d))(nx:∀H' adr',adr' .y=adr .y->Lw H0 H' adr' P p ns {s with cp:=set1 s.cp d fun _=>none}->Dn.nx σ H'):tAsg tDNewK (we (tDGet t (tC (.str (Str.ofString "copies")))) td pO) Dn σ H:=by
 obtain⟨i,rfl,hl⟩:=dq hd
 exact xq (i:=i) jF (vv L h) hi (L.at' .c trivial) (by rw[List.length_map,List.length_range];exact hl) fun r H2 hr0 hr s2=>nx _ (set1 adr (.cd i) r) (ao (show Pc.y≠Pc.cd i from fun y=>nomatch y)) (L.newCd hl hr0 s2 hr CopL.nil)
def ow:Sp:=fun vs H Q _=>∃(H0:Hp) (adr:Pc->Addr) (P:Addr) (p:Pl) (ns:List Str) (s:S Str) (d:Int) (w:Str) (δ:Deed Str),vs=[.ref (adr .y),.str w,.int d]/\Yl H adr H0 P p ns s/\isDesk p d=true/\Down5 s/\((w=Str.ofString "stop"/\δ= .stop d)∨(w=Str.ofString "wake"/\δ= .wake d))/\tF H0 adr P p ns (Y.step p s δ) Q
def pE(d:Int):Th->Th:=fun t=>if t.keeper=d then {t with lent:=fun _=>none,waiting:=none} else t
def jI(d u:Int)(was:Bool):Th->Th:=fun t=>if t.keeper=d/\was=false then {t with quiet:=some u} else t
theorem zj{d:Int}(h:Down5 s)(hd:isDesk p d=true)(hn:∀n,n∈ns↔(s.th n).isSome=true):Y.step p s (.stop d)=(.bl (s.up d),{walk {s with up:=set1 s.up d false} ns (pE d) ns.length with cp:=set1 s.cp d fun _=>none}):=by
 rw[tD (s:={s with up:=set1 s.up d false}) hn]
 simp only[Y.step,hd,if_true]
 cases e:s.up d with
 |true=>rfl
 |false=>
  rw[if_neg (by simp)]
  exact congrArg _ (wR h e).symm
theorem zp{d:Int}(hd:isDesk p d=true)(hn:∀n,n∈ns↔(s.th n).isSome=true):Y.step p s (.wake d)=(.bl (!s.up d),walk {s with up:=set1 s.up d true} ns (jI d (s.clock d+p.length+2*p.bound) (s.up d)) ns.length):=by
 rw[tD (s:={s with up:=set1 s.up d true}) hn]
 simp only[Y.step,hd,if_true]
 cases e:s.up d with
 |false=>
  rw[if_neg (by simp)]
  have:jI d (s.clock d+p.length+2*p.bound) false=fun t=>if t.keeper=d then {t with quiet:=some (s.clock d+p.length+2*p.bound)} else t:=by
   funext t
   simp[jI]
  rw[this]
  rfl
 |true=>
  rw[if_pos rfl]
  have:jI d (s.clock d+p.length+2*p.bound) true=fun t=>t:=by
   funext t
   simp[jI]
  rw[this]
  obtain⟨tm,off,up,cp,th⟩:=s
  simp only[Bool.true_eq_false,and_false,if_false,Bool.not_true,Prod.mk.injEq,S.mk.injEq,true_and]
  refine⟨?_,?_⟩
  ·funext x
   by_cases z:x=d
   ·rw[z,ai];exact e
   ·rw[ao z]
  ·funext n
   cases th n<;>rfl
end
end Fb
end
section
set_option maxHeartbeats 2000000
namespace Fb
open PySem L2
open Y
section
variable {σ : St} {H0 H1 H H' : Hp} {K : PySem.W.Frag} {adr : Pc → Addr} {P : Addr} {p : Pl} {ns : List Str} {s : S Str} {t tk tx tw td ta tb tc te : TE} {Dn : Ends} {E : XK} {sp : Sp} {x y z u : V}
theorem kT(ha:Ev ta σ H x)(hb:Ev tb σ H y)(h:∀H',Same H H'->sp [x,y] H' Dn.rt E):tRet (tCall sp [] E (tCons ta (tCons tb tNil))) Dn σ H:=
 ha H _ (Same.refl H) fun H2 s2=>hb H2 _ s2 fun H3 s3=>h H3 (s2.trans s3)
theorem kU(ha:Ev ta σ H x)(hb:Ev tb σ H y)(hc:Ev tc σ H z)(h:∀H',Same H H'->sp [x,y,z] H' Dn.rt E):tRet (tCall sp [] E (tCons ta (tCons tb (tCons tc tNil)))) Dn σ H:=
 ha H _ (Same.refl H) fun H2 s2=>hb H2 _ s2 fun H3 s3=>hc H3 _ (s2.trans s3) fun H4 s4=>h H4 (s2.trans (s3.trans s4))
theorem wM(ha:Ev ta σ H x)(hb:Ev tb σ H y)(hc:Ev tc σ H z)(he:Ev te σ H u)(h:∀H',Same H H'->sp [x,y,z,u] H' Dn.rt E):tRet (tCall sp [] E (tCons ta (tCons tb (tCons tc (tCons te tNil))))) Dn σ H:=
 ha H _ (Same.refl H) fun H2 s2=>hb H2 _ s2 fun H3 s3=>hc H3 _ (s2.trans s3) fun H4 s4=>he H4 _ (s2.trans (s3.trans s4)) fun H5 s5=>h H5 (s2.trans (s3.trans (s4.trans s5)))
theorem Cb{i j:Int}(ha:Rd1 ta σ H0 (.int i))(hb:Rd1 tb σ H0 (.int j)):Rd1 (tOp (rI0 fun a b=> .bl (decide (b<a))) ta tb) σ H0 (.bool (decide (j<i))):=fun H Q s q=>
 ha H _ s fun v H1 hv s1=>hb H1 _ (s.trans s1) fun u H2 hu s2=>by
  obtain rfl:=bf hv
  obtain rfl:=bf hu
  exact⟨i,j,rfl,rfl,q _ H2 (.bl _) (s1.trans s2)⟩
theorem jQ{n:Str}(L:Lw H0 H adr P p ns s)(h:Ev t σ H (.ref (adr .y)))(hk:Ev tk σ H (.str n)):Ev (tDNotIn tk (tDGet t (tC (.str (Str.ofString "things"))))) σ H (.bl (!(s.th n).isSome)):=fun H1 Q s1 q=>
 hk H1 _ s1 fun H2 s2=>qS L h H2 _ (s1.trans s2) fun H3 s3=>⟨adr .t,_,rfl,gb.k (k:=Sum.inr n) ((s1.trans (s2.trans s3)) _ _ (L.at' .t trivial)),by
  have e:(valV (ns.map fun n=>((Sum.inr n:Key),V.ref (adr (.td n)))) (Sum.inr n)).isSome=(s.th n).isSome:=by
   rw[sg]
   by_cases z:n∈ns
   ·rw[if_pos z,(L.dom n).mp z];rfl
   ·rw[if_neg z]
    cases hh:(s.th n).isSome with
    |true=>exact absurd ((L.dom n).mpr hh) z
    |false=>rfl
  rw[e]
  exact q H3 (s2.trans s3)⟩
def cE:Deed Str->Str
 | .pass _=>Str.ofString "pass"
 | .shift _ _=>Str.ofString "shift"
 | .read _ _=>Str.ofString "read"
 | .change _ _ _=>Str.ofString "change"
 | .tries _=>Str.ofString "try"
 | .back _ _=>Str.ofString "back"
 | .stop _=>Str.ofString "stop"
 | .wake _=>Str.ofString "wake"
def Bf:Deed Str->List PyData
 | .pass m=>[.int m]
 | .shift d o=>[.int d,.int o]
 | .read d n=>[.int d,.str n]
 | .change d n v=>[.int d,.str n,.int v]
 | .tries n=>[.str n]
 | .back d n=>[.int d,.str n]
 | .stop d=>[.int d]
 | .wake d=>[.int d]
end
end Fb
end
section
set_option maxHeartbeats 2000000
namespace Fb
open PySem L2
open Y
section
variable {σ : St} {H0 H1 H H' : Hp} {K : PySem.W.Frag} {adr : Pc → Addr} {P : Addr} {p : Pl} {ns : List Str} {s : S Str}
def ye(k v:Int):Th:=⟨k,v,0,fun _=>none,none,none⟩
theorem iS{x:Pc}{n:Str}(hx:x.val p (ns++ [n])):x.val p ns∨x= .td n∨x= .ln n:=by
 cases x with
 |td m=>
  rcases List.mem_append.mp (show m∈ns++ [n] from hx) with z |z
  ·exact Or.inl z
  ·exact Or.inr (Or.inl (by rw[List.mem_singleton.mp z]))
 |ln m=>
  rcases List.mem_append.mp (show m∈ns++ [n] from hx) with z |z
  ·exact Or.inl z
  ·exact Or.inr (Or.inr (by rw[List.mem_singleton.mp z]))
 |cd i=>exact Or.inl hx
 |_=>exact Or.inl trivial
theorem vP{x:Pc}{n:Str}(hn:n∉ns)(hx:x.val p ns):x≠ .td n/\x≠ .ln n:=by
 constructor
 ·rintro rfl;exact hn hx
 ·rintro rfl;exact hn hx
theorem Lw.add(L:Lw H0 H adr P p ns s){n:Str}(hn:n∉ns){a l w q:Addr}{k v:Int}(hd:isDesk p k=true)(hk:∀b o,H b=some o->b≠adr .t->H' b=some o)(fa:H a=none)(fl:H l=none)(fw:H w=none)(fq:H q=none)(hal:a≠l)
  (ht:H' (adr .t)=some (.dK ((ns++ [n]).map fun m=>((Sum.inr m:Key),V.ref (set1 (set1 adr (.td n) a) (.ln n) l (.td m))))))(ha:H' a=some (.dK (tv (.int k) (.int v) (.int 0) (.ref l) (.ref w) (.ref q))))(hl:H' l=some (.dK []))(hw:H' w=some (.lst []))(hq:H' q=some (.lst [])):
  Lw H0 H' (set1 (set1 adr (.td n) a) (.ln n) l) P p (ns++ [n]) {s with th:=set1 s.th n (some (ye k v))}:=by
 have eT:set1 (set1 adr (.td n) a) (.ln n) l (.td n)=a:=by rw[ao (show Pc.td n≠Pc.ln n from fun y=>nomatch y),ai]
 have eL:set1 (set1 adr (.td n) a) (.ln n) l (.ln n)=l:=ai
 have eO:∀x,x≠ .td n->x≠ .ln n->set1 (set1 adr (.td n) a) (.ln n) l x=adr x:=fun x h1 h2=>by rw[ao h2,ao h1]
 have eV:∀x,x.val p ns->set1 (set1 adr (.td n) a) (.ln n) l x=adr x:=fun x hx=>eO x (vP hn hx).1 (vP hn hx).2
 have na:=fun x hx=>L.ne_new fa x hx
 have nl:=fun x hx=>L.ne_new fl x hx
 have free:∀{b:Addr},H b=none->H0 b=none:=fun h=>L.all.free h
 have imm:∀{w':Addr} {o:Option Int},Imm H p ns adr w' o->Imm H' p (ns++ [n]) (set1 (set1 adr (.td n) a) (.ln n) l) w' o:=fun {w' o} h=>by
  refine⟨hk _ _ h.1 (h.2 .t trivial).symm,fun x hx=>?_⟩
  rcases iS hx with z |rfl |rfl
  ·rw[eV x z];exact h.2 x z
  ·rw[eT];intro y;have:=h.1;rw[<-y,fa] at this;cases this
  ·rw[eL];intro y;have:=h.1;rw[<-y,fl] at this;cases this
 have immN:∀{w':Addr},H w'=none->H' w'=some (.lst [])->Imm H' p (ns++ [n]) (set1 (set1 adr (.td n) a) (.ln n) l) w' none:=fun {w'} f h=>by
  refine⟨h,fun x hx=>?_⟩
  rcases iS hx with z |rfl |rfl
  ·rw[eV x z];exact L.ne_new f x z
  ·rw[eT];intro y;rw[<-y,ha] at h;cases h
  ·rw[eL];intro y;rw[<-y,hl] at h;cases h
 have tup:∀b xs,H b=some (.tup xs)->H' b=some (.tup xs):=fun b xs e=>hk b _ e (cu e (L.at' .t trivial) fun y=>nomatch y)
 have thn:∀m t,set1 s.th n (some (ye k v)) m=some t->(m=n/\t=ye k v)∨(m≠n/\s.th m=some t):=fun m t h=>by
  by_cases z:m=n
  ·rw[z,ai] at h;cases h;exact Or.inl ⟨z,rfl⟩
  ·rw[ao z] at h;exact Or.inr ⟨z,h⟩
 refine⟨fun x x' hx hx' e=>?_,fun x hx=>?_,fun b o e=>hk b o (L.all b o e) (aq e (L.new .t trivial)),?_,fun m=>?_,fun x hx=>?_,fun m t hm=>?_⟩
 ·rcases iS hx with z |rfl |rfl<;>rcases iS hx' with z' |rfl |rfl
  ·rw[eV x z,eV x' z'] at e;exact L.inj x x' z z' e
  ·rw[eV x z,eT] at e;exact absurd e (na x z)
  ·rw[eV x z,eL] at e;exact absurd e (nl x z)
  ·rw[eV x' z',eT] at e;exact absurd e.symm (na x' z')
  ·rfl
  ·rw[eT,eL] at e;exact absurd e hal
  ·rw[eV x' z',eL] at e;exact absurd e.symm (nl x' z')
  ·rw[eT,eL] at e;exact absurd e.symm hal
  ·rfl
 ·rcases iS hx with z |rfl |rfl
  ·rw[eV x z];exact L.new x z
  ·rw[eT];exact free fa
  ·rw[eL];exact free fl
 ·rw[List.nodup_append]
  exact⟨L.nd,by simp,fun a ha b hb=>by
   rw[List.mem_singleton.mp hb]
   exact fun y=>hn (y▸ha)⟩
 ·rw[List.mem_append,L.dom m,List.mem_singleton]
  show _↔(set1 s.th n _ m).isSome=true
  by_cases z:m=n
  ·rw[z,ai];simp
  ·rw[ao z];simp[z]
 ·cases x with
  |y=>
   show H' _=_
   rw[eV .y trivial,eV .o trivial,eV .u trivial,eV .c trivial,eV .t trivial]
   exact hk _ _ (L.at' .y trivial) fun y=>nomatch L.inj .y .t trivial trivial y
  |o=>
   show H' _=_
   rw[eV .o trivial]
   exact hk _ _ (L.at' .o trivial) fun y=>nomatch L.inj .o .t trivial trivial y
  |u=>
   show H' _=_
   rw[eV .u trivial]
   exact hk _ _ (L.at' .u trivial) fun y=>nomatch L.inj .u .t trivial trivial y
  |c=>
   show H' _=_
   rw[eV .c trivial,List.map_congr_left fun(i:Nat) hi=>by rw[eO (.cd i) (fun y=>nomatch y) (fun y=>nomatch y)]]
   exact hk _ _ (L.at' .c trivial) fun y=>nomatch L.inj .c .t trivial trivial y
  |t=>
   show H' _=_
   rw[eV .t trivial]
   exact ht
  |cd i=>
   obtain⟨kvs,h1,h2⟩:=L.at' (.cd i) hx
   refine⟨kvs,?_,?_⟩
   ·rw[eO (.cd i) (fun y=>nomatch y) (fun y=>nomatch y)]
    exact hk _ _ h1 fun y=>nomatch L.inj (.cd i) .t hx trivial y
   ·exact⟨h2.nd,fun kv hkv=>(h2.ks kv hkv).imp fun m h=>⟨h.1,List.mem_append_left _ h.2⟩,h2.no,fun m x e=>(h2.so m x e).imp fun b h=>⟨h.1,tup _ _ h.2⟩⟩
  |td m=>
   intro t hm
   rcases thn m t hm with ⟨rfl,rfl⟩ |⟨z,h⟩
   ·refine⟨w,q,?_,immN fw hw,immN fq hq⟩
    rw[eT,eL]
    exact ha
   ·have hmn:=L.mem h
    obtain⟨wa,qa,h1,h2,h3⟩:=L.at' (.td m) hmn t h
    refine⟨wa,qa,?_,imm h2,imm h3⟩
    rw[eV (.td m) hmn,eV (.ln m) hmn]
    exact hk _ _ h1 fun y=>nomatch L.inj (.td m) .t hmn trivial y
  |ln m=>
   intro t hm
   rcases thn m t hm with ⟨rfl,rfl⟩ |⟨z,h⟩
   ·exact⟨[],by rw[eL];exact hl,NoteR.nil⟩
   ·have hmn:=L.mem h
    obtain⟨kvs,h1,h2⟩:=L.at' (.ln m) hmn t h
    refine⟨kvs,?_,h2⟩
    rw[eV (.ln m) hmn]
    exact hk _ _ h1 fun y=>nomatch L.inj (.ln m) .t hmn trivial y
 ·rcases thn m t hm with ⟨rfl,rfl⟩ |⟨z,h⟩
  ·exact hd
  ·exact L.kp m t h
end
end Fb
end
section
set_option maxHeartbeats 2000000
namespace Fb
open PySem L2
open Y
section
variable {σ : St} {H0 H1 H H' : Hp} {K : PySem.W.Frag} {adr : Pc → Addr} {P : Addr} {p : Pl} {ns : List Str} {s : S Str}
theorem xN{ta:TA}{n k m:Nat}{Q:VK}(hs:RdA ta σ H [.int (m:Int)])(hl:m<=900)(hk:σ.length<=k)
  (q:∀D H' (cds:Nat->Addr),H D=none->H' D=some (.lst ((List.range m).map fun i=>V.ref (cds i)))->(∀i,i<m->H (cds i)=none/\H' (cds i)=some (.dK []))->(∀i j,i<m->j<m->cds i=cds j->i=j)->Same H H'->Q (.ref D) H'):tLc n (iRng1 ta) (gName k) tYes tDNewK σ H Q:=by
 refine hs H _ (Same.refl H) fun vs H1 hv s1=>?_
 obtain⟨w,r,rfl,g,hv⟩:=Dhs.one hv
 obtain rfl:=Dhs.none hv
 obtain rfl:=bf g
 refine⟨m,rfl,by omega,by omega,fun D hD=>?_⟩
 rw[Int.toNat_natCast]
 refine kL (xs:=nQ 0 m) (fun i H'=>∃ys,H' D=some (.lst ys)/\Same H1 H'/\ys.length=i/\(∀j,j<i->∃a,ys[j]?=some (V.ref a)/\H1 a=none/\H' a=some (.dK []))/\∀(j j':Nat) (a:Addr),ys[j]?=some (V.ref a)->ys[j']?=some (V.ref a)->j=j') ?_ ?_ ?_ ?_
 ·exact⟨[],upd_same,(Same.refl H1).new hD,rfl,fun j h=>absurd h (by omega),fun j j' a h=>by simp at h⟩
 ·intro _ _ _ _
  exact aR.range
 ·rintro i x H' hx ⟨ys,hys,sm,hyl,hd,inj⟩
  obtain⟨hi,rfl⟩:=gZ hx
  refine⟨nJ hk,?_⟩
  dsimp only[tYes]
  rw[if_pos rfl]
  intro a ha
  have S:=(Same.refl H').new (o:= .dK []) ha
  have haD:a≠D:=fun z=>by rw[z,hys] at ha;cases ha
  refine⟨ys,S _ _ hys,bu (by omega),ys++ [.ref a],upd_same,fun b o e=>?_,by rw[List.length_append,hyl];rfl,fun j hj=>?_,fun j j' b h1 h2=>?_⟩
  ·rw[aj (aq e hD)];exact S _ _ (sm _ _ e)
  ·by_cases z:j<i
   ·obtain⟨b,h1,h2,h3⟩:=hd j z
    have hbD:b≠D:=fun y=>by rw[y,hys] at h3;cases h3
    exact⟨b,by rw[List.getElem?_append_left (by omega)];exact h1,h2,by rw[aj hbD];exact S _ _ h3⟩
   ·have:j=ys.length:=by omega
    refine⟨a,by rw[this];simp,sm.free ha,by rw[aj haD,upd_same]⟩
  ·have old:∀j b,ys[j]?=some (V.ref b)->b≠a:=fun j b h y=>by
    have hj:j<i:=by
     have:=(List.getElem?_eq_some_iff.mp h).1
     omega
    obtain⟨c,g1,g2,g3⟩:=hd j hj
    rw[g1] at h
    cases h
    rw[y,ha] at g3
    cases g3
   have sp:∀j b,(ys++ [V.ref a])[j]?=some (V.ref b)->(ys[j]?=some (V.ref b))∨(j=ys.length/\b=a):=fun j b h=>by
    by_cases z:j<ys.length
    ·rw[List.getElem?_append_left z] at h;exact Or.inl h
    ·rw[List.getElem?_append_right (by omega)] at h
     have:j - ys.length=0:=by
      have:=(List.getElem?_eq_some_iff.mp h).1
      simp at this
      omega
     rw[this] at h
     simp at h
     exact Or.inr ⟨by omega,h.symm⟩
   rcases sp j b h1 with z |⟨z,zb⟩<;>rcases sp j' b h2 with z' |⟨z',zb'⟩
   ·exact inj j j' b z z'
   ·exact absurd zb' (old j b z)
   ·exact absurd zb (old j' b z')
   ·rw[z,z']
 ·rintro H' ⟨ys,hys,sm,hyl,hd,inj⟩
  rw[iJ] at hyl hd
  let cds:Nat->Addr:=fun i=>match ys[i]? with
   |some (V.ref a)=>a
   |_=>D
  have hc:∀i,i<m->ys[i]?=some (V.ref (cds i))/\H1 (cds i)=none/\H' (cds i)=some (.dK []):=fun i hi=>by
   obtain⟨a,h1,h2,h3⟩:=hd i hi
   have:cds i=a:=by show(match ys[i]? with |some (V.ref a)=>a |_=>D)=a;rw[h1]
   rw[this]
   exact⟨h1,h2,h3⟩
  refine q D H' cds (s1.free hD) ?_ (fun i hi=>⟨s1.free (hc i hi).2.1,(hc i hi).2.2⟩) (fun i j hi hj e=>?_) (s1.trans sm)
  ·rw[hys]
   congr 2
   apply List.ext_getElem?
   intro i
   by_cases z:i<m
   ·rw[(hc i z).1,List.getElem?_map,List.getElem?_range z];rfl
   ·rw[List.getElem?_eq_none (by omega),List.getElem?_eq_none (by simp;omega)]
  ·have h1:=(hc i hi).1
   have h2:=(hc j hj).1
   rw[<-e] at h2
   exact inj i j _ h1 h2
def vS(y o u c t:Addr)(cds:Nat->Addr):Pc->Addr
 | .y=>y
 | .o=>o
 | .u=>u
 | .c=>c
 | .t=>t
 | .cd i=>cds i
 |_=>y
def mo:S Str:=⟨0,fun _=>0,fun _=>true,fun _ _=>none,fun _=>none⟩
theorem Lw.start{y o u c t:Addr}{cds:Nat->Addr}(all:Same H0 H)(n:List.Nodup [y,o,u,c,t])(ny:H0 y=none)(no:H0 o=none)(nu:H0 u=none)(nc:H0 c=none)(nt:H0 t=none)(ncd:∀i,i<p.count->H0 (cds i)=none)(inj:∀i j,i<p.count->j<p.count->cds i=cds j->i=j)(dis:∀i,i<p.count->cds i∉[y,o,u,c,t])
  (hy:H y=some (.dK (yv (.ref P) (.int 0) (.ref o) (.ref u) (.ref c) (.ref t))))(ho:H o=some (.lst ((List.range p.count).map fun _=> .int 0)))(hu:H u=some (.lst ((List.range p.count).map fun _=> .bl true)))(hc:H c=some (.lst ((List.range p.count).map fun i=> .ref (cds i))))(ht:H t=some (.dK []))(hcd:∀i,i<p.count->H (cds i)=some (.dK [])):Lw H0 H (vS y o u c t cds) P p [] mo:=by
 simp only[List.nodup_cons,List.mem_cons,List.not_mem_nil,or_false,not_or,List.nodup_nil,and_true,not_false_eq_true] at n
 obtain⟨⟨n1,n2,n3,n4⟩,⟨n5,n6,n7⟩,⟨n8,n9⟩,n10⟩:=n
 refine⟨fun x x' hx hx' e=>?_,fun x hx=>?_,all,List.nodup_nil,fun m=>?_,fun x hx=>?_,fun m t h=>(nomatch h)⟩
 ·cases x<;>cases x'<;>first
   |rfl
   |exact absurd (show _∈([]:List Str) from hx) List.not_mem_nil
   |exact absurd (show _∈([]:List Str) from hx') List.not_mem_nil
   |(rename_i i j;rw[inj i j hx hx' e])
   |(rename_i i;have h:=dis i hx;rw[show cds i=_ from e] at h;exact absurd h (by simp only[vS,List.mem_cons,true_or,or_true,not_true_eq_false,not_false_eq_true]))
   |(rename_i i;have h:=dis i hx';rw[show cds i=_ from e.symm] at h;exact absurd h (by simp only[vS,List.mem_cons,true_or,or_true,not_true_eq_false,not_false_eq_true]))
   |(exfalso;simp only[vS] at e;first |exact n1 e |exact n2 e |exact n3 e |exact n4 e |exact n5 e |exact n6 e |exact n7 e |exact n8 e |exact n9 e |exact n10 e |exact n1 e.symm |exact n2 e.symm |exact n3 e.symm |exact n4 e.symm |exact n5 e.symm |exact n6 e.symm |exact n7 e.symm |exact n8 e.symm |exact n9 e.symm |exact n10 e.symm)
 ·cases x with
  |y=>exact ny
  |o=>exact no
  |u=>exact nu
  |c=>exact nc
  |t=>exact nt
  |cd i=>exact ncd i hx
  |td m=>exact absurd hx (by simp[Pc.val])
  |ln m=>exact absurd hx (by simp[Pc.val])
 ·simp[mo]
 ·cases x with
  |y=>exact hy
  |o=>exact ho
  |u=>exact hu
  |c=>exact hc
  |t=>exact ht
  |cd i=>exact⟨[],hcd i hx,CopL.nil⟩
  |td m=>exact absurd hx (by simp[Pc.val])
  |ln m=>exact absurd hx (by simp[Pc.val])
end
end Fb
end
section
set_option maxHeartbeats 2000000
namespace Fb
open PySem L2
open Y
section
variable {σ : St} {H0 H1 H H' : Hp} {K : PySem.W.Frag} {ta tb t1 t2 t3 t4 : TE} {Q : VK}
theorem vc{v:V}{m:Nat}(ha:Ev ta σ H0 v)(hb:Ev tb σ H0 (.int (m:Int)))(hm:m<=900):EvN (tOp CQ (tLst (tCons ta tNil)) tb) σ H0 (.lst ((List.range m).map fun _=>v)):=fun H Q s q=>
 ha H _ s fun H1 s1=>⟨small_of (Nat.le_of_ble_eq_true rfl),fun l hl=>by
  have S:=(Same.refl H1).new (o:= .lst [v]) hl
  refine hb _ _ (s.trans (s1.trans S)) fun H2 s2=>⟨l,(m:Int),[v],rfl,rfl,s2 _ _ upd_same,by omega,by omega,small_of (by simp;omega),fun r hr=>?_⟩
  have e:(List.replicate (m:Int).toNat [v]).flatten=(List.range m).map fun _=>v:=by
   rw[Int.toNat_natCast]
   clear hm hb q
   induction m with
   |zero=>rfl
   |succ k ih=>rw[List.range_succ,List.map_append,<-ih,List.replicate_succ',List.flatten_append];rfl
  rw[e]
  have f2:H1 r=none:=(S.trans s2).free hr
  exact q r _ (s1.free f2) upd_same (s1.trans ((S.trans s2).trans ((Same.refl H2).new hr)))⟩
theorem Ct{k1 k2 k3:Str}{v1 v2:V}{o:HO}(h1:Ev t1 σ H v1)(h2:Ev t2 σ H v2)(h3:EvN t3 σ H o)(hm:∀a b c:V,gT [] [((Sum.inr k1:Key),a),(Sum.inr k2,b),(Sum.inr k3,c)]=[((Sum.inr k1:Key),a),(Sum.inr k2,b),(Sum.inr k3,c)])
  (q:∀y r H',H y=none->H r=none->y≠r->H' y=some (.dK [(Sum.inr k1,v1),(Sum.inr k2,v2),(Sum.inr k3,.ref r)])->H' r=some o->Same H H'->Q (.ref y) H'):zk [(tC (.str k1),t1),(tC (.str k2),t2),(tC (.str k3),t3)] σ H Q:=fun y hy=>by
 have S:=(Same.refl H).new (o:= .dK []) hy
 refine h1 _ _ S fun H1 s1=>h2 _ _ (S.trans s1) fun H2 s2=>h3 _ _ (S.trans (s1.trans s2)) fun r H3 hr0 hr s3=>?_
 have hy3:H3 y=some (.dK []):=(s1.trans (s2.trans s3)) _ _ upd_same
 have nyr:y≠r:=fun z=>by
  have:=(s1.trans s2) y _ upd_same
  rw[z,hr0] at this;cases this
 refine⟨hy3,[(Sum.inr k1,v1),(Sum.inr k2,v2),(Sum.inr k3,.ref r)],rfl,Nat.le_of_ble_eq_true rfl,?_⟩
 rw[hm]
 exact q y r _ hy ((S.trans (s1.trans s2)).free hr0) nyr upd_same (by rw[aj nyr.symm];exact hr) fun b u e=>by
  rw[aj (aq e hy)]
  exact(S.trans (s1.trans (s2.trans s3))) _ _ e
theorem Cu{k1 k2 k3 k4:Str}{v1 v2 v3:V}{o:HO}(h1:Ev t1 σ H v1)(h2:Ev t2 σ H v2)(h3:Ev t3 σ H v3)(h4:EvN t4 σ H o)(hm:∀a b c d:V,gT [] [((Sum.inr k1:Key),a),(Sum.inr k2,b),(Sum.inr k3,c),(Sum.inr k4,d)]=[((Sum.inr k1:Key),a),(Sum.inr k2,b),(Sum.inr k3,c),(Sum.inr k4,d)])
  (q:∀y r H',H y=none->H r=none->y≠r->H' y=some (.dK [(Sum.inr k1,v1),(Sum.inr k2,v2),(Sum.inr k3,v3),(Sum.inr k4,.ref r)])->H' r=some o->Same H H'->Q (.ref y) H'):zk [(tC (.str k1),t1),(tC (.str k2),t2),(tC (.str k3),t3),(tC (.str k4),t4)] σ H Q:=fun y hy=>by
 have S:=(Same.refl H).new (o:= .dK []) hy
 refine h1 _ _ S fun H1 s1=>h2 _ _ (S.trans s1) fun H2 s2=>h3 _ _ (S.trans (s1.trans s2)) fun H3 s3=>h4 _ _ (S.trans (s1.trans (s2.trans s3))) fun r H4 hr0 hr s4=>?_
 have hy3:H4 y=some (.dK []):=(s1.trans (s2.trans (s3.trans s4))) _ _ upd_same
 have nyr:y≠r:=fun z=>by
  have:=(s1.trans (s2.trans s3)) y _ upd_same
  rw[z,hr0] at this;cases this
 refine⟨hy3,[(Sum.inr k1,v1),(Sum.inr k2,v2),(Sum.inr k3,v3),(Sum.inr k4,.ref r)],rfl,Nat.le_of_ble_eq_true rfl,?_⟩
 rw[hm]
 exact q y r _ hy ((S.trans (s1.trans (s2.trans s3))).free hr0) nyr upd_same (by rw[aj nyr.symm];exact hr) fun b u e=>by
  rw[aj (aq e hy)]
  exact(S.trans (s1.trans (s2.trans (s3.trans s4)))) _ _ e
end
end Fb
end
section
set_option maxHeartbeats 2000000
namespace Fb
open PySem L2
open Y
section
variable {σ : St} {H0 H1 H H' : Hp} {K : PySem.W.Frag} {adr : Pc → Addr} {P : Addr} {p : Pl} {ns : List Str} {s : S Str} {t tk : TE} {Dn : Ends}
theorem C3{tb:TS}{i0 j k l n:Nat}{v:V}{es:List (Str×Int×Int)}(Pv:Nat->St->Hp->Prop)(hv:σ[i0]?=some (some v))(h:Dh H0 v (.list (es.map fun e=> .tuple [.str e.1,.int e.2.1,.int e.2.2])))(hn:n=3)(hP:∀i σ' H',Pv i σ' H'->Same H0 H')(h0:Pv 0 σ H)
  (hs:∀(i:Nat) e σ' H' (D':Ends),es[i]?=some e->Pv i σ' H'->D'.rt=Dn.rt->(∀σ2 H2,Pv (i+1) σ2 H2->D'.nx σ2 H2)->tb D' (((σ'.set j (some (.str e.1))).set k (some (.int e.2.1))).set l (some (.int e.2.2))) H')
  (q':∀σ' H',Pv es.length σ' H'->Dn.nx σ' H'):tForG (iList K (tVar i0)) (gTup K n (gCons (gName j) (gCons (gName k) (gCons (gName l) gNil)))) tb Dn σ H:=by
 subst hn
 obtain⟨A,xs,rfl,h2,h3⟩:=cc h
 refine⟨_,hv,A,rfl,⟨xs,SqL.of (hP 0 σ H h0 _ _ h2)⟩,?_⟩
 refine bR (xs:=xs) Pv h0 (fun i σ' H' _ pv=>aR.list (SqL.of (hP i σ' H' pv _ _ h2))) ?_ ?_
 ·intro i v σ' H' hv pv
  obtain⟨d,g1,g2⟩:=h3.get hv
  rw[List.getElem?_map] at g1
  obtain⟨e,he,rfl⟩:=Option.map_eq_some_iff.mp g1
  obtain⟨a,rfl,ha⟩:=bp (g2.same (hP i σ' H' pv).d) rfl
  exact⟨a,_,rfl,SqT.of ha,rfl,_,_,rfl,_,_,rfl,_,_,rfl,rfl,hs i e σ' H' _ he pv rfl fun σ2 H2 p2=>p2⟩
 ·intro σ' H' pv
  rw[h3.length,List.length_map] at pv
  exact q' σ' H' pv
theorem xa{es:List (Str×Int×Int)}{i:Nat}{e:Str×Int×Int}(nd:(es.map (·.1)).Nodup)(he:es[i]?=some e):begin_ (look (es.take (i+1)))={begin_ (look (es.take i)) with th:=set1 (begin_ (look (es.take i))).th e.1 (some (ye e.2.1 e.2.2))}:=by
 unfold begin_
 simp only[S.mk.injEq,true_and]
 funext n
 rw[List.take_add_one,he]
 unfold look
 rw[List.find?_append]
 by_cases z:n=e.1
 ·rw[z,ai]
  have:(es.take i).find? (fun x=>decide (x.1=e.1))=none:=by
   rw[List.find?_eq_none]
   intro x hx hxn
   have hxn:x.1=e.1:=of_decide_eq_true hxn
   obtain⟨j,hj⟩:=List.mem_iff_getElem?.mp hx
   rw[List.getElem?_take] at hj
   split at hj
   ·rename_i lt
    have h1:(es.map (·.1))[j]?=some e.1:=by rw[List.getElem?_map,hj,<-hxn];rfl
    have h2:(es.map (·.1))[i]?=some e.1:=by rw[List.getElem?_map,he];rfl
    have:=(List.getElem?_inj (List.getElem?_eq_some_iff.mp h1).1 nd).mp (h1.trans h2.symm)
    omega
   ·cases hj
  rw[this]
  simp[ye]
 ·rw[ao z]
  have:decide (e.1=n)=false:=decide_eq_false fun y=>z y.symm
  simp[List.find?_cons,this]
theorem xb{es:List (Str×Int×Int)}:begin_ (look (es.take 0))=mo:=by
 unfold begin_ mo
 simp[look]
def rS:Sp:=fun vs H Q _=>∃(P:Addr) (p:Pl) (v:V) (es:List (Str×Int×Int)),vs=[.ref P,v]/\H P=some (.tup [.int p.count,.int p.length,.int p.bound])/\p.count<=500/\es.length<=900/\Dh H v (.list (es.map fun e=> .tuple [.str e.1,.int e.2.1,.int e.2.2]))/\(es.map (·.1)).Nodup/\(∀e∈es,isDesk p e.2.1=true)/\
 ∀H' adr,Lw H H' adr P p (es.map (·.1)) (begin_ (look es))->Q (.ref (adr .y)) H'
end
end Fb
end
section
namespace PySem.W.Fast
def tw10008183727012990664:Unit:=()
def tw17496259676839203208:Unit:=()
def tw13749843646557730945:Unit:=()
def tw42899301651488664:Unit:=()
def tw12148049640709296020:Unit:=()
def tw3423841368460094157:Unit:=()
def tw1280615913752154566:Unit:=()
def tw14702025559486851372:Unit:=()
def tw435877433381894759:Unit:=()
def tw1679378019707127712:Unit:=()
def tw2477898583177491363:Unit:=()
def tw13329390675241636182:Unit:=()
def tw6885963815235059002:Unit:=()
def tw7376347898597232829:Unit:=()
def tw3425873685634197887:Unit:=()
def tw1194567001474058455:Unit:=()
def tw12485861234870007707:Unit:=()
def tw12538566884984155973:Unit:=()
def tw1254733859840360109:Unit:=()
def tw14389291345095581142:Unit:=()
def tw15398559068470395743:Unit:=()
def tw504207006251696488:Unit:=()
def tw13992760558221126426:Unit:=()
def tw3167977360498891108:Unit:=()
def tw12152254950424368890:Unit:=()
def tw1884366026183870393:Unit:=()
def tw1289395596018727662:Unit:=()
def tw16001760306872089921:Unit:=()
def tw57146079771275249:Unit:=()
def tw6375841218851448248:Unit:=()
def tw744982531916633393:Unit:=()
def tw365932676977867576:Unit:=()
def tw6811077886299361368:Unit:=()
def tw7653057195140941102:Unit:=()
def tw17272194957670828822:Unit:=()
def tw8871109336764914434:Unit:=()
def tw13954298051886035565:Unit:=()
def tw5029688207875827383:Unit:=()
def tw14377293389258300642:Unit:=()
def tw7382894895621046960:Unit:=()
def tw12133581159602663129:Unit:=()
def tw16257884533157349744:Unit:=()
def tw3637616385395551399:Unit:=()
def tw15777838832570717375:Unit:=()
def tw11593342942219626932:Unit:=()
def tw18305822487725239218:Unit:=()
def tw14245044788901983342:Unit:=()
def tw17624914961003901213:Unit:=()
def tw3736455186021002925:Unit:=()
def tw10770003981000204331:Unit:=()
def tw9876797077993480128:Unit:=()
def tw11476282113115317674:Unit:=()
def tw4556623713153088298:Unit:=()
def tw1779717152950044213:Unit:=()
def tw6986688042587309562:Unit:=()
def tw12176681280574202594:Unit:=()
def tw10819253221346038614:Unit:=()
def tw8860182433625850841:Unit:=()
def tw13985182776335421743:Unit:=()
def tw8774962460250037175:Unit:=()
def tw9213745005985609828:Unit:=()
def tw10053907850000462027:Unit:=()
def tw12805139149863776715:Unit:=()
def tw6469281471648501589:Unit:=()
def tw18017241551231675773:Unit:=()
def tw2381182307101859892:Unit:=()
def tw16848400002153781576:Unit:=()
def tw5035834398292948318:Unit:=()
def tw5431062797963425989:Unit:=()
def tw17044001856077137471:Unit:=()
def tw698958399965504839:Unit:=()
def tw17259868834643667512:Unit:=()
def tw801929085029706774:Unit:=()
def tw1838795965322713603:Unit:=()
def tw8329260468629912975:Unit:=()
def tw15816222926980083961:Unit:=()
def tw6087746056237047733:Unit:=()
def tw2095471381835250584:Unit:=()
def tw17198630333416500012:Unit:=()
def tw15825895531938778850:Unit:=()
def tw11475661049282812293:Unit:=()
def tw16276635992081287639:Unit:=()
def tw7569158159526519765:Unit:=()
def tw5710570554779230827:Unit:=()
def tw14793643625822423462:Unit:=()
def tw15919052893109415317:Unit:=()
def tw2949084834305549320:Unit:=()
def tw9977031356896571306:Unit:=()
def tw7682689077767197328:Unit:=()
def tw378183055786402799:Unit:=()
def tw11272320841126355367:Unit:=()
def tw11333866204215629032:Unit:=()
def tw623426567988601242:Unit:=()
def tw16756949662307147834:Unit:=()
def tw5534490625744026692:Unit:=()
def tw821840450364536728:Unit:=()
def tw7569084033914287982:Unit:=()
def tw17753349006732740385:Unit:=()
def tw15516603371160401584:Unit:=()
def tw10397320967567735467:Unit:=()
def tw15004784187263304241:Unit:=()
def tw12996987954328846870:Unit:=()
def tw14004167525794034724:Unit:=()
def tw9639503269012850106:Unit:=()
def tw15211548335509783560:Unit:=()
def tw1852283797753647093:Unit:=()
def tw9190686601255859232:Unit:=()
def tw12173982724894180926:Unit:=()
def tw7410555001447328716:Unit:=()
def tw8322109137059836808:Unit:=()
def tw90479240389146779:Unit:=()
def tw18014201053426624201:Unit:=()
def tw6496687559685186177:Unit:=()
def tw3940635267616270987:Unit:=()
def tw12588604605426145237:Unit:=()
def tw10861427474962821455:Unit:=()
def tw16126068737120552396:Unit:=()
def tw4555223751953509876:Unit:=()
def tw17449574502403042548:Unit:=()
def tw7811304856441661745:Unit:=()
def tw7502872877761260370:Unit:=()
def tw7944219923888286379:Unit:=()
def tw18029171413370301702:Unit:=()
def tw11107352948699922619:Unit:=()
def tw433664647490267897:Unit:=()
def tw11460828070943262265:Unit:=()
def tw6832966589012921134:Unit:=()
def tw10381119980339335592:Unit:=()
def tw10020898887924038272:Unit:=()
def tw2798838170285071670:Unit:=()
def tw221260050556897225:Unit:=()
def tw13862408068767491103:Unit:=()
def tw17975582222151477676:Unit:=()
def tw17545998305161209387:Unit:=()
def tw17534569676928396714:Unit:=()
def tw5568515459685577861:Unit:=()
def tw11999945127772406024:Unit:=()
def tw10770391510045012964:Unit:=()
def tw18195856005707847455:Unit:=()
def tw15655650996872507283:Unit:=()
def tw13400287451650961278:Unit:=()
def tw11997249447435208653:Unit:=()
def tw14606338585068890246:Unit:=()
def tw8976195218959927980:Unit:=()
def tw9729256875385907836:Unit:=()
def tw4239171237992983470:Unit:=()
def tw15631753159878442432:Unit:=()
def tw13859388817213599121:Unit:=()
def tw15567654165921374648:Unit:=()
def tw16290696421736219533:Unit:=()
def tw7611422145126437988:Unit:=()
def tw7550149561169079067:Unit:=()
def tw7727757345346804766:Unit:=()
def tw8726145691670052757:Unit:=()
def tw8855809362825227422:Unit:=()
def tw15729374875106356957:Unit:=()
end PySem.W.Fast
end
namespace Fb
open PySem L2
set_option maxHeartbeats 4000000
local macro_rules | `(tactic| walk_at $x:str) => do
  if x.getString != "x" then Lean.Macro.throwUnsupported
  `(tactic| simp only [List.set_cons_zero, List.set_cons_succ])
local macro_rules | `(tactic| walk_at $x:str) => do
  if x.getString != "t" then Lean.Macro.throwUnsupported
  `(tactic| simp only [cxOf_K, tSeq, L2.start, List.map_cons, List.map_nil, List.length_cons, List.length_nil, Nat.reduceAdd, Nat.reduceSub, List.replicate, List.cons_append, List.nil_append])
local macro_rules | `(tactic| walk_at $x:str) => do
  if x.getString != "u" then Lean.Macro.throwUnsupported
  `(tactic| simp only [cxOf_K, cxOf_A, tSeq, L2.start, List.map_cons, List.map_nil, List.length_cons, List.length_nil, Nat.reduceAdd, Nat.reduceSub, List.replicate, List.cons_append, List.nil_append])
local macro_rules | `(tactic| walk_at $x:str) => do
  if x.getString != "s" then Lean.Macro.throwUnsupported
  `(tactic| exact ⟨rfl, rfl, rfl, by decide +kernel, rfl, by decide +kernel, by decide +kernel⟩)
theorem nle{a b:Nat}(h:Nat.ble a b=true):a<=b:=Nat.le_of_ble_eq_true h
def top(i:Nat):Stmt:=PySem.Challenge.pw_freshbook_k05_plain_yard.main.body.getD i (.Pass ⟨0,0,0,0⟩)
seal L2.PE L2.PS L2.PSs L2.PT L2.PW L2.PA L2.PC L2.PG L2.PGs L2.PI L2.PO L2.PPs
local macro_rules | `(tactic| walk_at $x:str) => do
  let ws := x.getString.splitOn " "
  if ws.head! != "wp" then Lean.Macro.throwUnsupported
  let mut hs : Array (Lean.TSyntax `Lean.Parser.Tactic.simpLemma) := #[]
  for z in ws.tail! do
    let ps := z.splitOn ":"
    let mut t : Lean.TSyntax `term := Lean.mkIdent ps.head!.toName
    for p in ps.tail! do
      let a : Lean.TSyntax `term := Lean.mkIdent p.toName
      t ← `($t $a)
    hs := hs.push (← `(Lean.Parser.Tactic.simpLemma| $t:term))
  `(tactic| simp only [cxOf_K, cxOf_A, cxComp_K, cxComp_A, tSeq, tNext, tForG, iRng1, iList, tLst, tAsg, gName, tRet, tRetN, tOp, tVar, tC, rI0, rI, rU, tUn, tChain, tTest, tB, tIfS, tAnd, tOr, tNot, tAndV, tOrV, tNotV, tIsN, tNotN, tCB, tCons, tNil, tCall, rEq, rNe, L2.start, List.map_cons, List.map_nil, List.cons_append, List.nil_append, List.append_nil, List.length_cons, List.length_nil, List.replicate, List.getElem?_cons_zero, List.getElem?_cons_succ, List.set_cons_zero, List.set_cons_succ, Option.some.injEq, V.int.injEq, V.bl.injEq, V.ref.injEq, V.str.injEq, V.ty.injEq, List.cons.injEq, exists_eq_left', exists_and_left, exists_eq_left, and_true, true_and, exists_eq_right, exists_eq_right', Nat.zero_add, Nat.reduceAdd, Nat.reduceSub, and_assoc, ↓reduceIte, Bool.not_true, Bool.not_false, Bool.false_eq_true, Bool.true_and, Bool.false_and, cmul_2, cmul_4, cmul_h, known_bool, known_int, known_str, known_list, known_tuple, known_dict, sT_NoneType_bool, sT_NoneType_int, sT_NoneType_str, sT_NoneType_list, sT_NoneType_tuple, sT_NoneType_dict, sT_bool_bool, sT_bool_int, sT_bool_str, sT_bool_list, sT_bool_tuple, sT_bool_dict, sT_int_bool, sT_int_int, sT_int_str, sT_int_list, sT_int_tuple, sT_int_dict, sT_str_bool, sT_str_int, sT_str_str, sT_str_list, sT_str_tuple, sT_str_dict, sT_list_bool, sT_list_int, sT_list_str, sT_list_list, sT_list_tuple, sT_list_dict, sT_tuple_bool, sT_tuple_int, sT_tuple_str, sT_tuple_list, sT_tuple_tuple, sT_tuple_dict, sT_dict_bool, sT_dict_int, sT_dict_str, sT_dict_list, sT_dict_tuple, sT_dict_dict, tyN_non, tyN_bl, tyN_int, tyN_str, Int.reduceLT, small_of, Nat.reduceLeDiff, scal, not_true_eq_false, not_false_eq_true, reduceCtorEq, decide_true, decide_false, Bool.or_true, Bool.true_or, Bool.or_false, Bool.false_or, Bool.and_true, Bool.and_false, HO.tup.injEq, HO.lst.injEq, tYes, false_and, false_or, or_false, and_false, exists_false, sFld, tFld, tDNewK, tMeth, tMake, tDrop, sDPut, tDGet, tDIn, tDNotIn, tDGet1, tDPop2, tDVals, tTup, tBM, tBM0, upd_same, upd_upd, HO.ins.injEq, iTup, tLc, tLcR, gTup, gCons, gNil, Option.isSome_some, Option.isSome_none, Option.getD_some, Option.getD_none, fl_keeper, fl_value, fl_version, fl_notes, fl_quiet, fl_waiting, fl_lend, fl_take_back, fl_come_up, fl_put_up, fl_attempt, fl_noted_untils, fl_take_change, put_value, put_version, put_notes, put_quiet, put_waiting, fl_len, fl_go_down, flC_value, flC_version, flC_until, flD_offset, flD_stopped, flD_copies, putD_offset, putD_stopped, putD_copies, flD_len, flY_length, flY_bound, flY_true_time, flY_desks, flY_things, putY_time, flY_len, flY_pass_time, flY_shift_clock, flY_read_thing, flY_lend_copy, flY_ask_change, flY_try_change, flY_give_back, flY_drop_copy, flY_stop_desk, flY_wake_desk, flY_find_desk, flY_find_thing, flY_check_asker, flY_check_keeper, flY_clock_of, flY_kept_by, flY_all_values, flY_all_copies, $hs,*])
section
variable {P : Program} {w : World} {K : PySem.W.Frag} {mg : Str → Option Value} {base : Heap} {C : Addr}
theorem gl{H:Hp}{a:Addr}{x:V}{r:List V}{Q:VK}(h:H a=some (.tup (x::r)))(q:Q x H):eF K (.ref a) (.int 0) H Q:=ge (SqT.of h) (show atI _ ((0:Nat):Int)=_ from bP rfl) q
theorem qC{H:Hp}{a:Addr}{x0 x:V}{r:List V}{Q:VK}(h:H a=some (.tup (x0::x::r)))(q:Q x H):eF K (.ref a) (.int 1) H Q:=ge (SqT.of h) (show atI _ ((1:Nat):Int)=_ from bP rfl) q
theorem xB{H:Hp}{a:Addr}{x0 x1 x:V}{r:List V}{Q:VK}(h:H a=some (.tup (x0::x1::x::r)))(q:Q x H):eF K (.ref a) (.int 2) H Q:=ge (SqT.of h) (show atI _ ((2:Nat):Int)=_ from bP rfl) q
def leV(c:Int):V->Bool
 | .int u=>decide (c<=u)
 |_=>false
theorem tV(c:Int)(ns:List Int):(((ns.map V.int).filter (leV c)).map id:List V)=(ns.filter fun u=>decide (c<=u)).map V.int:=by
 rw[List.map_id,List.filter_map]
 rfl
theorem xV{ns:List Int}{x:V}(h:x∈ns.map V.int):∃i,i∈ns/\x= .int i:=by
 obtain⟨i,h1,h2⟩:=List.mem_map.mp h
 exact⟨i,h1,h2.symm⟩
def rO(K:PySem.W.Frag):Sp:=fun vs H Q _=>∃c a ns,vs=[.int c,.ref a]/\SqL K H a (ns.map V.int)/\ns.length<=1000/\∀H',Same H H'->Q (ov (cK c ns)) H'
theorem pj:FnScope ["clock","untils"] ["clock","untils"] (defScope (top 10)):=by walk_at "s"
theorem pc{f:Addr}{fd:FuncData}(ue:mg "max"=none)(F:Fun K "held_until" "held_until" (top 10) f fd):FnOk P w K mg base CX0 1 f fd ["clock","untils"] (rO K):=by
 refine F.ok pj (fun vs H Q E h=>?_) (fun cdv A outer s H vs Q E hr h=>?_)
 ·obtain⟨c,a,ns,rfl,_⟩:=h
  rfl
 ·obtain⟨c,a,ns,rfl,hS,hl,q⟩:=h
  refine⟨_,(ah (ar (AE rfl rfl ue (jf (own:=["until"]) rfl (LcScope.of (by kernel_rfl)) (bW (pv 1)) (fun cl C s H fp=>⟨(aV (i:=2) (show List.Nodup (α:=Str) ["clock","untils","until"] by decide+kernel) rfl (Or.inl rfl)),(rA (aB pL (pv 0) (pv 2) (aE _))),(pv 2)⟩)) gX))),?_⟩
  refine⟨_,rfl,a,rfl,⟨_,hS⟩,fun D hD=>?_⟩
  refine vn (xs:=ns.map V.int) rfl hD (fun H' h=>aR.list (h.seq hS)) (by rw[List.length_map];exact hl) (leV c) id (fun x hx H' _ R r=>?_) (fun x hx _ H' _ R r=>?_) ?_
  ·obtain⟨i,_,rfl⟩:=xV hx
   walk_at "wp"
   exact r
  ·walk_at "wp"
   exact r
  ·have sm:Same H (upd H D (.lst ((ns.filter fun u=>decide (c<=u)).map V.int))):=fun b u e=>by rw[aj (aq e hD)];exact e
   rw[tV]
   refine⟨D,_,rfl,SqL.of upd_same,fun e=>?_,fun m h1 h2=>?_⟩
   ·have:=q _ sm
    rw[cK,gC.mpr e] at this
    exact this
   ·have:=q _ sm
    rw[cK,kP h1 h2] at this
    exact this
def fX:Sp:=fun vs H Q _=>∃c l b,vs=[.int c,.int l,.int b]/\Q (.int (c+l+2*b)) H
theorem nZ:FnScope ["clock","length","bound"] ["clock","length","bound"] (defScope (top 11)):=by walk_at "s"
theorem nv{f:Addr}{fd:FuncData}(F:Fun K "quiet_until" "quiet_until" (top 11) f fd):FnOk P w K mg base CX0 1 f fd ["clock","length","bound"] fX:=by
 refine F.ok nZ (fun vs H Q E h=>?_) (fun cdv A outer s H vs Q E hr h=>?_)
 ·obtain⟨c,l,b,rfl,_⟩:=h
  rfl
 ·obtain⟨c,l,b,rfl,q⟩:=h
  refine⟨_,(ah (ar (aw bM (aw bM (pv 0) (pv 1)) (aw bw ae (pv 2))))),?_⟩
  walk_at "wp"
  exact q
def rP(C:Addr):Sp:=fun vs H Q _=>∃(p dx:Addr) (k v:Int),vs=[.ref p,.int k,.int v]/\H p=some (.ins C dx [])/\∀(d:Addr) (H':Hp),H d=none->ThAt C H' p d ⟨k,v,0,[],none,none⟩->(∀b o,H b=some o->b≠p->H' b=some o)->Q .non H'
theorem ka:FnScope ["self","keeper","value"] ["self","keeper","value"] (defScope (inClass (top 14) 0)):=by walk_at "s"
theorem Ak{f:Addr}{fd:FuncData}(T:Txt K C)(F:Fun K "__init__" "Thing.__init__" (inClass (top 14) 0) f fd):FnOk P w K mg base CX0 1 f fd ["self","keeper","value"] (rP C):=by
 refine F.ok ka (fun vs H Q E h=>?_) (fun cdv A outer s H vs Q E hr h=>?_)
 ·obtain⟨p,dx,k,v,rfl,_⟩:=h
  rfl
 ·obtain⟨p,dx,k,v,rfl,hp,q⟩:=h
  refine⟨_,(ac (bj (pv 0) (pv 1) rfl) (ac (bj (pv 0) (pv 2) rfl) (ac (bj (pv 0) ae rfl) (ac (bj (pv 0) ck rfl) (ac (bj (pv 0) gX rfl) (ah (bj (pv 0) gX rfl))))))),?_⟩
  walk_at "wp hp T.cl T.n1 T.n2 T.n3 T.n4"
  refine⟨by decide,(by show 1<1000;decide),(by show 2<1000;decide),fun d hd=>?_⟩
  have npd:p≠d:=fun e=>by rw[<-e,upd_same] at hd;cases hd
  have hd0:H d=none:=by rw[aj npd.symm] at hd;exact hd
  walk_at "wp aj:npd T.cl T.n4 T.n5 T.n6"
  refine⟨(by show 3<1000;decide),(by show 4<1000;decide),(by show 5<1000;decide),?_⟩
  refine q d _ hd0 ⟨⟨dx,?_⟩,?_⟩ fun b o e hb=>?_
  ·rw[upd_same,AH];rfl
  ·rw[aj npd.symm,upd_same]
  ·rw[aj hb,aj (aq e hd0),aj hb];exact e
def rR(C:Addr):Sp:=fun vs H Q _=>∃(p d:Addr) (t:T) (x u:Int),vs=[.ref p,.int x,.int u]/\ThAt C H p d t/\t.notes.length<=900/\∀H',ThAt C H' p d {t with notes:=putK t.notes (Sum.inl x) (.int u)}->Fr2 p d H H'->Q .non H'
theorem pf:FnScope ["self","desk","until"] ["self","desk","until"] (defScope (inClass (top 14) 1)):=by walk_at "s"
theorem Ao{f:Addr}{fd:FuncData}(T:Txt K C)(F:Fun K "lend" "Thing.lend" (inClass (top 14) 1) f fd):FnOk P w K mg base CX0 1 f fd ["self","desk","until"] (rR C):=by
 refine F.ok pf (fun vs H Q E h=>?_) (fun cdv A outer s H vs Q E hr h=>?_)
 ·obtain⟨p,d,t,x,u,rfl,_⟩:=h
  rfl
 ·obtain⟨p,d,t,x,u,rfl,S,hl,q⟩:=h
  have hu:=cx hr
  obtain⟨⟨dx,h1⟩,hd⟩:=id S
  refine⟨_,(ah (bB hu (aF (pv 0) rfl) (pv 1) (pv 2) rfl)),?_⟩
  walk_at "wp h1 T.cl T.n4"
  refine⟨_,lH.k (k:=Sum.inl x) hd (bu (by omega)),?_⟩
  refine q _ ⟨⟨dx,by rw[aj S.ne];exact h1⟩,upd_same⟩ fun b o e _ hb=>?_
  rw[aj hb];exact e
def hW(C:Addr):Sp:=fun vs H Q _=>∃(p d:Addr) (t:T) (x:Int),vs=[.ref p,.int x]/\ThAt C H p d t/\∀H',ThAt C H' p d {t with notes:=cj t.notes (Sum.inl x)}->Fr2 p d H H'->Q .non H'
theorem jq:FnScope ["self","desk"] ["self","desk"] (defScope (inClass (top 14) 2)):=by walk_at "s"
theorem re{f:Addr}{fd:FuncData}(T:Txt K C)(F:Fun K "take_back" "Thing.take_back" (inClass (top 14) 2) f fd):FnOk P w K mg base CX0 1 f fd ["self","desk"] (hW C):=by
 refine F.ok jq (fun vs H Q E h=>?_) (fun cdv A outer s H vs Q E hr h=>?_)
 ·obtain⟨p,d,t,x,rfl,_⟩:=h
  rfl
 ·obtain⟨p,d,t,x,rfl,S,q⟩:=h
  have hu:=cx hr
  obtain⟨⟨dx,h1⟩,hd⟩:=id S
  refine⟨_,(ah (aY (gE (aF (pv 0) rfl) (pv 1) gX ⟨rfl,rfl,rfl,rfl⟩))),?_⟩
  walk_at "wp h1 T.cl T.n4"
  refine⟨Or.inl ⟨_,Rd.of hd⟩,t.notes,hd,Sum.inl x,rfl,fun v hv=>?_,fun hv=>?_⟩
  ·refine q _ ⟨⟨dx,by rw[aj S.ne];exact h1⟩,upd_same⟩ fun b o e _ hb=>?_
   rw[aj hb];exact e
  ·have e0:cj t.notes (Sum.inl x:Key)=t.notes:=jD (oG hv)
   refine q H ?_ fun b o e _ _=>e
   rw[e0]
   exact S
def jv(C:Addr):Sp:=fun vs H Q _=>∃(p d:Addr) (t:T) (c l b:Int),vs=[.ref p,.int c,.int l,.int b]/\ThAt C H p d t/\∀H',ThAt C H' p d {t with quiet:=some (c+l+2*b)}->Fr2 p d H H'->Q .non H'
theorem kY:FnScope ["self","clock","length","bound"] ["self","clock","length","bound"] (defScope (inClass (top 14) 3)):=by walk_at "s"
theorem uo{f:Addr}{fd:FuncData}(T:Txt K C)(gj:Def P w K mg base "quiet_until" 1 ["clock","length","bound"] fX)(F:Fun K "come_up" "Thing.come_up" (inClass (top 14) 3) f fd):FnOk P w K mg base CX0 2 f fd ["self","clock","length","bound"] (jv C):=by
 refine F.ok kY (fun vs H Q E h=>?_) (fun cdv A outer s H vs Q E hr h=>?_)
 ·obtain⟨p,d,t,c,l,b,rfl,_⟩:=h
  rfl
 ·obtain⟨p,d,t,c,l,b,rfl,S,q⟩:=h
  obtain⟨⟨dx,h1⟩,hd⟩:=id S
  refine⟨_,(ah (bj (pv 0) (aL gj (hr.mono (by omega)) rfl (aa (pv 1) (aa (pv 2) (aa (pv 3) af)))) rfl)),?_⟩
  walk_at "wp h1 T.cl T.n5 fX"
  refine q _ ⟨⟨dx,upd_same⟩,by rw[aj S.ne.symm];exact hd⟩ fun b' o e hb _=>?_
  rw[aj hb];exact e
def lj(C:Addr):Sp:=fun vs H Q _=>∃(p d:Addr) (t:T) (v:Int),vs=[.ref p,.int v]/\ThAt C H p d t/\(t.waiting=none->∀H',ThAt C H' p d {t with waiting:=some v}->Fr2 p d H H'->Q (.bl true) H')/\(∀y,t.waiting=some y->Q (.bl false) H)
theorem lP:FnScope ["self","value"] ["self","value"] (defScope (inClass (top 14) 5)):=by walk_at "s"
theorem wA{f:Addr}{fd:FuncData}(T:Txt K C)(F:Fun K "put_up" "Thing.put_up" (inClass (top 14) 5) f fd):FnOk P w K mg base CX0 1 f fd ["self","value"] (lj C):=by
 refine F.ok lP (fun vs H Q E h=>?_) (fun cdv A outer s H vs Q E hr h=>?_)
 ·obtain⟨p,d,t,v,rfl,_⟩:=h
  rfl
 ·obtain⟨p,d,t,v,rfl,S,q1,q2⟩:=h
  obtain⟨⟨dx,h1⟩,hd⟩:=id S
  refine⟨_,(ac (aH (fT (iW (aF (pv 0) rfl))) (ah (ar cb)) av) (ac (bj (pv 0) (pv 1) rfl) (ah (ar cb)))),?_⟩
  walk_at "wp h1 T.cl T.n6"
  cases e:t.waiting with
  |none=>
   refine lA rfl ?_
   refine q1 e _ ⟨⟨dx,upd_same⟩,by rw[aj S.ne.symm];exact hd⟩ fun b' o e hb _=>?_
   rw[aj hb];exact e
  |some y=>
   rw[decide_eq_false (show ¬ov (some y)=V.non from fun e=>nomatch e)]
   exact eZ (q2 y e)
def om(C:Addr):Sp:=fun vs H Q _=>∃(p d:Addr) (t:T),vs=[.ref p]/\ThAt C H p d t/\zy t.notes/\t.notes.length<=900/\∀l H',H l=none->H' l=some (.lst ((cP t).map V.int))->Same H H'->Q (.ref l) H'
theorem dH:FnScope ["self","untils"] ["self"] (defScope (inClass (top 14) 7)):=by walk_at "s"
theorem yr{f:Addr}{fd:FuncData}(T:Txt K C)(ce:mg "list"=none)(F:Fun K "noted_untils" "Thing.noted_untils" (inClass (top 14) 7) f fd):FnOk P w K mg base CX0 1 f fd ["self"] (om C):=by
 refine F.ok dH (fun vs H Q E h=>?_) (fun cdv A outer s H vs Q E hr h=>?_)
 ·obtain⟨p,d,t,rfl,_⟩:=h
  rfl
 ·obtain⟨p,d,t,rfl,S,hi,hl,q⟩:=h
  obtain⟨⟨dx,h1⟩,hd⟩:=id S
  refine⟨_,(ac (aG (i:=1) dH.nd rfl (Or.inl rfl) (yH rfl rfl ce (aF (pv 0) rfl) rfl rfl)) (ac (aH (fT (iW (aF (pv 0) rfl))) (ah (aY (pN PySem.F.plainAttrs_list PySem.F.slot_list_append PySem.F.type_list_append dX (pv 1) (aa (aF (pv 0) rfl) af)))) av) (ah (ar (pv 1))))),?_⟩
  walk_at "wp h1 T.cl T.n4"
  refine⟨t.notes,Rd.of hd,fun l hl0=>?_⟩
  have npl:p≠l:=aq h1 hl0
  rw[vQ hi]
  have sm:∀o,Same H (upd H l o):=fun o b u e=>by rw[aj (aq e hl0)];exact e
  walk_at "wp aj:npl h1 T.cl T.n5"
  cases e:t.quiet with
  |none=>
   refine lA rfl ?_
   refine q l _ hl0 ?_ (sm _)
   rw[upd_same,cP,e]
   simp
  |some z=>
   rw[decide_eq_false (show ¬ov (some z)=V.non from fun e=>nomatch e)]
   refine eZ ?_
   refine⟨Or.inl ⟨rfl,_,SqL.of upd_same⟩,l,_,_,rfl,rfl,upd_same,?_,?_⟩
   ·rw[List.length_map]
    have:(valsOf t.notes).length<=t.notes.length:=List.length_filterMap_le _ _
    exact bu (by omega)
   ·refine q l _ hl0 ?_ ?_
    ·rw[upd_same,cP,e]
     simp[ov]
    ·rw[upd_upd]
     exact sm _
def fY(C:Addr):Sp:=fun vs H Q _=>∃(p d:Addr) (t:T) (v:Int),vs=[.ref p]/\ThAt C H p d t/\t.waiting=some v/\∀d' H',H d'=none->ThAt C H' p d' (done t v)->(∀b o,H b=some o->b≠p->H' b=some o)->Q .non H'
theorem iK:FnScope ["self"] ["self"] (defScope (inClass (top 14) 8)):=by walk_at "s"
theorem nC{f:Addr}{fd:FuncData}(T:Txt K C)(F:Fun K "take_change" "Thing.take_change" (inClass (top 14) 8) f fd):FnOk P w K mg base CX0 1 f fd ["self"] (fY C):=by
 refine F.ok iK (fun vs H Q E h=>?_) (fun cdv A outer s H vs Q E hr h=>?_)
 ·obtain⟨p,d,t,v,rfl,_⟩:=h
  rfl
 ·obtain⟨p,d,t,v,rfl,S,ew,q⟩:=h
  obtain⟨⟨dx,h1⟩,hd⟩:=id S
  refine⟨_,(ac (bj (pv 0) (aF (pv 0) rfl) rfl) (ac (bj (pv 0) (aw bM (aF (pv 0) rfl) ae) rfl) (ac (bj (pv 0) gX rfl) (ac (bj (pv 0) ck rfl) (ah (bj (pv 0) gX rfl)))))),?_⟩
  walk_at "wp h1 T.cl T.n2 T.n3 T.n4 T.n6"
  intro d' hd'
  have npd:p≠d':=fun e=>by rw[<-e,upd_same] at hd';cases hd'
  have hd0:H d'=none:=by rw[aj npd.symm] at hd';exact hd'
  walk_at "wp aj:npd T.cl T.n4 T.n5"
  refine q d' _ hd0 ⟨⟨dx,?_⟩,?_⟩ fun b o e hb=>?_
  ·rw[upd_same,ew];rfl
  ·rw[aj npd.symm,upd_same];rfl
  ·rw[aj hb,aj (aq e hd0),aj hb];exact e
def hU(C:Addr):Sp:=fun vs H Q _=>∃(p d:Addr) (t:T) (c:Int),vs=[.ref p,.int c]/\ThAt C H p d t/\zy t.notes/\t.notes.length<=900/\
 ∀v d' H',Dh H' v (Cq (att t c).1)->ThAt C H' p d' (att t c).2->(d'=d∨H d'=none)->(∀b o,H b=some o->b≠p->H' b=some o)->Q v H'
theorem gG:FnScope ["self","clock","until"] ["self","clock"] (defScope (inClass (top 14) 6)):=by walk_at "s"
theorem ul{f:Addr}{fd:FuncData}(T:Txt K C)(gN:Def P w K mg base "held_until" 1 ["clock","untils"] (rO K))(cw:MDef P w K mg base C "noted_untils" 1 ["self"] (om C))(cM:MDef P w K mg base C "take_change" 1 ["self"] (fY C))
  (F:Fun K "attempt" "Thing.attempt" (inClass (top 14) 6) f fd):FnOk P w K mg base CX0 2 f fd ["self","clock"] (hU C):=by
 refine F.ok gG (fun vs H Q E h=>?_) (fun cdv A outer s H vs Q E hr h=>?_)
 ·obtain⟨p,d,t,c,rfl,_⟩:=h
  rfl
 ·obtain⟨p,d,t,c,rfl,S,hi,hl,q⟩:=h
  obtain⟨⟨dx,h1⟩,hd⟩:=id S
  refine⟨_,(ac (aH (fT (uw (aF (pv 0) rfl))) (ah (ar al)) av) (ac (aG (i:=2) gG.nd rfl (Or.inl rfl) (aL gN (hr.mono (by omega)) rfl (aa (pv 1) (aa (iE (pv 0) cw (hr.mono (by omega))) af)))) (ac (aH (fT (iW (pv 2))) (ah (ar (br (aa al (aa (pv 2) af))))) av) (ac (aY (iE (pv 0) cM (hr.mono (by omega)))) (ah (ar (br (aa al (aa (aF (pv 0) rfl) af))))))))),?_⟩
  walk_at "wp h1 T.cl T.n6"
  cases ew:t.waiting with
  |none=>
   rw[decide_eq_true (show ov none=V.non from rfl)]
   refine eZ ?_
   have e:att t c=(.nothing,t):=by unfold att;rw[ew]
   rw[e] at q
   exact q _ d H (.str _) S (Or.inl rfl) fun b o e _=>e
  |some y=>
   rw[decide_eq_false (show ¬ov (some y)=V.non from fun e=>nomatch e)]
   refine fK ?_
   refine⟨p,d,t,rfl,S,hi,hl,fun l H1 hl0 hl1 s1=>?_⟩
   refine⟨_,l,cP t,rfl,SqL.of hl1,wq hl,fun H2 s2=>?_⟩
   have S2:=S.same (s1.trans s2)
   obtain⟨⟨dx2,h2⟩,hd2⟩:=id S2
   dsimp only
   cases eh:cK c (cP t) with
   |some u=>
    rw[decide_eq_false (show ¬ov (some u)=V.non from fun e=>nomatch e)]
    refine eZ ?_
    have e:att t c=(.waits u,t):=by unfold att;rw[ew];simp only[eh]
    rw[e] at q
    refine fun a ha=>?_
    have s3:Same H2 (upd H2 a (.tup [.str "waits",ov (some u)])):=fun b o e=>by rw[aj (aq e ha)];exact e
    exact q _ d _ (.tup upd_same (.cons (.str _) (.cons (.int u) .nil))) (S2.same s3) (Or.inl rfl) fun b o e _=>s3 _ _ (s2 _ _ (s1 _ _ e))
   |none=>
    refine lA rfl ?_
    have e:att t c=(.changed (t.version+1),done t y):=by unfold att;rw[ew];simp only[eh]
    rw[e] at q
    refine⟨dx2,_,h2,fl_take_change,p,d,t,y,rfl,S2,ew,fun d' H3 hd3 S3 kp=>?_⟩
    obtain⟨⟨dx3,h3⟩,hd3'⟩:=id S3
    walk_at "wp h3 T.cl T.n3"
    refine fun a ha=>?_
    have s4:Same H3 (upd H3 a (.tup [.str "changed",.int (done t y).version])):=fun b o e=>by rw[aj (aq e ha)];exact e
    refine q _ d' _ (.tup upd_same (.cons (.str _) (.cons (.int _) .nil))) (S3.same s4) (Or.inr ((s1.trans s2).free hd3)) fun b o e hb=>s4 _ _ (kp _ _ (s2 _ _ (s1 _ _ e)) hb)
def jw(C:Addr):Sp:=fun vs H Q _=>∃(p d:Addr) (t:T),vs=[.ref p]/\ThAt C H p d t/\∀d' H',H d'=none->ThAt C H' p d' {t with notes:=[],waiting:=none}->(∀b o,H b=some o->b≠p->H' b=some o)->Q .non H'
theorem kZ:FnScope ["self"] ["self"] (defScope (inClass (top 14) 4)):=by walk_at "s"
theorem ur{f:Addr}{fd:FuncData}(T:Txt K C)(F:Fun K "go_down" "Thing.go_down" (inClass (top 14) 4) f fd):FnOk P w K mg base CX0 1 f fd ["self"] (jw C):=by
 refine F.ok kZ (fun vs H Q E h=>?_) (fun cdv A outer s H vs Q E hr h=>?_)
 ·obtain⟨p,d,t,rfl,_⟩:=h
  rfl
 ·obtain⟨p,d,t,rfl,S,q⟩:=h
  obtain⟨⟨dx,h1⟩,hd⟩:=id S
  refine⟨_,(ac (bj (pv 0) ck rfl) (ah (bj (pv 0) gX rfl))),?_⟩
  walk_at "wp h1 T.cl T.n4"
  intro d' hd'
  have npd:p≠d':=aq h1 hd'
  walk_at "wp aj:npd h1 T.cl T.n4 T.n6"
  refine q d' _ hd' ⟨⟨dx,upd_same⟩,?_⟩ fun b o e hb=>?_
  ·rw[aj npd.symm,upd_same]
  ·rw[aj hb,aj (aq e hd')];exact e
open Y
def gx:Sp:=fun vs H Q _=>∃u b,vs=[.int u,.int b]/\Q (.int (u - 2*b)) H
theorem pk:FnScope ["until","bound"] ["until","bound"] (defScope (top 8)):=by walk_at "s"
theorem pd{f:Addr}{fd:FuncData}(F:Fun K "last_fresh" "last_fresh" (top 8) f fd):FnOk P w K mg base CX0 1 f fd ["until","bound"] gx:=by
 refine F.ok pk (fun vs H Q E h=>?_) (fun cdv A outer s H vs Q E hr h=>?_)
 ·obtain⟨u,b,rfl,_⟩:=h
  rfl
 ·obtain⟨u,b,rfl,q⟩:=h
  refine⟨_,(ah (ar (aw gt (pv 0) (aw bw ae (pv 1))))),?_⟩
  walk_at "wp"
  exact q
def iO:Sp:=fun vs H Q _=>∃c u b,vs=[.int c,.int u,.int b]/\Q (.bl (decide (c<=u - 2*b))) H
theorem sX:FnScope ["clock","until","bound"] ["clock","until","bound"] (defScope (top 9)):=by walk_at "s"
theorem sO{f:Addr}{fd:FuncData}(gO:Def P w K mg base "last_fresh" 1 ["until","bound"] gx)(F:Fun K "is_fresh" "is_fresh" (top 9) f fd):FnOk P w K mg base CX0 2 f fd ["clock","until","bound"] iO:=by
 refine F.ok sX (fun vs H Q E h=>?_) (fun cdv A outer s H vs Q E hr h=>?_)
 ·obtain⟨c,u,b,rfl,_⟩:=h
  rfl
 ·obtain⟨c,u,b,rfl,q⟩:=h
  refine⟨_,(ah (ar (dB pL (pv 0) (aL gO (hr.mono (by omega)) rfl (aa (pv 1) (aa (pv 2) af))) (aE _)))),?_⟩
  walk_at "wp gx"
  exact q
def lm:Sp:=fun vs H Q _=>∃o b,vs=[.int o,.int b]/\Q (.bl (decide (-b<=o/\o<=b))) H
theorem wN:FnScope ["offset","bound"] ["offset","bound"] (defScope (top 12)):=by walk_at "s"
theorem wE{f:Addr}{fd:FuncData}(F:Fun K "within" "within" (top 12) f fd):FnOk P w K mg base CX0 1 f fd ["offset","bound"] lm:=by
 refine F.ok wN (fun vs H Q E h=>?_) (fun cdv A outer s H vs Q E hr h=>?_)
 ·obtain⟨o,b,rfl,_⟩:=h
  rfl
 ·obtain⟨o,b,rfl,q⟩:=h
  refine⟨_,(ah (ar (yE pL pL (sR oF (pv 1)) (pv 0) (pv 1)))),?_⟩
  walk_at "wp"
  by_cases h1: -b<=o
  ·rw[decide_eq_true h1]
   refine eZ ?_
   by_cases h2:o<=b
   ·rw[decide_eq_true ⟨h1,h2⟩] at q
    rw[decide_eq_true h2];exact q
   ·rw[decide_eq_false (fun z=>h2 z.2)] at q
    rw[decide_eq_false h2];exact q
  ·rw[decide_eq_false h1]
   refine fK ?_
   rw[decide_eq_false (fun z=>h1 z.1)] at q
   exact q
def oj(C:Addr):Sp:=fun vs H Q _=>∃(x dx:Addr) (v n u:Int),vs=[.ref x,.int v,.int n,.int u]/\H x=some (.ins C dx [])/\∀H',H' x=some (.ins C dx (flC (.int v) (.int n) (.int u)))->(∀b o,H b=some o->b≠x->H' b=some o)->Q .non H'
theorem kW:FnScope ["self","value","version","until"] ["self","value","version","until"] (defScope (inClass (top 16) 0)):=by walk_at "s"
theorem yn{C f:Addr}{fd:FuncData}(T:TxtC K C)(F:Fun K "__init__" "Copy.__init__" (inClass (top 16) 0) f fd):FnOk P w K mg base CX0 1 f fd ["self","value","version","until"] (oj C):=by
 refine F.ok kW (fun vs H Q E h=>?_) (fun cdv A outer s H vs Q E hr h=>?_)
 ·obtain⟨x,dx,v,n,u,rfl,_⟩:=h
  rfl
 ·obtain⟨x,dx,v,n,u,rfl,hp,q⟩:=h
  refine⟨_,(ac (bj (pv 0) (pv 1) rfl) (ac (bj (pv 0) (pv 2) rfl) (ah (bj (pv 0) (pv 3) rfl)))),?_⟩
  walk_at "wp hp T.cl T.n1 T.n2 T.n3"
  refine⟨by decide,(by show 1<1000;decide),(by show 2<1000;decide),?_⟩
  refine q _ ?_ fun b o e hb=>?_
  ·rw[upd_same,zH]
  ·rw[aj hb];exact e
def ol(C:Addr):Sp:=fun vs H Q _=>∃(x dx:Addr),vs=[.ref x]/\H x=some (.ins C dx [])/\∀d H',H d=none->H' x=some (.ins C dx (flD (.int 0) (.bl false) (.ref d)))->H' d=some (.dK [])->(∀b o,H b=some o->b≠x->H' b=some o)->Q .non H'
theorem kX:FnScope ["self"] ["self"] (defScope (inClass (top 17) 0)):=by walk_at "s"
theorem yp{C f:Addr}{fd:FuncData}(T:TxtD K C)(F:Fun K "__init__" "Desk.__init__" (inClass (top 17) 0) f fd):FnOk P w K mg base CX0 1 f fd ["self"] (ol C):=by
 refine F.ok kX (fun vs H Q E h=>?_) (fun cdv A outer s H vs Q E hr h=>?_)
 ·obtain⟨x,dx,rfl,_⟩:=h
  rfl
 ·obtain⟨x,dx,rfl,hp,q⟩:=h
  refine⟨_,(ac (bj (pv 0) ae rfl) (ac (bj (pv 0) cb rfl) (ah (bj (pv 0) ck rfl)))),?_⟩
  walk_at "wp hp T.cl T.n1 T.n2"
  refine⟨by decide,(by show 1<1000;decide),fun d hd=>?_⟩
  have nxd:x≠d:=fun e=>by rw[<-e,upd_same] at hd;cases hd
  have hd0:H d=none:=by rw[aj nxd.symm] at hd;exact hd
  walk_at "wp aj:nxd T.cl T.n3"
  refine⟨(by show 2<1000;decide),?_⟩
  refine q d _ hd0 ?_ ?_ fun b o e hb=>?_
  ·rw[upd_same,zJ]
  ·rw[aj nxd.symm,upd_same]
  ·rw[aj hb,aj (aq e hd0),aj hb];exact e
variable {c : Cs}
def rT(c:Cs):Sp:=fun vs H Q E=>∃(y:Addr) (G:Gh) (p:Pl) (s:S Str) (m:Int),vs=[.ref y,.int m]/\Yd c H y G p s/\eM c H y G p (step p s (.pass m)) Q E
theorem kf:FnScope ["self","many"] ["self","many"] (defScope (inClass (top 18) 1)):=by walk_at "s"
theorem Ar{f:Addr}{fd:FuncData}(T:TxtY K c.Y)(F:Fun K "pass_time" "Yard.pass_time" (inClass (top 18) 1) f fd):FnOk P w K mg base CX0 1 f fd ["self","many"] (rT c):=by
 refine F.ok kf (fun vs H Q E h=>?_) (fun cdv A outer s H vs Q E hr h=>?_)
 ·obtain⟨y,G,p,s,m,rfl,_⟩:=h
  rfl
 ·obtain⟨y,G,p,s',m,rfl,Y,q⟩:=h
  obtain⟨dx,e⟩:=id Y.yo
  refine⟨_,(ac (bj (pv 0) (aw bM (aF (pv 0) rfl) (pv 1)) rfl) (ah (ar (aF (pv 0) rfl)))),?_⟩
  walk_at "wp e T.cl T.n3"
  have k:=Y.setY (H':=upd H y (.ins c.Y dx (flY (.int p.length) (.int p.bound) (.int (s'.time+m)) (.ref G.ld) (.ref G.dt)))) (t:=s'.time+m) (dx':=dx) (fun b v e hb=>by rw[aj hb];exact e) upd_same
  exact q.2 rfl _ G _ k.1 k.2 (.int _)
def cJ(c:Cs):Sp:=fun vs H Q E=>∃(y:Addr) (G:Gh) (p:Pl) (s:S Str) (d:Int),vs=[.ref y,.int d]/\Yd c H y G p s/\(isDesk p d=true->Q (.ref (G.da d.toNat)) H)/\(isDesk p d=false->E (.ref (c.er .noDesk)) none H)
theorem ke:FnScope ["self","number"] ["self","number"] (defScope (inClass (top 18) 11)):=by walk_at "s"
theorem gP{H:Hp}{y:Addr}{G:Gh}{p:Pl}{s:S Str}{d:Int}{Q:VK}(Y:Yd c H y G p s)(hd:isDesk p d=true)(q:Q (.ref (G.da d.toNat)) H):iI K (.ref G.ld) (.int d) H Q:=by
 obtain⟨h1,h2⟩:=Y.deskAt hd
 refine fg (SqL.of Y.ld) (v:= .ref (G.da d.toNat)) ?_ q
 rw[<-h2]
 refine bP ?_
 rw[List.getElem?_map,List.getElem?_range h1]
 rfl
theorem qX{f:Addr}{fd:FuncData}(T:TxtY K c.Y)(ci:mg "len"=none)(er_NoDesk:Er K mg "NoDesk" (c.er .noDesk))(F:Fun K "find_desk" "Yard.find_desk" (inClass (top 18) 11) f fd):FnOk P w K mg base (CX1 P w) 1 f fd ["self","number"] (cJ c):=by
 refine F.ok1 ke (fun vs H Q E h=>?_) (fun cdv A outer s H vs Q E hr h=>?_)
 ·obtain⟨y,G,p,s,d,rfl,_⟩:=h
  rfl
 ·obtain⟨y,G,p,s',d,rfl,Y,q1,q2⟩:=h
  obtain⟨dx,e⟩:=id Y.yo
  refine⟨_,(ac (aH (bZ (yO pL lE ae (pv 1) (aD bb rfl ci (by decide+kernel) (aa (aF (pv 0) rfl) af)))) (ah (iH er_NoDesk rfl (aa al af))) av) (ah (ar (ax aI (aF (pv 0) rfl) (pv 1) (fun _ _=>rfl))))),?_⟩
  walk_at "wp e T.cl T.n4 Ck"
  have hl:((List.range p.count).map fun i=>V.ref (G.da i)).length=p.count:=by simp
  cases hd:isDesk p d with
  |true=>
   obtain⟨h1,h2⟩:=cS.mp hd
   rw[decide_eq_true h1]
   refine eZ ⟨_,Or.inl (SqL.of Y.ld),?_⟩
   rw[hl,decide_eq_true h2]
   refine fK ?_
   exact gP Y hd (q1 hd)
  |false=>
   have:=mJ.mp hd
   by_cases h1:0<=d
   ·rw[decide_eq_true h1]
    refine eZ ⟨_,Or.inl (SqL.of Y.ld),?_⟩
    rw[hl,decide_eq_false (fun z=>this ⟨h1,z⟩)]
    exact eZ (q2 hd)
   ·rw[decide_eq_false h1]
    exact fK (q2 hd)
def eB(c:Cs):Sp:=fun vs H Q E=>∃(y:Addr) (G:Gh) (p:Pl) (s:S Str) (n:Str),vs=[.ref y,.str n]/\Yd c H y G p s/\(∀t,s.th n=some t->Q (.ref (G.ta n)) H)/\(s.th n=none->E (.ref (c.er .noThing)) none H)
theorem jt:FnScope ["self","name"] ["self","name"] (defScope (inClass (top 18) 12)):=by walk_at "s"
theorem tW{H:Hp}{y:Addr}{G:Gh}{p:Pl}{s:S Str}{n:Str}(Y:Yd c H y G p s):gb H G.dt (.str n) ((s.th n).map fun _=> .ref (G.ta n)):=by
 have:=gb.k (k:=(Sum.inr n:Key)) Y.dt
 rw[Y.valT] at this
 exact this
theorem pb{f:Addr}{fd:FuncData}(T:TxtY K c.Y)(er_NoThing:Er K mg "NoThing" (c.er .noThing))(F:Fun K "find_thing" "Yard.find_thing" (inClass (top 18) 12) f fd):FnOk P w K mg base (CX1 P w) 1 f fd ["self","name"] (eB c):=by
 refine F.ok1 jt (fun vs H Q E h=>?_) (fun cdv A outer s H vs Q E hr h=>?_)
 ·obtain⟨y,G,p,s,d,rfl,_⟩:=h
  rfl
 ·obtain⟨y,G,p,s',n,rfl,Y,q1,q2⟩:=h
  have hu:=cx hr
  obtain⟨dx,e⟩:=id Y.yo
  have hg:=tW (n:=n) Y
  refine⟨_,(ac (aH (fT (kQ hu (pv 1) (aF (pv 0) rfl))) (ah (iH er_NoThing rfl (aa al af))) av) (ah (ar (au hu (aF (pv 0) rfl) (pv 1) (fun _ _=>rfl))))),?_⟩
  walk_at "wp e T.cl T.n5 Ck"
  cases ht:s'.th n with
  |none=>
   rw[ht] at hg
   exact⟨_,hg,eZ (q2 ht)⟩
  |some t=>
   rw[ht] at hg
   exact⟨_,hg,fK ⟨_,hg,q1 t ht⟩⟩
def cz(c:Cs):Sp:=fun vs H Q E=>∃(y:Addr) (G:Gh) (p:Pl) (s:S Str) (d:Int) (n:Str),vs=[.ref y,.int d,.str n]/\Yd c H y G p s/\(isDesk p d=false->E (.ref (c.er .noDesk)) none H)/\
 (isDesk p d=true->s.th n=none->E (.ref (c.er .noThing)) none H)/\(∀t,isDesk p d=true->s.th n=some t->s.up d=false->E (.ref (c.er .stopped)) none H)/\(∀t,isDesk p d=true->s.th n=some t->s.up d=true->Q .non H)
theorem eW:FnScope ["self","number","name","desk"] ["self","number","name"] (defScope (inClass (top 18) 13)):=by walk_at "s"
theorem nr{f:Addr}{fd:FuncData}(T:TxtY K c.Y)(TD:TxtD K c.D)(er_Stopped:Er K mg "Stopped" (c.er .stopped))(aO:MDef1 P w K mg base c.Y "find_desk" 1 ["self","number"] (cJ c))(bF:MDef1 P w K mg base c.Y "find_thing" 1 ["self","name"] (eB c))
  (F:Fun K "check_asker" "Yard.check_asker" (inClass (top 18) 13) f fd):FnOk P w K mg base (CX1 P w) 2 f fd ["self","number","name"] (cz c):=by
 refine F.ok1 eW (fun vs H Q E h=>?_) (fun cdv A outer s H vs Q E hr h=>?_)
 ·obtain⟨y,G,p,s,d,n,rfl,_⟩:=h
  rfl
 ·obtain⟨y,G,p,s',d,n,rfl,Y,q1,q2,q3,q4⟩:=h
  obtain⟨dx,e⟩:=id Y.yo
  refine⟨_,(ac (aG (i:=3) eW.nd rfl (Or.inl rfl) (bq (pv 0) aO dA (hr.mono (by omega)) (aa (pv 1) af))) (ac (aY (bq (pv 0) bF dA (hr.mono (by omega)) (aa (pv 2) af))) (ah (aH (bg (aF (pv 3) rfl)) (ah (iH er_Stopped rfl (aa al af))) av)))),?_⟩
  walk_at "wp e Ck"
  refine⟨y,G,p,s',d,rfl,Y,fun hd=>?_,q1⟩
  obtain⟨h1,h2⟩:=Y.deskAt hd
  obtain⟨dxd,ed⟩:=Y.desk _ h1
  rw[h2] at ed
  walk_at "wp e"
  refine⟨y,G,p,s',n,rfl,Y,fun t ht=>?_,q2 hd⟩
  walk_at "wp ed TD.cl TD.n2"
  cases hu:s'.up d with
  |true=>
   refine fK ?_
   exact q4 t hd ht hu
  |false=>
   refine eZ ?_
   exact q3 t hd ht hu
def cm(c:Cs):Sp:=fun vs H Q E=>∃(y:Addr) (G:Gh) (p:Pl) (s:S Str) (n:Str) (t:Th),vs=[.ref y,.ref (G.ta n)]/\Yd c H y G p s/\s.th n=some t/\(s.up t.keeper=false->E (.ref (c.er .noAnswer)) none H)/\(s.up t.keeper=true->Q .non H)
theorem iL:FnScope ["self","thing"] ["self","thing"] (defScope (inClass (top 18) 14)):=by walk_at "s"
theorem lO{f:Addr}{fd:FuncData}(T:TxtY K c.Y)(TD:TxtD K c.D)(TT:Txt K c.T)(er_NoAnswer:Er K mg "NoAnswer" (c.er .noAnswer))(F:Fun K "check_keeper" "Yard.check_keeper" (inClass (top 18) 14) f fd):FnOk P w K mg base (CX1 P w) 1 f fd ["self","thing"] (cm c):=by
 refine F.ok1 iL (fun vs H Q E h=>?_) (fun cdv A outer s H vs Q E hr h=>?_)
 ·obtain⟨y,G,p,s,n,t,rfl,_⟩:=h
  rfl
 ·obtain⟨y,G,p,s',n,t,rfl,Y,ht,q1,q2⟩:=h
  obtain⟨dx,e⟩:=id Y.yo
  obtain⟨hn,hk,τ,⟨⟨dxt,et⟩,et2⟩,r⟩:=id (Y.thing n t ht)
  obtain⟨h1,h2⟩:=Y.deskAt hk
  obtain⟨dxd,ed⟩:=Y.desk _ h1
  rw[h2] at ed
  rw[r.k] at et
  refine⟨_,(ah (aH (bg (aF (ax aI (aF (pv 0) rfl) (aF (pv 1) rfl) (fun _ _=>rfl)) rfl)) (ah (iH er_NoAnswer rfl (aa al af))) av)),?_⟩
  walk_at "wp e et T.cl T.n4 TT.cl TT.n1 Ck"
  refine gP Y hk ?_
  walk_at "wp ed TD.cl TD.n2"
  cases hu:s'.up t.keeper with
  |true=>exact fK (q2 hu)
  |false=>exact eZ (q1 hu)
def cA(c:Cs):Sp:=fun vs H Q _=>∃(y:Addr) (G:Gh) (p:Pl) (s:S Str) (d:Int),vs=[.ref y,.int d]/\Yd c H y G p s/\isDesk p d=true/\Q (.int (s.clock d)) H
theorem la:FnScope ["self","number"] ["self","number"] (defScope (inClass (top 18) 15)):=by walk_at "s"
theorem sN{f:Addr}{fd:FuncData}(T:TxtY K c.Y)(TD:TxtD K c.D)(F:Fun K "clock_of" "Yard.clock_of" (inClass (top 18) 15) f fd):FnOk P w K mg base CX0 1 f fd ["self","number"] (cA c):=by
 refine F.ok la (fun vs H Q E h=>?_) (fun cdv A outer s H vs Q E hr h=>?_)
 ·obtain⟨y,G,p,s,d,rfl,_⟩:=h
  rfl
 ·obtain⟨y,G,p,s',d,rfl,Y,hd,q⟩:=h
  obtain⟨dx,e⟩:=id Y.yo
  obtain⟨h1,h2⟩:=Y.deskAt hd
  obtain⟨dxd,ed⟩:=Y.desk _ h1
  rw[h2] at ed
  refine⟨_,(ah (ar (aw bM (aF (pv 0) rfl) (aF (ax aI (aF (pv 0) rfl) (pv 1) (fun _ _=>rfl)) rfl)))),?_⟩
  walk_at "wp e T.cl T.n3 T.n4"
  refine gP Y hd ?_
  walk_at "wp ed TD.cl TD.n1"
  exact q
def ot(c:Cs):Sp:=fun vs H Q E=>∃(y:Addr) (G:Gh) (p:Pl) (s:S Str) (d o:Int),vs=[.ref y,.int d,.int o]/\Yd c H y G p s/\eM c H y G p (step p s (.shift d o)) Q E
theorem eX:FnScope ["self","number","offset","desk"] ["self","number","offset"] (defScope (inClass (top 18) 2)):=by walk_at "s"
theorem S.eta_off{s:S Str}{i:Int}{o:Int}:({s with off:=set1 s.off i o,up:=set1 s.up i (s.up i)}:S Str)={s with off:=set1 s.off i o}:=by
 have:set1 s.up i (s.up i)=s.up:=by
  funext x
  by_cases z:x=i
  ·rw[z,ai]
  ·rw[ao z]
 rw[this]
theorem S.eta_up{s:S Str}{i:Int}{u:Bool}:({s with off:=set1 s.off i (s.off i),up:=set1 s.up i u}:S Str)={s with up:=set1 s.up i u}:=by
 have:set1 s.off i (s.off i)=s.off:=by
  funext x
  by_cases z:x=i
  ·rw[z,ai]
  ·rw[ao z]
 rw[this]
theorem yu{f:Addr}{fd:FuncData}(T:TxtY K c.Y)(TD:TxtD K c.D)(er_NoClock:Er K mg "NoClock" (c.er .noClock))(aO:MDef1 P w K mg base c.Y "find_desk" 1 ["self","number"] (cJ c))(mw:Def P w K mg base "within" 1 ["offset","bound"] lm)
  (F:Fun K "shift_clock" "Yard.shift_clock" (inClass (top 18) 2) f fd):FnOk P w K mg base (CX1 P w) 2 f fd ["self","number","offset"] (ot c):=by
 refine F.ok1 eX (fun vs H Q E h=>?_) (fun cdv A outer s H vs Q E hr h=>?_)
 ·obtain⟨y,G,p,s,d,o,rfl,_⟩:=h
  rfl
 ·obtain⟨y,G,p,s',d,o,rfl,Y,q⟩:=h
  obtain⟨dx,e⟩:=id Y.yo
  refine⟨_,(ac (aG (i:=3) eX.nd rfl (Or.inl rfl) (bq (pv 0) aO dA (hr.mono (by omega)) (aa (pv 1) af))) (ac (aH (bZ (bg (aL mw (hr.mono (by omega)) rfl (aa (pv 2) (aa (aF (pv 0) rfl) af))))) (ah (iH er_NoClock rfl (aa al af))) av) (ac (bj (pv 3) (pv 2) rfl) (ah (ar cb))))),?_⟩
  walk_at "wp e Ck"
  refine⟨y,G,p,s',d,rfl,Y,fun hd=>?_,fun hd=>?_⟩
  ·obtain⟨h1,h2⟩:=Y.deskAt hd
   obtain⟨dxd,ed⟩:=Y.desk _ h1
   rw[h2] at ed
   walk_at "wp e T.cl T.n2 lm"
   by_cases hw: -p.bound<=o/\o<=p.bound
   ·have es:step p s' (.shift d o)=(.bl true,{s' with off:=set1 s'.off d o}):=by simp only[Fb.Y.step,hd,if_pos hw, ↓reduceIte]
    rw[es] at q
    rw[decide_eq_true hw]
    refine fK ?_
    walk_at "wp ed TD.cl TD.n1"
    have k:=Y.setD (H':=upd H (G.da d.toNat) (.ins c.D dxd (flD (.int o) (.bl (!s'.up d)) (.ref (G.ca d.toNat))))) (o:=o) (u:=s'.up d) (dx':=dxd) h1 (fun b v e hb=>by rw[aj hb];exact e) upd_same
    rw[h2,S.eta_off] at k
    exact q.2 rfl _ G _ k.1 k.2 (.bl _)
   ·have es:step p s' (.shift d o)=(.noClock,s'):=by simp only[Fb.Y.step,hd,if_neg hw, ↓reduceIte]
    rw[es] at q
    rw[decide_eq_false hw]
    exact eZ (q.1 _ rfl)
  ·have es:step p s' (.shift d o)=(.noDesk,s'):=by simp only[Fb.Y.step,hd,Bool.false_eq_true, ↓reduceIte]
   rw[es] at q
   exact q.1 _ rfl
end
section
variable {P : Program} {w : World} {K : PySem.W.Frag} {mg : Str → Option Value} {base : Heap} {C : Addr}
open Y
variable {c : Cs}
theorem Yd.at{H:Hp}{y:Addr}{G:Gh}{p:Pl}{s:S Str}{n:Str}{t:Th}(Y:Yd c H y G p s)(ht:s.th n=some t):∃dx τ,H (G.ta n)=some (.ins c.T dx (fl (.int t.keeper) (.int t.value) (.int t.version) (.ref (G.na n)) (ov t.quiet) (ov t.waiting)))/\ThAt c.T H (G.ta n) (G.na n) τ/\TR p τ t/\n∈G.names/\isDesk p t.keeper=true:=by
 obtain⟨hn,hk,τ,S,r⟩:=Y.thing n t ht
 obtain⟨⟨dx,e⟩,_⟩:=id S
 rw[r.k,r.v,r.n,r.q,r.w] at e
 exact⟨dx,τ,e,S,r,hn,hk⟩
theorem Yd.deskIs{H:Hp}{y:Addr}{G:Gh}{p:Pl}{s:S Str}{d:Int}(Y:Yd c H y G p s)(hd:isDesk p d=true):∃dx kvs,H (G.da d.toNat)=some (.ins c.D dx (flD (.int (s.off d)) (.bl (!s.up d)) (.ref (G.ca d.toNat))))/\H (G.ca d.toNat)=some (.dK kvs)/\CopR c.C H kvs G.names (s.cp d)/\d.toNat<p.count:=by
 obtain⟨h1,h2⟩:=Y.deskAt hd
 obtain⟨dx,e⟩:=Y.desk _ h1
 obtain⟨kvs,e2,r⟩:=Y.cops _ h1
 rw[h2] at e r
 exact⟨dx,kvs,e,e2,r,h1⟩
theorem Yd.setC'{H H':Hp}{y:Addr}{G:Gh}{p:Pl}{s:S Str}{d:Int}(Y:Yd c H y G p s){kvs':List (Key×V)}{f':Str->Option Cp}(hd:isDesk p d=true)(kp:∀b o,H b=some o->b≠G.ca d.toNat->H' b=some o)(e':H' (G.ca d.toNat)=some (.dK kvs'))(r':CopR c.C H' kvs' G.names f'):
  Yd c H' y G p {s with cp:=set1 s.cp d f'}/\Fw y p H G H' G:=by
 obtain⟨h1,h2⟩:=Y.deskAt hd
 have:=Y.setC h1 kp e' r'
 rw[h2] at this
 exact this
theorem NoteR.small{p:Pl}{kvs:List (Key×V)}{f:Int->Option Int}(h:NoteR p kvs f)(hp:p.count<=500):kvs.length<=900:=Nat.le_trans h.len (by omega)
def hV(c:Cs):Sp:=fun vs H Q E=>∃(y:Addr) (G:Gh) (p:Pl) (s:S Str) (d:Int) (n:Str) (t:Th),vs=[.ref y,.int d,.str n]/\Yd c H y G p s/\isDesk p d=true/\s.th n=some t/\
 ∀G' H',Yd c H' y G' p {s with cp:=setC s.cp d n (some ⟨t.value,t.version,s.clock t.keeper+p.length⟩),th:=set1 s.th n (some {t with lent:=set1 t.lent d (some (s.clock t.keeper+p.length))})}->Fw y p H G H' G'->G'.ta=G.ta->Q .non H'
theorem dD:FnScope ["self","number","name","thing","until"] ["self","number","name"] (defScope (inClass (top 18) 4)):=by walk_at "s"
theorem qZ{f:Addr}{fd:FuncData}(T:TxtY K c.Y)(TD:TxtD K c.D)(TT:Txt K c.T)(aJ:MDef P w K mg base c.Y "clock_of" 1 ["self","number"] (cA c))(gK:MDef P w K mg base c.T "lend" 1 ["self","desk","until"] (rR c.T))
  (tL:CDef P w K mg base "Copy" c.C 1 ["self","value","version","until"] (oj c.C))(F:Fun K "lend_copy" "Yard.lend_copy" (inClass (top 18) 4) f fd):FnOk P w K mg base CX0 3 f fd ["self","number","name"] (hV c):=by
 refine F.ok dD (fun vs H Q E h=>?_) (fun cdv A outer s H vs Q E hr h=>?_)
 ·obtain⟨y,G,p,s,d,n,t,rfl,_⟩:=h
  rfl
 ·obtain⟨y,G,p,s',d,n,t,rfl,Y,hd,ht,q⟩:=h
  have hu:=cx hr
  obtain⟨dx,e⟩:=id Y.yo
  obtain⟨dxt,τ,et,S,r,hn,hk⟩:=Y.at ht
  have hg:=tW (n:=n) Y
  rw[ht] at hg
  refine⟨_,(ac (aG (i:=3) dD.nd rfl (Or.inl rfl) (au hu (aF (pv 0) rfl) (pv 2) (fun _ _=>rfl))) (ac (aG (i:=4) dD.nd rfl (Or.inl rfl) (aw bM (bV (pv 0) aJ (hr.mono (by omega)) (aa (aF (pv 3) rfl) af)) (aF (pv 0) rfl))) (ac (aY (bV (pv 3) gK (hr.mono (by omega)) (aa (pv 1) (aa (pv 4) af)))) (ah (bB hu (aF (ax aI (aF (pv 0) rfl) (pv 1) (fun _ _=>rfl)) rfl) (pv 2) (rg tL (hr.mono (by omega)) rfl (aa (aF (pv 3) rfl) (aa (aF (pv 3) rfl) (aa (pv 4) af)))) rfl))))),?_⟩
  walk_at "wp e T.cl T.n5"
  refine⟨_,hg,?_⟩
  walk_at "wp e et TT.cl TT.n1"
  refine⟨y,G,p,s',t.keeper,rfl,Y,hk,?_⟩
  walk_at "wp e et T.cl T.n1"
  refine⟨_,_,τ,d,_,rfl,S,r.l.small Y.small.1,fun H1 S1 fr=>?_⟩
  obtain⟨Y1,f1⟩:=Y.setT (t':={t with lent:=set1 t.lent d (some (s'.clock t.keeper+p.length))}) ht fr (Or.inl rfl) S1 ⟨r.k,r.v,r.n,r.q,r.w,r.l.put hd⟩ rfl
  generalize hG1:({G with na:=set1 G.na n (G.na n)}:Gh)=G1 at Y1 f1
  have hta:G1.ta=G.ta:=by rw[<-hG1]
  have hn1:n∈G1.names:=by rw[<-hG1];exact hn
  obtain⟨dx1,τ1,et1,S1',r1,_,_⟩:=Y1.at (n:=n) ai
  rw[hta] at et1
  walk_at "wp et1 TT.cl TT.n2 TT.n3"
  intro x dxx hx hdx nx
  have s2:Same H1 (upd (upd H1 dxx (.own x)) x (.ins c.C dxx [])):=fun b o e=>by rw[aj (aq e hx),aj (aq e hdx)];exact e
  refine⟨x,dxx,_,_,_,rfl,upd_same,fun H2 hx2 k2=>⟨rfl,?_⟩⟩
  have s3:Same H1 H2:=fun b o e=>k2 b o (s2 b o e) (aq e hx)
  have Y2:=Y1.same s3
  obtain⟨dx2,e2⟩:=id Y2.yo
  obtain⟨dxd,kvs,ed,ec,rc,hi⟩:=Y2.deskIs hd
  walk_at "wp e2 T.cl T.n4"
  refine gP Y2 hd ?_
  walk_at "wp ed TD.cl TD.n3"
  refine⟨_,lH.k (k:=(Sum.inr n:Key)) ec (bu (by have:=rc.len;have:=Y2.small.2;omega)),?_⟩
  have nxc:x≠G1.ca d.toNat:=cu hx2 ec (by intro z;cases z)
  have rc':CopR c.C (upd H2 (G1.ca d.toNat) (.dK (putK kvs (Sum.inr n) (.ref x)))) (putK kvs (Sum.inr n) (.ref x)) G1.names (set1 (s'.cp d) n (some ⟨t.value,t.version,s'.clock t.keeper+p.length⟩)):=
   (rc.put hn1 (x:=⟨t.value,t.version,s'.clock t.keeper+p.length⟩) hx2).mono fun q dx v n u e=>by rw[aj (cu e ec (by intro z;cases z))];exact e
  obtain⟨Y3,f3⟩:=Y2.setC' (H':=upd H2 (G1.ca d.toNat) (.dK (putK kvs (Sum.inr n) (.ref x)))) hd (fun b o e hb=>by rw[aj hb];exact e) upd_same rc'
  exact q _ _ Y3 (f1.trans ((Fw.same s3).trans f3)) hta
def fk(c:Cs):Sp:=fun vs H Q E=>∃(y:Addr) (G:Gh) (p:Pl) (s:S Str) (d:Int) (n:Str) (t:Th),vs=[.ref y,.int d,.str n]/\Yd c H y G p s/\isDesk p d=true/\s.th n=some t/\
 ∀G' H',Yd c H' y G' p {s with cp:=setC s.cp d n none,th:=set1 s.th n (some {t with lent:=set1 t.lent d none})}->Fw y p H G H' G'->G'.ta=G.ta->Q .non H'
theorem kc:FnScope ["self","number","name"] ["self","number","name"] (defScope (inClass (top 18) 8)):=by walk_at "s"
theorem qW{f:Addr}{fd:FuncData}(T:TxtY K c.Y)(TD:TxtD K c.D)(TT:Txt K c.T)(cZ:MDef P w K mg base c.T "take_back" 1 ["self","desk"] (hW c.T))
  (F:Fun K "drop_copy" "Yard.drop_copy" (inClass (top 18) 8) f fd):FnOk P w K mg base CX0 2 f fd ["self","number","name"] (fk c):=by
 refine F.ok kc (fun vs H Q E h=>?_) (fun cdv A outer s H vs Q E hr h=>?_)
 ·obtain⟨y,G,p,s,d,n,t,rfl,_⟩:=h
  rfl
 ·obtain⟨y,G,p,s',d,n,t,rfl,Y,hd,ht,q⟩:=h
  have hu:=cx hr
  obtain⟨dx,e⟩:=id Y.yo
  obtain⟨dxd,kvs,ed,ec,rc,hi⟩:=Y.deskIs hd
  refine⟨_,(ac (aY (gE (aF (ax aI (aF (pv 0) rfl) (pv 1) (fun _ _=>rfl)) rfl) (pv 2) gX ⟨rfl,rfl,rfl,rfl⟩)) (ah (aY (bV (au hu (aF (pv 0) rfl) (pv 2) (fun _ _=>rfl)) cZ (hr.mono (by omega)) (aa (pv 1) af))))),?_⟩
  walk_at "wp e T.cl T.n4"
  refine gP Y hd ?_
  walk_at "wp ed TD.cl TD.n3"
  refine⟨Or.inl ⟨_,Rd.of ec⟩,kvs,ec,Sum.inr n,rfl,fun v hv=>?_,fun hv=>?_⟩
  ·obtain⟨Y1,f1⟩:=Y.setC' (H':=upd H (G.ca d.toNat) (.dK (cj kvs (Sum.inr n)))) (f':=set1 (s'.cp d) n none) hd (fun b o e hb=>by rw[aj hb];exact e) upd_same ((rc.drop n).mono fun q dx v n u e=>by rw[aj (cu e ec (by intro z;cases z))];exact e)
   generalize upd H (G.ca d.toNat) (.dK (cj kvs (Sum.inr n)))=H1 at Y1 f1 ⊢
   obtain⟨dx1,e1⟩:=id Y1.yo
   obtain⟨dxt,τ,et,S,r,hn,hk⟩:=Y1.at (n:=n) ht
   have hg:=tW (n:=n) Y1
   rw[show({s' with cp:=setC s'.cp d n none}:Fb.Y.S Str).th n=some t from ht] at hg
   walk_at "wp e1 T.cl T.n5"
   refine⟨_,hg,?_⟩
   walk_at "wp et"
   refine⟨_,_,τ,d,rfl,S,fun H2 S2 fr=>?_⟩
   obtain⟨Y2,f2⟩:=Y1.setT (t':={t with lent:=set1 t.lent d none}) ht fr (Or.inl rfl) S2 ⟨r.k,r.v,r.n,r.q,r.w,r.l.drop d⟩ rfl
   exact q _ _ Y2 (f1.trans f2) rfl
  ·have rc1:=rc.drop n
   rw[jD (oG hv)] at rc1
   obtain⟨Y1,f1⟩:=Y.setC' (H':=H) (f':=set1 (s'.cp d) n none) hd (fun b o e hb=>e) ec rc1
   obtain⟨dx1,e1⟩:=id Y1.yo
   obtain⟨dxt,τ,et,S,r,hn,hk⟩:=Y1.at (n:=n) ht
   have hg:=tW (n:=n) Y1
   rw[show({s' with cp:=setC s'.cp d n none}:Fb.Y.S Str).th n=some t from ht] at hg
   walk_at "wp e1 T.cl T.n5"
   refine⟨_,hg,?_⟩
   walk_at "wp et"
   refine⟨_,_,τ,d,rfl,S,fun H2 S2 fr=>?_⟩
   obtain⟨Y2,f2⟩:=Y1.setT (t':={t with lent:=set1 t.lent d none}) ht fr (Or.inl rfl) S2 ⟨r.k,r.v,r.n,r.q,r.w,r.l.drop d⟩ rfl
   exact q _ _ Y2 (f1.trans f2) rfl
def rV(c:Cs):Sp:=fun vs H Q E=>∃(y:Addr) (G:Gh) (p:Pl) (s:S Str) (d:Int) (n:Str),vs=[.ref y,.int d,.str n]/\Yd c H y G p s/\eM c H y G p (step p s (.read d n)) Q E
theorem cV:FnScope ["self","number","name","thing","held"] ["self","number","name"] (defScope (inClass (top 18) 3)):=by walk_at "s"
theorem gV{p:Pl}{s:S Str}{d:Int}{n:Str}{k:Th->An×S Str}(hd:isDesk p d=false):named p s d n k=(.noDesk,s):=by simp only[named,hd,Bool.false_eq_true, ↓reduceIte]
theorem gr{p:Pl}{s:S Str}{d:Int}{n:Str}{k:Th->An×S Str}(hd:isDesk p d=true)(ht:s.th n=none):named p s d n k=(.noThing,s):=by simp only[named,hd,ht, ↓reduceIte]
theorem gs{p:Pl}{s:S Str}{d:Int}{n:Str}{t:Th}{k:Th->An×S Str}(hd:isDesk p d=true)(ht:s.th n=some t)(hu:s.up d=false):named p s d n k=(.stopped,s):=by simp only[named,hd,ht,hu,Bool.false_eq_true, ↓reduceIte]
theorem jS{p:Pl}{s:S Str}{d:Int}{n:Str}{t:Th}{k:Th->An×S Str}(hd:isDesk p d=true)(ht:s.th n=some t)(hu:s.up d=true):named p s d n k=k t:=by simp only[named,hd,ht,hu, ↓reduceIte]
theorem Dh.tri{H:Hp}{a:Addr}{x:Str}{v n:Int}(h:H a=some (.tup [.str x,.int v,.int n])):Dh H (.ref a) (.tuple [.str x,.int v,.int n]):= .tup h (.cons (.str _) (.cons (.int _) (.cons (.int _) .nil)))
theorem As{f:Addr}{fd:FuncData}(T:TxtY K c.Y)(TD:TxtD K c.D)(TT:Txt K c.T)(TC:TxtC K c.C)(aS:MDef1 P w K mg base c.Y "check_asker" 2 ["self","number","name"] (cz c))(aP:MDef1 P w K mg base c.Y "check_keeper" 1 ["self","thing"] (cm c))
  (aJ:MDef P w K mg base c.Y "clock_of" 1 ["self","number"] (cA c))(jj:Def P w K mg base "is_fresh" 2 ["clock","until","bound"] iO)(dM:MDef P w K mg base c.Y "lend_copy" 3 ["self","number","name"] (hV c))
  (F:Fun K "read_thing" "Yard.read_thing" (inClass (top 18) 3) f fd):FnOk P w K mg base (CX1 P w) 4 f fd ["self","number","name"] (rV c):=by
 refine F.ok1 cV (fun vs H Q E h=>?_) (fun cdv A outer s H vs Q E hr h=>?_)
 ·obtain⟨y,G,p,s,d,n,rfl,_⟩:=h
  rfl
 ·obtain⟨y,G,p,s',d,n,rfl,Y,q⟩:=h
  have hu:=cx hr
  obtain⟨dx,e⟩:=id Y.yo
  have q:eM c H y G p (named p s' d n (cg p s' d n)) Q E:=q
  refine⟨_,(ac (aY (bq (pv 0) aS dA (hr.mono (by omega)) (aa (pv 1) (aa (pv 2) af)))) (ac (aG (i:=3) cV.nd rfl (Or.inl rfl) (au hu (aF (pv 0) rfl) (pv 2) (fun _ _=>rfl))) (ac (aH (aB bA (aF (pv 3) rfl) (pv 1) (aE _)) (ah (ar (br (aa al (aa (aF (pv 3) rfl) (aa (aF (pv 3) rfl) af)))))) av) (ac (aG (i:=4) cV.nd rfl (Or.inl rfl) (yF hu (aF (ax aI (aF (pv 0) rfl) (pv 1) (fun _ _=>rfl)) rfl) (pv 2) ⟨rfl,rfl,rfl,rfl⟩)) (ac (aH (PW.pt (kS (fT (iW (pv 4))) (jU (bg (aL jj (hr.mono (by omega)) rfl (aa (bV (pv 0) aJ (hr.mono (by omega)) (aa (pv 1) af)) (aa (aF (pv 4) rfl) (aa (aF (pv 0) rfl) af)))))))) (ah (ar (br (aa al (aa (aF (pv 4) rfl) (aa (aF (pv 4) rfl) af)))))) av) (ac (aY (bq (pv 0) aP dA (hr.mono (by omega)) (aa (pv 3) af))) (ac (aH (fT (iW (aF (pv 3) rfl))) (ah (ar al)) av) (ac (aY (bV (pv 0) dM (hr.mono (by omega)) (aa (pv 1) (aa (pv 2) af)))) (ah (ar (br (aa al (aa (aF (pv 3) rfl) (aa (aF (pv 3) rfl) af)))))))))))))),?_⟩
  walk_at "wp e"
  refine⟨y,G,p,s',d,n,rfl,Y,fun hd=>?_,fun hd ht=>?_,fun t hd ht hup=>?_,fun t hd ht hup=>?_⟩
  ·rw[gV hd] at q;exact q.1 _ rfl
  ·rw[gr hd ht] at q;exact q.1 _ rfl
  ·rw[gs hd ht hup] at q;exact q.1 _ rfl
  rw[jS hd ht hup] at q
  obtain⟨dxt,τ,et,S,r,hn,hk⟩:=Y.at ht
  have hg:=tW (n:=n) Y
  rw[ht] at hg
  walk_at "wp e T.cl T.n5"
  refine⟨_,hg,?_⟩
  walk_at "wp et TT.cl TT.n1 TT.n2 TT.n3"
  by_cases hkd:t.keeper=d
  ·have es:cg p s' d n t=(.own t.value t.version,s'):=by simp only[cg,if_pos hkd]
   rw[es] at q
   rw[decide_eq_true hkd]
   refine eZ ?_
   intro a ha
   have s1:Same H (upd H a (.tup [.str "own",.int t.value,.int t.version])):=(Same.refl H).new ha
   exact q.2 rfl _ G _ (Y.same s1) (Fw.same s1) (Dh.tri upd_same)
  rw[decide_eq_false hkd]
  refine fK ?_
  obtain⟨dxd,kvs,ed,ec,rc,hi⟩:=Y.deskIs hd
  walk_at "wp e T.cl T.n4"
  refine gP Y hd ?_
  walk_at "wp ed TD.cl TD.n3"
  refine⟨Or.inl ⟨_,Rd.of ec⟩,_,gb.k (k:=(Sum.inr n:Key)) ec,?_⟩
  cases hcp:s'.cp d n with
  |none=>
   have hfc:gk p s' d n=none:=by simp only[gk,hcp]
   rw[rc.no n hcp]
   refine fK ?_
   try walk_at "wp e"
   refine⟨y,G,p,s',n,t,rfl,Y,ht,fun hup2=>?_,fun hup2=>?_⟩
   ·have es:cg p s' d n t=(.noAnswer,s'):=by simp only[cg,if_neg hkd,hfc,hup2,Bool.false_eq_true, ↓reduceIte]
    rw[es] at q
    exact q.1 _ rfl
   walk_at "wp et TT.cl TT.n6"
   cases hw:t.waiting with
   |some z=>
    have es:cg p s' d n t=(.notNow,s'):=by simp only[cg,if_neg hkd,hfc,hup2,hw, ↓reduceIte]
    rw[es] at q
    rw[decide_eq_false (show ¬ov (some z)=V.non from fun e=>nomatch e)]
    refine eZ ?_
    exact q.2 rfl _ G H Y Fw.refl (.str _)
   |none=>
    have es:cg p s' d n t=(.lent t.value t.version,{s' with cp:=setC s'.cp d n (some ⟨t.value,t.version,s'.clock t.keeper+p.length⟩),th:=set1 s'.th n (some {t with lent:=set1 t.lent d (some (s'.clock t.keeper+p.length))})}):=by simp only[cg,if_neg hkd,hfc,hup2,hw, ↓reduceIte]
    rw[es] at q
    refine lA rfl ?_
    walk_at "wp e"
    refine⟨y,G,p,s',d,n,t,rfl,Y,hd,ht,fun G1 H1 Y1 f1 hG=>?_⟩
    obtain⟨dx1,τ1,et1,_⟩:=Y1.at (n:=n) ai
    rw[hG] at et1
    walk_at "wp et1 TT.cl TT.n2 TT.n3"
    intro a ha
    have s2:Same H1 (upd H1 a (.tup [.str "lent",.int t.value,.int t.version])):=(Same.refl H1).new ha
    exact q.2 rfl _ G1 _ (Y1.same s2) (f1.trans (Fw.same s2)) (Dh.tri upd_same)
  |some x=>
   obtain⟨q0,dxq,hv,hq⟩:=rc.so n x hcp
   rw[hv]
   refine eZ ?_
   walk_at "wp e"
   refine⟨y,G,p,s',d,rfl,Y,hd,?_⟩
   walk_at "wp e hq TC.cl TC.n3 T.cl T.n2 iO"
   by_cases hf:s'.clock d+2*p.bound<=x.till
   ·have hfc:gk p s' d n=some x:=by simp only[gk,hcp,if_pos hf]
    have es:cg p s' d n t=(.fresh x.value x.version,s'):=by simp only[cg,if_neg hkd,hfc]
    rw[es] at q
    rw[decide_eq_true (show s'.clock d<=x.till - 2*p.bound by omega)]
    refine eZ ?_
    walk_at "wp hq TC.cl TC.n1 TC.n2"
    intro a ha
    have s1:Same H (upd H a (.tup [.str "fresh",.int x.value,.int x.version])):=(Same.refl H).new ha
    exact q.2 rfl _ G _ (Y.same s1) (Fw.same s1) (Dh.tri upd_same)
   ·have hfc:gk p s' d n=none:=by simp only[gk,hcp,if_neg hf]
    rw[decide_eq_false (show ¬s'.clock d<=x.till - 2*p.bound by omega)]
    refine fK ?_
    try walk_at "wp e"
    refine⟨y,G,p,s',n,t,rfl,Y,ht,fun hup2=>?_,fun hup2=>?_⟩
    ·have es:cg p s' d n t=(.noAnswer,s'):=by simp only[cg,if_neg hkd,hfc,hup2,Bool.false_eq_true, ↓reduceIte]
     rw[es] at q
     exact q.1 _ rfl
    walk_at "wp et TT.cl TT.n6"
    cases hw:t.waiting with
    |some z=>
     have es:cg p s' d n t=(.notNow,s'):=by simp only[cg,if_neg hkd,hfc,hup2,hw, ↓reduceIte]
     rw[es] at q
     rw[decide_eq_false (show ¬ov (some z)=V.non from fun e=>nomatch e)]
     refine eZ ?_
     exact q.2 rfl _ G H Y Fw.refl (.str _)
    |none=>
     have es:cg p s' d n t=(.lent t.value t.version,{s' with cp:=setC s'.cp d n (some ⟨t.value,t.version,s'.clock t.keeper+p.length⟩),th:=set1 s'.th n (some {t with lent:=set1 t.lent d (some (s'.clock t.keeper+p.length))})}):=by simp only[cg,if_neg hkd,hfc,hup2,hw, ↓reduceIte]
     rw[es] at q
     refine lA rfl ?_
     walk_at "wp e"
     refine⟨y,G,p,s',d,n,t,rfl,Y,hd,ht,fun G1 H1 Y1 f1 hG=>?_⟩
     obtain⟨dx1,τ1,et1,_⟩:=Y1.at (n:=n) ai
     rw[hG] at et1
     walk_at "wp et1 TT.cl TT.n2 TT.n3"
     intro a ha
     have s2:Same H1 (upd H1 a (.tup [.str "lent",.int t.value,.int t.version])):=(Same.refl H1).new ha
     exact q.2 rfl _ G1 _ (Y1.same s2) (f1.trans (Fw.same s2)) (Dh.tri upd_same)
theorem lc{κ α:Type}[DecidableEq κ]{f:κ->α}{k:κ}{a b:α}:set1 (set1 f k a) k b=set1 f k b:=by
 funext x
 by_cases z:x=k
 ·rw[z,ai,ai]
 ·rw[ao z,ao z,ao z]
def lg(c:Cs):Sp:=fun vs H Q E=>∃(y:Addr) (G:Gh) (p:Pl) (s:S Str) (d:Int) (n:Str) (v:Int),vs=[.ref y,.int d,.str n,.int v]/\Yd c H y G p s/\eM c H y G p (step p s (.change d n v)) Q E
theorem fU:FnScope ["self","number","name","value","thing"] ["self","number","name","value"] (defScope (inClass (top 18) 5)):=by walk_at "s"
theorem wy{f:Addr}{fd:FuncData}(T:TxtY K c.Y)(TT:Txt K c.T)(aS:MDef1 P w K mg base c.Y "check_asker" 2 ["self","number","name"] (cz c))(aP:MDef1 P w K mg base c.Y "check_keeper" 1 ["self","thing"] (cm c))
  (bK:MDef P w K mg base c.Y "drop_copy" 2 ["self","number","name"] (fk c))(fD:MDef P w K mg base c.T "put_up" 1 ["self","value"] (lj c.T))(bO:MDef P w K mg base c.T "attempt" 2 ["self","clock"] (hU c.T))(aJ:MDef P w K mg base c.Y "clock_of" 1 ["self","number"] (cA c))
  (F:Fun K "ask_change" "Yard.ask_change" (inClass (top 18) 5) f fd):FnOk P w K mg base (CX1 P w) 3 f fd ["self","number","name","value"] (lg c):=by
 refine F.ok1 fU (fun vs H Q E h=>?_) (fun cdv A outer s H vs Q E hr h=>?_)
 ·obtain⟨y,G,p,s,d,n,v,rfl,_⟩:=h
  rfl
 ·obtain⟨y,G,p,s',d,n,v,rfl,Y,q⟩:=h
  have hu:=cx hr
  obtain⟨dx,e⟩:=id Y.yo
  have q:eM c H y G p (named p s' d n (bQ p s' d n v)) Q E:=q
  refine⟨_,(ac (aY (bq (pv 0) aS dA (hr.mono (by omega)) (aa (pv 1) (aa (pv 2) af)))) (ac (aG (i:=4) fU.nd rfl (Or.inl rfl) (au hu (aF (pv 0) rfl) (pv 2) (fun _ _=>rfl))) (ac (aY (bq (pv 0) aP dA (hr.mono (by omega)) (aa (pv 4) af))) (ac (aY (bV (pv 0) bK (hr.mono (by omega)) (aa (pv 1) (aa (pv 2) af)))) (ac (aH (bZ (bg (bV (pv 4) fD (hr.mono (by omega)) (aa (pv 3) af)))) (ah (ar al)) av) (ah (ar (bV (pv 4) bO (hr.mono (by omega)) (aa (bV (pv 0) aJ (hr.mono (by omega)) (aa (aF (pv 4) rfl) af)) af))))))))),?_⟩
  walk_at "wp e"
  refine⟨y,G,p,s',d,n,rfl,Y,fun hd=>?_,fun hd ht=>?_,fun t hd ht hup=>?_,fun t hd ht hup=>?_⟩
  ·rw[gV hd] at q;exact q.1 _ rfl
  ·rw[gr hd ht] at q;exact q.1 _ rfl
  ·rw[gs hd ht hup] at q;exact q.1 _ rfl
  rw[jS hd ht hup] at q
  have hg:=tW (n:=n) Y
  rw[ht] at hg
  walk_at "wp e T.cl T.n5"
  refine⟨_,hg,?_⟩
  walk_at "wp e"
  refine⟨y,G,p,s',n,t,rfl,Y,ht,fun hup2=>?_,fun hup2=>?_⟩
  ·have es:bQ p s' d n v t=(.noAnswer,s'):=by simp only[bQ,hup2,Bool.false_eq_true, ↓reduceIte]
   rw[es] at q
   exact q.1 _ rfl
  walk_at "wp e"
  refine⟨y,G,p,s',d,n,t,rfl,Y,hd,ht,fun G1 H1 Y1 f1 hG=>?_⟩
  obtain⟨dx1,τ1,et1,S1,r1,hn1,hk1⟩:=Y1.at (n:=n) ai
  rw[hG] at et1 S1
  walk_at "wp et1"
  refine⟨_,_,τ1,v,rfl,S1,fun hw H2 S2 fr=>?_,fun z hw=>?_⟩
  ·have hw:t.waiting=none:=by rw[<-r1.w];exact hw
   rw[<-hG] at S2 fr
   obtain⟨Y2,f2⟩:=Y1.setT (n:=n) (t':={t with lent:=set1 t.lent d none,waiting:=some v}) ai fr (Or.inl rfl) S2 ⟨r1.k,r1.v,r1.n,r1.q,rfl,r1.l⟩ rfl
   have es:bQ p s' d n v t=((attempt p (s'.clock t.keeper) {t with lent:=set1 t.lent d none,waiting:=some v}).1,{s' with cp:=setC s'.cp d n none,th:=set1 s'.th n (some (attempt p (s'.clock t.keeper) {t with lent:=set1 t.lent d none,waiting:=some v}).2)}):=by simp only[bQ,hup2,hw, ↓reduceIte]
   rw[es] at q
   rw[lc] at Y2
   obtain⟨dx2,τ2,et2,S2',r2,hn2,hk2⟩:=Y2.at (n:=n) ai
   obtain⟨dxy2,e2⟩:=id Y2.yo
   rw[hG] at et2
   walk_at "wp e2 et2 TT.cl TT.n1"
   refine⟨y,_,p,_,_,rfl,Y2,hk2,?_⟩
   obtain⟨a1,a2,a3,a4⟩:=r2.att (s'.clock t.keeper)
   rw[hG] at S2'
   refine⟨_,_,τ2,_,rfl,S2',r2.l.ints,r2.l.small Y2.small.1,fun u d' H3 hu3 S3 hd' kp=>?_⟩
   rw[<-hG] at S3 kp
   obtain⟨Y3,f3⟩:=Y2.setT (n:=n) ai (fun b o e hb _=>kp b o e hb) hd' S3 a2 a4
   simp only[lc] at Y3 f3
   exact q.2 a3 _ _ _ Y3 (f1.trans (f2.trans f3)) (by rw[<-a1];exact hu3)
  ·have hw:t.waiting=some z:=by rw[<-r1.w];exact hw
   have es:bQ p s' d n v t=(.notNow,{s' with cp:=setC s'.cp d n none,th:=set1 s'.th n (some {t with lent:=set1 t.lent d none})}):=by simp only[bQ,hup2,hw, ↓reduceIte]
   rw[es] at q
   walk_at "wp"
   exact q.2 rfl _ _ _ Y1 f1 (.str _)
def ou(c:Cs):Sp:=fun vs H Q E=>∃(y:Addr) (G:Gh) (p:Pl) (s:S Str) (n:Str),vs=[.ref y,.str n]/\Yd c H y G p s/\eM c H y G p (step p s (.tries n)) Q E
theorem fV:FnScope ["self","name","thing"] ["self","name"] (defScope (inClass (top 18) 6)):=by walk_at "s"
theorem yx{f:Addr}{fd:FuncData}(T:TxtY K c.Y)(TT:Txt K c.T)(bF:MDef1 P w K mg base c.Y "find_thing" 1 ["self","name"] (eB c))(aP:MDef1 P w K mg base c.Y "check_keeper" 1 ["self","thing"] (cm c))
  (bO:MDef P w K mg base c.T "attempt" 2 ["self","clock"] (hU c.T))(aJ:MDef P w K mg base c.Y "clock_of" 1 ["self","number"] (cA c))
  (F:Fun K "try_change" "Yard.try_change" (inClass (top 18) 6) f fd):FnOk P w K mg base (CX1 P w) 3 f fd ["self","name"] (ou c):=by
 refine F.ok1 fV (fun vs H Q E h=>?_) (fun cdv A outer s H vs Q E hr h=>?_)
 ·obtain⟨y,G,p,s,n,rfl,_⟩:=h
  rfl
 ·obtain⟨y,G,p,s',n,rfl,Y,q⟩:=h
  obtain⟨dx,e⟩:=id Y.yo
  refine⟨_,(ac (aG (i:=2) fV.nd rfl (Or.inl rfl) (bq (pv 0) bF dA (hr.mono (by omega)) (aa (pv 1) af))) (ac (aY (bq (pv 0) aP dA (hr.mono (by omega)) (aa (pv 2) af))) (ah (ar (bV (pv 2) bO (hr.mono (by omega)) (aa (bV (pv 0) aJ (hr.mono (by omega)) (aa (aF (pv 2) rfl) af)) af)))))),?_⟩
  walk_at "wp e"
  refine⟨y,G,p,s',n,rfl,Y,fun t ht=>?_,fun ht=>?_⟩
  ·walk_at "wp e"
   refine⟨y,G,p,s',n,t,rfl,Y,ht,fun hup2=>?_,fun hup2=>?_⟩
   ·have es:step p s' (.tries n)=(.noAnswer,s'):=by simp only[Fb.Y.step,ht,hup2,Bool.false_eq_true, ↓reduceIte]
    rw[es] at q
    exact q.1 _ rfl
   have es:step p s' (.tries n)=((attempt p (s'.clock t.keeper) t).1,{s' with th:=set1 s'.th n (some (attempt p (s'.clock t.keeper) t).2)}):=by simp only[Fb.Y.step,ht,hup2, ↓reduceIte]
   rw[es] at q
   obtain⟨dx2,τ2,et2,S2,r2,hn2,hk2⟩:=Y.at ht
   walk_at "wp e et2 TT.cl TT.n1"
   refine⟨y,_,p,_,_,rfl,Y,hk2,?_⟩
   obtain⟨a1,a2,a3,a4⟩:=r2.att (s'.clock t.keeper)
   refine⟨_,_,τ2,_,rfl,S2,r2.l.ints,r2.l.small Y.small.1,fun u d' H3 hu3 S3 hd' kp=>?_⟩
   obtain⟨Y3,f3⟩:=Y.setT (n:=n) ht (fun b o e hb _=>kp b o e hb) hd' S3 a2 a4
   exact q.2 a3 _ _ _ Y3 f3 (by rw[<-a1];exact hu3)
  ·have es:step p s' (.tries n)=(.noThing,s'):=by simp only[Fb.Y.step,ht]
   rw[es] at q
   exact q.1 _ rfl
def rM(c:Cs):Sp:=fun vs H Q E=>∃(y:Addr) (G:Gh) (p:Pl) (s:S Str) (d:Int) (n:Str),vs=[.ref y,.int d,.str n]/\Yd c H y G p s/\Down s/\eM c H y G p (step p s (.back d n)) Q E
theorem gf:FnScope ["self","number","name","had_one"] ["self","number","name"] (defScope (inClass (top 18) 7)):=by walk_at "s"
theorem Ai{f:Addr}{fd:FuncData}(T:TxtY K c.Y)(TD:TxtD K c.D)(aS:MDef1 P w K mg base c.Y "check_asker" 2 ["self","number","name"] (cz c))(bK:MDef P w K mg base c.Y "drop_copy" 2 ["self","number","name"] (fk c))
  (F:Fun K "give_back" "Yard.give_back" (inClass (top 18) 7) f fd):FnOk P w K mg base (CX1 P w) 3 f fd ["self","number","name"] (rM c):=by
 refine F.ok1 gf (fun vs H Q E h=>?_) (fun cdv A outer s H vs Q E hr h=>?_)
 ·obtain⟨y,G,p,s,d,n,rfl,_⟩:=h
  rfl
 ·obtain⟨y,G,p,s',d,n,rfl,Y,dw,q⟩:=h
  have hu:=cx hr
  obtain⟨dx,e⟩:=id Y.yo
  have q:eM c H y G p (named p s' d n (ie s' d n)) Q E:=q
  refine⟨_,(ac (aY (bq (pv 0) aS dA (hr.mono (by omega)) (aa (pv 1) (aa (pv 2) af)))) (ac (aG (i:=3) gf.nd rfl (Or.inl rfl) (ux (yD hu (pv 2) (aF (ax aI (aF (pv 0) rfl) (pv 1) (fun _ _=>rfl)) rfl)))) (ac (aY (bV (pv 0) bK (hr.mono (by omega)) (aa (pv 1) (aa (pv 2) af)))) (ah (ar (pv 3)))))),?_⟩
  walk_at "wp e"
  refine⟨y,G,p,s',d,n,rfl,Y,fun hd=>?_,fun hd ht=>?_,fun t hd ht hup=>?_,fun t hd ht hup=>?_⟩
  ·rw[gV hd] at q;exact q.1 _ rfl
  ·rw[gr hd ht] at q;exact q.1 _ rfl
  ·rw[gs hd ht hup] at q;exact q.1 _ rfl
  rw[jS hd ht hup] at q
  obtain⟨dxd,kvs,ed,ec,rc,hi⟩:=Y.deskIs hd
  walk_at "wp e T.cl T.n4"
  refine gP Y hd ?_
  walk_at "wp ed TD.cl TD.n3"
  refine⟨_,gb.k (k:=(Sum.inr n:Key)) ec,?_⟩
  walk_at "wp e"
  refine⟨y,G,p,s',d,n,t,rfl,Y,hd,ht,fun G1 H1 Y1 f1 hG=>?_⟩
  have es:ie s' d n t=(.bl (valV kvs (Sum.inr n)).isSome,{s' with cp:=setC s'.cp d n none,th:=set1 s'.th n (some {t with lent:=set1 t.lent d none})}):=by
   unfold ie
   rw[rc.some]
   cases hup2:s'.up t.keeper with
   |true=>rfl
   |false=>
    have e1:set1 t.lent d none=t.lent:=by
     funext x
     by_cases z:x=d
     ·rw[z,ai,dw n t ht hup2]
     ·rw[ao z]
    have e2:set1 s'.th n (some {t with lent:=set1 t.lent d none})=s'.th:=by
     funext x
     by_cases z:x=n
     ·rw[z,ai,e1,ht]
     ·rw[ao z]
    rw[e2]
    rfl
  rw[es] at q
  exact q.2 rfl _ _ _ Y1 f1 (.bl _)
end
section
variable {P : Program} {w : World} {K : PySem.W.Frag} {mg : Str → Option Value} {base : Heap} {C : Addr}
open Y
variable {c : Cs}
def eE(G:Gh)(s:S Str)(d:Int):List Str:=G.names.filter fun n=>match s.th n with
 |some t=>decide (t.keeper=d)
 |none=>false
def mL(c:Cs)(H:Hp)(d:Int):V->Bool
 | .ref a=>match H a with
  |some (.ins _ _ f)=>decide (f.lookup ("keeper":Str)=some (.int d))
  |_=>false
 |_=>false
def md(c:Cs):Sp:=fun vs H Q _=>∃(y:Addr) (G:Gh) (p:Pl) (s:S Str) (d:Int),vs=[.ref y,.int d]/\Yd c H y G p s/\∀l H',H l=none->H' l=some (.lst ((eE G s d).map fun n=> .ref (G.ta n)))->Same H H'->Q (.ref l) H'
theorem lQ:FnScope ["self","number"] ["self","number"] (defScope (inClass (top 18) 16)):=by walk_at "s"
theorem zN{H:Hp}{y:Addr}{G:Gh}{p:Pl}{s:S Str}(Y:Yd c H y G p s)(d:Int):(((tkOf G).map (·.2)).filter (mL c H d))=(eE G s d).map fun n=> .ref (G.ta n):=by
 unfold tkOf eE
 have key:∀l:List Str,(∀n∈l,n∈G.names)->(((l.map fun n=>((Sum.inr n:Key),V.ref (G.ta n))).map (·.2)).filter (mL c H d))=(l.filter fun n=>match s.th n with
   |some t=>decide (t.keeper=d)
   |none=>false).map fun n=> .ref (G.ta n):=by
  intro l hl
  induction l with
  |nil=>rfl
  |cons n r ih=>
   obtain⟨t,ht⟩:=Y.mem (hl n List.mem_cons_self)
   obtain⟨dx,τ,et,_⟩:=Y.at ht
   have e1:mL c H d (.ref (G.ta n))=decide (t.keeper=d):=by
    unfold mL
    dsimp only
    rw[et]
    dsimp only
    rw[fl_keeper]
    by_cases z:t.keeper=d
    ·rw[z,decide_eq_true rfl,decide_eq_true rfl]
    ·rw[decide_eq_false z,decide_eq_false (fun q=>z (by injection q with q;injection q))]
   have ih:=ih fun m hm=>hl m (List.mem_cons_of_mem _ hm)
   rw[List.map_cons,List.map_cons,List.filter_cons,List.filter_cons,e1,ih]
   dsimp only
   rw[ht]
   dsimp only
   by_cases z:t.keeper=d
   ·simp[z]
   ·simp[z]
 exact key G.names fun n hn=>hn
theorem Al{f:Addr}{fd:FuncData}(T:TxtY K c.Y)(TT:Txt K c.T)(F:Fun K "kept_by" "Yard.kept_by" (inClass (top 18) 16) f fd):FnOk P w K mg base CX0 1 f fd ["self","number"] (md c):=by
 refine F.ok lQ (fun vs H Q E h=>?_) (fun cdv A outer s H vs Q E hr h=>?_)
 ·obtain⟨y,G,p,s,d,rfl,_⟩:=h
  rfl
 ·obtain⟨y,G,p,s',d,rfl,Y,q⟩:=h
  obtain⟨dx,e⟩:=id Y.yo
  refine⟨_,(ah (ar (BR (own:=["thing"]) rfl (LcScope.of (by kernel_rfl)) (yL (aF (pv 0) rfl) rfl rfl) (fun cl C s H fp=>⟨(aV (i:=2) (show List.Nodup (α:=Str) ["self","number","thing"] by decide+kernel) rfl (Or.inl rfl)),(rA (aB bA (fc (K:=K) rfl (pv 2) rfl) (pv 1) (aE _))),(pv 2)⟩)))),?_⟩
  walk_at "wp Bh Bu e T.cl T.n5 tLc tLcR"
  refine⟨_,Y.dt,fun ob D hD=>?_⟩
  have nD:D≠G.dt:=fun z=>by rw[z,upd_same] at hD;cases hD
  have hD0:H D=none:=by rw[aj nD] at hD;exact hD
  have hth:∀H',Same (upd H G.dt (.frz ob (.dK (tkOf G)))) H'->∀v∈(tkOf G).map (·.2),∃a dxt k fs,v= .ref a/\H a=some (.ins c.T dxt fs)/\H' a=some (.ins c.T dxt fs)/\fs.lookup ("keeper":Str)=some (.int k):=fun H' sm v hv=>by
   obtain⟨kv,h1,h2⟩:=List.mem_map.mp hv
   obtain⟨n,hn,h3⟩:=List.mem_map.mp h1
   obtain⟨t,ht⟩:=Y.mem hn
   obtain⟨dxt,τ,et,_⟩:=Y.at ht
   refine⟨G.ta n,dxt,t.keeper,_,by rw[<-h2,<-h3],et,sm _ _ ?_,fl_keeper⟩
   rw[aj (cu et Y.dt (by intro z;cases z))]
   exact et
  refine vn (xs:=(tkOf G).map (·.2)) rfl hD (fun H' sm=>aR.vals (sm _ _ upd_same)) (by rw[List.length_map];unfold tkOf;rw[List.length_map];have:=Y.small.2;omega) (mL c H d) id (fun x hx H' sm R r=>?_) (fun x hx _ H' sm R r=>?_) ?_
  ·obtain⟨a,dxt,k,fs,rfl,ea,ea',hk⟩:=hth H' sm x hx
   walk_at "wp ea' TT.cl TT.n1 hk"
   have:mL c H d (.ref a)=decide (k=d):=by
    unfold mL
    dsimp only
    rw[ea]
    dsimp only
    rw[hk]
    by_cases z:k=d
    ·rw[z,decide_eq_true rfl,decide_eq_true rfl]
    ·rw[decide_eq_false z,decide_eq_false (fun q=>z (by injection q with q;injection q))]
   rw[this] at r
   exact r
  ·walk_at "wp"
   exact r
  ·refine⟨G.dt,ob,tkOf G,_,Y.dt,?_,?_⟩
   ·rw[aj nD.symm,upd_same]
   ·refine q D _ hD0 ?_ fun b o eb=>?_
    ·rw[aj nD,upd_same,List.map_id,zN Y d]
    ·by_cases z:b=G.dt
     ·rw[z] at eb ⊢
      rw[upd_same,<-eb]
      exact Y.dt.symm
     ·rw[aj z,aj (aq eb hD0),aj z]
      exact eb
theorem Yd.ownK{H:Hp}{y:Addr}{G:Gh}{p:Pl}{s:S Str}(Y:Yd c H y G p s){b:Addr}(h:Own y G p b):(∃C dx f,H b=some (.ins C dx f))∨∃l,H b=some (.dK l):=by
 rcases h with z |⟨i,hi,z |z⟩ |⟨n,hn,z |z⟩
 ·obtain⟨dx,e⟩:=Y.yo
  exact Or.inl ⟨_,_,_,z▸e⟩
 ·obtain⟨dx,e⟩:=Y.desk i hi
  exact Or.inl ⟨_,_,_,z▸e⟩
 ·obtain⟨l,e,_⟩:=Y.cops i hi
  exact Or.inr ⟨_,z▸e⟩
 ·obtain⟨t,ht⟩:=Y.mem hn
  obtain⟨_,_,_,⟨⟨dx,e⟩,_⟩,_⟩:=Y.thing n t ht
  exact Or.inl ⟨_,_,_,z▸e⟩
 ·obtain⟨t,ht⟩:=Y.mem hn
  obtain⟨_,_,_,⟨_,e⟩,_⟩:=Y.thing n t ht
  exact Or.inr ⟨_,z▸e⟩
theorem Yd.notL{H:Hp}{y:Addr}{G:Gh}{p:Pl}{s:S Str}(Y:Yd c H y G p s){b:Addr}{xs:List V}(h:H b=some (.lst xs)):¬Own y G p b:=fun z=>by
 rcases Y.ownK z with ⟨_,_,_,e⟩ |⟨_,e⟩
 ·rw[h] at e;cases e
 ·rw[h] at e;cases e
theorem Yd.notT{H:Hp}{y:Addr}{G:Gh}{p:Pl}{s:S Str}(Y:Yd c H y G p s){b:Addr}{xs:List V}(h:H b=some (.tup xs)):¬Own y G p b:=fun z=>by
 rcases Y.ownK z with ⟨_,_,_,e⟩ |⟨_,e⟩
 ·rw[h] at e;cases e
 ·rw[h] at e;cases e
def dJ(s:S Str)(L:List Str)(g:Th->Th):S Str:={s with th:=fun n=>if n∈L then(s.th n).map g else s.th n}
theorem pT{s:S Str}{g:Th->Th}:dJ s [] g=s:=by
 unfold dJ
 have:(fun n=>if n∈([]:List Str) then(s.th n).map g else s.th n)=s.th:=by
  funext n
  exact if_neg (by simp)
 rw[this]
theorem oB{s:S Str}{L:List Str}{g:Th->Th}{n:Str}{t:Th}(hn:n∉L)(ht:s.th n=some t):({dJ s L g with th:=set1 (dJ s L g).th n (some (g t))}:S Str)=dJ s (L++ [n]) g:=by
 unfold dJ
 dsimp only
 congr 1
 funext m
 by_cases z:m=n
 ·subst z
  rw[ai,if_pos (by simp),ht];rfl
 ·rw[ao z]
  have:(m∈L++ [n])↔m∈L:=by simp[z]
  simp only[this]
theorem pS{H:Hp}{y:Addr}{G:Gh}{p:Pl}{s0 s:S Str}(Y:Yd c H y G p s0)(d:Int)(g:Th->Th)(e:s0.th=s.th):(dJ s (eE G s d) g).th=fun n=>(s.th n).map fun t=>if t.keeper=d then g t else t:=by
 unfold dJ
 funext n
 dsimp only
 cases ht:s.th n with
 |none=>split<;>rfl
 |some t=>
  have hn:n∈G.names:=(Y.thing n t (by rw[e];exact ht)).1
  by_cases z:t.keeper=d
  ·have hm:n∈eE G s d:=List.mem_filter.mpr ⟨hn,by rw[ht];exact decide_eq_true z⟩
   rw[if_pos hm]
   show some (g t)=some (if t.keeper=d then g t else t)
   rw[if_pos z]
  ·have hm:n∉eE G s d:=fun q=>by
    have q:=(List.mem_filter.mp q).2
    rw[ht] at q
    exact z (of_decide_eq_true q)
   rw[if_neg hm]
   show some t=some (if t.keeper=d then g t else t)
   rw[if_neg z]
theorem vm{G:Gh}{s:S Str}{d:Int}(nd:G.names.Nodup):(eE G s d).Nodup:=nd.filter _
theorem rZ{L:List Str}{i:Nat}{n:Str}(nd:L.Nodup)(h:L[i]?=some n):n∉L.take i:=fun hm=>by
 obtain⟨j,hj,e⟩:=List.mem_iff_getElem.mp hm
 have hj':j<i:=by rw[List.length_take] at hj;omega
 obtain⟨hi,e2⟩:=List.getElem?_eq_some_iff.mp h
 rw[List.getElem_take] at e
 have:=(List.getElem_inj nd).mp (e.trans e2.symm)
 omega
def rX(c:Cs):Sp:=fun vs H Q E=>∃(y:Addr) (G:Gh) (p:Pl) (s:S Str) (d:Int),vs=[.ref y,.int d]/\Yd c H y G p s/\eM c H y G p (step p s (.stop d)) Q E
theorem dE:FnScope ["self","number","desk","thing"] ["self","number"] (defScope (inClass (top 18) 9)):=by walk_at "s"
theorem Au{f:Addr}{fd:FuncData}(T:TxtY K c.Y)(TD:TxtD K c.D)(TT:Txt K c.T)(aO:MDef1 P w K mg base c.Y "find_desk" 1 ["self","number"] (cJ c))(cf:MDef P w K mg base c.Y "kept_by" 1 ["self","number"] (md c))(eP:MDef P w K mg base c.T "go_down" 1 ["self"] (jw c.T))
  (F:Fun K "stop_desk" "Yard.stop_desk" (inClass (top 18) 9) f fd):FnOk P w K mg base (CX1 P w) 2 f fd ["self","number"] (rX c):=by
 refine F.ok1 dE (fun vs H Q E h=>?_) (fun cdv A outer s H vs Q E hr h=>?_)
 ·obtain⟨y,G,p,s,d,rfl,_⟩:=h
  rfl
 ·obtain⟨y,G,p,s',d,rfl,Y,q⟩:=h
  obtain⟨dx,e⟩:=id Y.yo
  refine⟨_,(ac (aG (i:=2) dE.nd rfl (Or.inl rfl) (bq (pv 0) aO dA (hr.mono (by omega)) (aa (pv 1) af))) (ac (aH (bg (aF (pv 2) rfl)) (ah (ar cb)) av) (ac (bj (pv 2) cb rfl) (ac (bj (pv 2) ck rfl) (ac (PS.nox (cG PassesOwn.never rfl (bW (bV (pv 0) cf (hr.mono (by omega)) (aa (pv 1) af))) (aV (i:=3) dE.nd rfl (Or.inl rfl)) (ah (aY (iE (pv 3) eP (hr.mono (by omega))))))) (ah (ar cb))))))),?_⟩
  walk_at "wp e"
  refine⟨y,G,p,s',d,rfl,Y,fun hd=>?_,fun hd=>?_⟩
  ·obtain⟨dxd,kvs,ed,ec,rc,hi⟩:=Y.deskIs hd
   walk_at "wp ed TD.cl TD.n2"
   cases hup:s'.up d with
   |false=>
    have es:step p s' (.stop d)=(.bl false,s'):=by simp only[Fb.Y.step,hd,hup,Bool.false_eq_true, ↓reduceIte]
    rw[es] at q
    refine eZ ?_
    exact q.2 rfl _ _ _ Y Fw.refl (.bl _)
   |true=>
    have es:step p s' (.stop d)=(.bl true,oz s' d):=by simp only[Fb.Y.step,hd,hup, ↓reduceIte]
    rw[es] at q
    refine fK ?_
    intro d' hd'
    have n1:G.da d.toNat≠d':=fun z=>by rw[<-z,upd_same] at hd';cases hd'
    have hd0:H d'=none:=by rw[aj n1.symm] at hd';exact hd'
    walk_at "wp aj:n1 TD.cl TD.n3"
    obtain⟨Y1,f1⟩:=Y.stopped (d':=d') (dx':=dxd) (u:=false) (H':=upd (upd (upd H (G.da d.toNat) (.ins c.D dxd (flD (.int (s'.off d)) (.bl true) (.ref (G.ca d.toNat))))) d' (.dK [])) (G.da d.toNat) (.ins c.D dxd (flD (.int (s'.off d)) (.bl true) (.ref d')))) hi
     (fun b v e hb=>by rw[aj hb,aj (aq e hd0),aj hb];exact e) hd0 (by rw[aj n1.symm,upd_same]) (by rw[upd_same,(Y.deskAt hd).2];rfl)
    rw[(Y.deskAt hd).2] at Y1
    generalize upd (upd (upd H (G.da d.toNat) (.ins c.D dxd (flD (.int (s'.off d)) (.bl true) (.ref (G.ca d.toNat))))) d' (.dK [])) (G.da d.toNat) (.ins c.D dxd (flD (.int (s'.off d)) (.bl true) (.ref d')))=H1 at Y1 f1 ⊢
    obtain⟨dx1,e1⟩:=id Y1.yo
    walk_at "wp e1"
    refine⟨y,_,p,_,d,rfl,Y1,fun l H2 hl0 hl s2=>?_⟩
    have Y2:=Y1.same s2
    refine⟨l,rfl,⟨_,SqL.of hl⟩,?_⟩
    refine bR (xs:=(eE {G with ca:=set1 G.ca d.toNat d'} {s' with up:=set1 s'.up d false,cp:=set1 s'.cp d fun _=>none} d).map fun n=> .ref (G.ta n))
     (fun i σ H'=>∃G' x3,σ=[some (.ref y),some (.int d),some (.ref (G.da d.toNat)),x3]/\Yd c H' y G' p (dJ {s' with up:=set1 s'.up d false,cp:=set1 s'.cp d fun _=>none} ((eE {G with ca:=set1 G.ca d.toNat d'} {s' with up:=set1 s'.up d false,cp:=set1 s'.cp d fun _=>none} d).take i) fun t=>{t with lent:=fun _=>none,waiting:=none})/\Fw y p H2 {G with ca:=set1 G.ca d.toNat d'} H' G'/\G'.ta=G.ta/\G'.names=G.names) ?_ ?_ ?_ ?_
    ·refine⟨_,_,rfl,?_,Fw.refl,rfl,rfl⟩
     rw[List.take_zero,pT]
     exact Y2
    ·rintro i σ H' _ ⟨G',x3,_,Y',f',_,_⟩
     exact aR.list (SqL.of (f'.keep _ _ hl (Y2.notL hl)))
    ·rintro i v σ H' hv ⟨G',x3,rfl,Y',f',hta,hnm⟩
     rw[List.getElem?_map] at hv
     cases en:(eE {G with ca:=set1 G.ca d.toNat d'} {s' with up:=set1 s'.up d false,cp:=set1 s'.cp d fun _=>none} d)[i]? with
     |none=>rw[en] at hv;cases hv
     |some n=>
      rw[en] at hv
      obtain rfl:=Option.some.inj hv
      have hnm':=List.mem_filter.mp (List.mem_of_getElem? en)
      obtain⟨t,ht⟩:=Y2.mem hnm'.1
      have nt:=rZ (vm Y2.nd) en
      have ht':(dJ {s' with up:=set1 s'.up d false,cp:=set1 s'.cp d fun _=>none} ((eE {G with ca:=set1 G.ca d.toNat d'} {s' with up:=set1 s'.up d false,cp:=set1 s'.cp d fun _=>none} d).take i) fun t=>{t with lent:=fun _=>none,waiting:=none}).th n=some t:=by
       unfold dJ
       dsimp only
       rw[if_neg nt]
       exact ht
      obtain⟨dxt,τ,et,S,r,_,hk⟩:=Y'.at ht'
      rw[hta] at et S
      walk_at "wp et"
      refine⟨_,_,τ,rfl,S,fun d2 H3 hd2 S3 kp=>?_⟩
      rw[<-hta] at S3 kp
      obtain⟨Y3,f3⟩:=Y'.setT (n:=n) (t':={t with lent:=fun _=>none,waiting:=none}) ht' (fun b o e hb _=>kp b o e hb) (Or.inr hd2) S3 ⟨r.k,r.v,r.n,r.q,rfl,NoteR.nil⟩ rfl
      try walk_at "wp"
      refine⟨_,?_,f'.trans f3,hta,hnm⟩
      rw[List.take_add_one,en]
      rw[oB (g:=fun t=>{t with lent:=fun _=>none,waiting:=none}) nt ht] at Y3
      exact Y3
    ·rintro σ H' ⟨G',x3,rfl,Y',f',hta,hnm⟩
     rw[List.length_map,List.take_length] at Y'
     walk_at "wp"
     refine q.2 rfl _ _ _ ?_ (f1.trans ((Fw.same s2).trans f')) (.bl _)
     have:=pS (s:={s' with up:=set1 s'.up d false,cp:=set1 s'.cp d fun _=>none}) Y2 d (fun t=>{t with lent:=fun _=>none,waiting:=none}) rfl
     have e9:oz s' d=dJ {s' with up:=set1 s'.up d false,cp:=set1 s'.cp d fun _=>none} (eE {G with ca:=set1 G.ca d.toNat d'} {s' with up:=set1 s'.up d false,cp:=set1 s'.cp d fun _=>none} d) fun t=>{t with lent:=fun _=>none,waiting:=none}:=by
      unfold oz
      unfold dJ at this ⊢
      dsimp only at this ⊢
      rw[this]
     show Yd c H' y G' p (oz s' d)
     rw[e9]
     exact Y'
  ·have es:step p s' (.stop d)=(.noDesk,s'):=by simp only[Fb.Y.step,hd,Bool.false_eq_true, ↓reduceIte]
   rw[es] at q
   exact q.1 _ rfl
def rY(c:Cs):Sp:=fun vs H Q E=>∃(y:Addr) (G:Gh) (p:Pl) (s:S Str) (d:Int),vs=[.ref y,.int d]/\Yd c H y G p s/\eM c H y G p (step p s (.wake d)) Q E
theorem dF:FnScope ["self","number","desk","thing"] ["self","number"] (defScope (inClass (top 18) 10)):=by walk_at "s"
theorem Ax{f:Addr}{fd:FuncData}(T:TxtY K c.Y)(TD:TxtD K c.D)(TT:Txt K c.T)(aO:MDef1 P w K mg base c.Y "find_desk" 1 ["self","number"] (cJ c))(cf:MDef P w K mg base c.Y "kept_by" 1 ["self","number"] (md c))(eN:MDef P w K mg base c.T "come_up" 2 ["self","clock","length","bound"] (jv c.T))(aJ:MDef P w K mg base c.Y "clock_of" 1 ["self","number"] (cA c))
  (F:Fun K "wake_desk" "Yard.wake_desk" (inClass (top 18) 10) f fd):FnOk P w K mg base (CX1 P w) 3 f fd ["self","number"] (rY c):=by
 refine F.ok1 dF (fun vs H Q E h=>?_) (fun cdv A outer s H vs Q E hr h=>?_)
 ·obtain⟨y,G,p,s,d,rfl,_⟩:=h
  rfl
 ·obtain⟨y,G,p,s',d,rfl,Y,q⟩:=h
  obtain⟨dx,e⟩:=id Y.yo
  refine⟨_,(ac (aG (i:=2) dF.nd rfl (Or.inl rfl) (bq (pv 0) aO dA (hr.mono (by omega)) (aa (pv 1) af))) (ac (aH (bZ (bg (aF (pv 2) rfl))) (ah (ar cb)) av) (ac (bj (pv 2) cb rfl) (ac (PS.nox (cG PassesOwn.never rfl (bW (bV (pv 0) cf (hr.mono (by omega)) (aa (pv 1) af))) (aV (i:=3) dF.nd rfl (Or.inl rfl)) (ah (aY (bV (pv 3) eN (hr.mono (by omega)) (aa (bV (pv 0) aJ (hr.mono (by omega)) (aa (pv 1) af)) (aa (aF (pv 0) rfl) (aa (aF (pv 0) rfl) af)))))))) (ah (ar cb)))))),?_⟩
  walk_at "wp e"
  refine⟨y,G,p,s',d,rfl,Y,fun hd=>?_,fun hd=>?_⟩
  ·obtain⟨dxd,kvs,ed,ec,rc,hi⟩:=Y.deskIs hd
   walk_at "wp ed TD.cl TD.n2"
   cases hup:s'.up d with
   |true=>
    have es:step p s' (.wake d)=(.bl false,s'):=by simp only[Fb.Y.step,hd,hup, ↓reduceIte]
    rw[es] at q
    refine eZ ?_
    exact q.2 rfl _ _ _ Y Fw.refl (.bl _)
   |false=>
    have es:step p s' (.wake d)=(.bl true,tz p s' d):=by simp only[Fb.Y.step,hd,hup,Bool.false_eq_true, ↓reduceIte]
    rw[es] at q
    refine fK ?_
    obtain⟨Y1,f1⟩:=Y.setD (o:=s'.off d) (u:=true) (dx':=dxd) (H':=upd H (G.da d.toNat) (.ins c.D dxd (flD (.int (s'.off d)) (.bl false) (.ref (G.ca d.toNat))))) hi (fun b v e hb=>by rw[aj hb];exact e) upd_same
    rw[(Y.deskAt hd).2,S.eta_up] at Y1
    generalize upd H (G.da d.toNat) (.ins c.D dxd (flD (.int (s'.off d)) (.bl false) (.ref (G.ca d.toNat))))=H1 at Y1 f1 ⊢
    obtain⟨dx1,e1⟩:=id Y1.yo
    walk_at "wp e1"
    refine⟨y,_,p,_,d,rfl,Y1,fun l H2 hl0 hl s2=>?_⟩
    have Y2:=Y1.same s2
    refine⟨l,rfl,⟨_,SqL.of hl⟩,?_⟩
    refine bR (xs:=(eE G {s' with up:=set1 s'.up d true} d).map fun n=> .ref (G.ta n))
     (fun i σ H'=>∃G' x3,σ=[some (.ref y),some (.int d),some (.ref (G.da d.toNat)),x3]/\Yd c H' y G' p (dJ {s' with up:=set1 s'.up d true} ((eE G {s' with up:=set1 s'.up d true} d).take i) fun t=>{t with quiet:=some (s'.clock d+p.length+2*p.bound)})/\Fw y p H2 G H' G'/\G'.ta=G.ta/\G'.names=G.names) ?_ ?_ ?_ ?_
    ·refine⟨_,_,rfl,?_,Fw.refl,rfl,rfl⟩
     rw[List.take_zero,pT]
     exact Y2
    ·rintro i σ H' _ ⟨G',x3,_,Y',f',_,_⟩
     exact aR.list (SqL.of (f'.keep _ _ hl (Y2.notL hl)))
    ·rintro i v σ H' hv ⟨G',x3,rfl,Y',f',hta,hnm⟩
     rw[List.getElem?_map] at hv
     cases en:(eE G {s' with up:=set1 s'.up d true} d)[i]? with
     |none=>rw[en] at hv;cases hv
     |some n=>
      rw[en] at hv
      obtain rfl:=Option.some.inj hv
      have hnm':=List.mem_filter.mp (List.mem_of_getElem? en)
      obtain⟨t,ht⟩:=Y2.mem hnm'.1
      have nt:=rZ (vm Y2.nd) en
      have ht':(dJ {s' with up:=set1 s'.up d true} ((eE G {s' with up:=set1 s'.up d true} d).take i) fun t=>{t with quiet:=some (s'.clock d+p.length+2*p.bound)}).th n=some t:=by
       unfold dJ
       dsimp only
       rw[if_neg nt]
       exact ht
      obtain⟨dxt,τ,et,S,r,_,hk⟩:=Y'.at ht'
      obtain⟨dxy,ey⟩:=id Y'.yo
      rw[hta] at et S
      walk_at "wp et ey"
      refine⟨y,G',p,_,d,rfl,Y',hd,?_⟩
      walk_at "wp ey T.cl T.n1 T.n2"
      refine⟨_,_,τ,_,_,_,rfl,S,fun H3 S3 kp=>?_⟩
      rw[<-hta] at S3 kp
      obtain⟨Y3,f3⟩:=Y'.setT (n:=n) (t':={t with quiet:=some (s'.clock d+p.length+2*p.bound)}) ht' kp (Or.inl rfl) S3 ⟨r.k,r.v,r.n,rfl,r.w,r.l⟩ rfl
      try walk_at "wp"
      refine⟨_,?_,f'.trans f3,hta,hnm⟩
      rw[List.take_add_one,en]
      rw[oB (g:=fun t=>{t with quiet:=some (s'.clock d+p.length+2*p.bound)}) nt ht] at Y3
      exact Y3
    ·rintro σ H' ⟨G',x3,rfl,Y',f',hta,hnm⟩
     rw[List.length_map,List.take_length] at Y'
     walk_at "wp"
     refine q.2 rfl _ _ _ ?_ (f1.trans ((Fw.same s2).trans f')) (.bl _)
     have:=pS (s:={s' with up:=set1 s'.up d true}) Y2 d (fun t=>{t with quiet:=some (s'.clock d+p.length+2*p.bound)}) rfl
     have e9:tz p s' d=dJ {s' with up:=set1 s'.up d true} (eE G {s' with up:=set1 s'.up d true} d) fun t=>{t with quiet:=some (s'.clock d+p.length+2*p.bound)}:=by
      unfold tz
      unfold dJ at this ⊢
      dsimp only at this ⊢
      rw[this]
     show Yd c H' y G' p (tz p s' d)
     rw[e9]
     exact Y'
  ·have es:step p s' (.wake d)=(.noDesk,s'):=by simp only[Fb.Y.step,hd,Bool.false_eq_true, ↓reduceIte]
   rw[es] at q
   exact q.1 _ rfl
def be:Deed Str->PyData
 | .pass m=> .tuple [.str "pass",.int m]
 | .shift d o=> .tuple [.str "shift",.int d,.int o]
 | .read d n=> .tuple [.str "read",.int d,.str n]
 | .change d n v=> .tuple [.str "change",.int d,.str n,.int v]
 | .tries n=> .tuple [.str "try",.str n]
 | .back d n=> .tuple [.str "back",.int d,.str n]
 | .stop d=> .tuple [.str "stop",.int d]
 | .wake d=> .tuple [.str "wake",.int d]
def zg(c:Cs):Sp:=fun vs H Q E=>∃(y:Addr) (G:Gh) (p:Pl) (s:S Str) (δ:Deed Str) (v:V),vs=[.ref y,v]/\Yd c H y G p s/\Down s/\Dh H v (be δ)/\eM c H y G p (step p s δ) Q E
theorem nY:FnScope ["yard","deed","kind"] ["yard","deed"] (defScope (top 26)):=by walk_at "s"
theorem C5{H:Hp}{a:Addr}{x0 x1 x2 x:V}{r:List V}{Q:VK}(h:H a=some (.tup (x0::x1::x2::x::r)))(q:Q x H):eF K (.ref a) (.int 3) H Q:=ge (SqT.of h) (show atI _ ((3:Nat):Int)=_ from bP rfl) q
theorem zt:(("shift":Str)="pass")=False:=eq_false (by decide+kernel)
theorem zQ:(("read":Str)="pass")=False:=eq_false (by decide+kernel)
theorem zr:(("read":Str)="shift")=False:=eq_false (by decide+kernel)
theorem xG:(("change":Str)="pass")=False:=eq_false (by decide+kernel)
theorem wX:(("change":Str)="shift")=False:=eq_false (by decide+kernel)
theorem xH:(("change":Str)="read")=False:=eq_false (by decide+kernel)
theorem A7:(("try":Str)="pass")=False:=eq_false (by decide+kernel)
theorem zU:(("try":Str)="shift")=False:=eq_false (by decide+kernel)
theorem A8:(("try":Str)="read")=False:=eq_false (by decide+kernel)
theorem zv:(("try":Str)="change")=False:=eq_false (by decide+kernel)
theorem zO:(("back":Str)="pass")=False:=eq_false (by decide+kernel)
theorem zq:(("back":Str)="shift")=False:=eq_false (by decide+kernel)
theorem zP:(("back":Str)="read")=False:=eq_false (by decide+kernel)
theorem xF:(("back":Str)="change")=False:=eq_false (by decide+kernel)
theorem A5:(("back":Str)="try")=False:=eq_false (by decide+kernel)
theorem zS:(("stop":Str)="pass")=False:=eq_false (by decide+kernel)
theorem zu:(("stop":Str)="shift")=False:=eq_false (by decide+kernel)
theorem zT:(("stop":Str)="read")=False:=eq_false (by decide+kernel)
theorem xI:(("stop":Str)="change")=False:=eq_false (by decide+kernel)
theorem A6:(("stop":Str)="try")=False:=eq_false (by decide+kernel)
theorem zR:(("stop":Str)="back")=False:=eq_false (by decide+kernel)
theorem zW:(("wake":Str)="pass")=False:=eq_false (by decide+kernel)
theorem zw:(("wake":Str)="shift")=False:=eq_false (by decide+kernel)
theorem zX:(("wake":Str)="read")=False:=eq_false (by decide+kernel)
theorem xJ:(("wake":Str)="change")=False:=eq_false (by decide+kernel)
theorem A9:(("wake":Str)="try")=False:=eq_false (by decide+kernel)
theorem zV:(("wake":Str)="back")=False:=eq_false (by decide+kernel)
theorem zY:(("wake":Str)="stop")=False:=eq_false (by decide+kernel)
theorem CJ{f:Addr}{fd:FuncData}(T:TxtY K c.Y)(dN:MDef P w K mg base c.Y "pass_time" 1 ["self","many"] (rT c))(cR:MDef1 P w K mg base c.Y "shift_clock" 2 ["self","number","offset"] (ot c))(dg:MDef1 P w K mg base c.Y "read_thing" 4 ["self","number","name"] (rV c))
  (df:MDef1 P w K mg base c.Y "ask_change" 3 ["self","number","name","value"] (lg c))(dj:MDef1 P w K mg base c.Y "try_change" 3 ["self","name"] (ou c))(dL:MDef1 P w K mg base c.Y "give_back" 3 ["self","number","name"] (rM c))
  (dP:MDef1 P w K mg base c.Y "stop_desk" 2 ["self","number"] (rX c))(dQ:MDef1 P w K mg base c.Y "wake_desk" 3 ["self","number"] (rY c))(F:Fun K "do_deed" "do_deed" (top 26) f fd):FnOk P w K mg base (CX1 P w) 5 f fd ["yard","deed"] (zg c):=by
 refine F.ok1 nY (fun vs H Q E h=>?_) (fun cdv A outer s H vs Q E hr h=>?_)
 ·obtain⟨y,G,p,s,δ,v,rfl,_⟩:=h
  rfl
 ·obtain⟨y,G,p,s',δ,v,rfl,Y,dw,hv,q⟩:=h
  obtain⟨dx,e⟩:=id Y.yo
  refine⟨_,(ac (aG (i:=2) nY.nd rfl (Or.inl rfl) (ax aA (pv 1) ae (fun _ _=>rfl))) (ac (aH (aB bA (pv 2) al (aE _)) (ah (ar (bV (pv 0) dN (hr.mono (by omega)) (aa (ax aA (pv 1) ae (fun _ _=>rfl)) af)))) av) (ac (aH (aB bA (pv 2) al (aE _)) (ah (ar (bq (pv 0) cR dA (hr.mono (by omega)) (aa (ax aA (pv 1) ae (fun _ _=>rfl)) (aa (ax aA (pv 1) ae (fun _ _=>rfl)) af))))) av) (ac (aH (aB bA (pv 2) al (aE _)) (ah (ar (bq (pv 0) dg dA (hr.mono (by omega)) (aa (ax aA (pv 1) ae (fun _ _=>rfl)) (aa (ax aA (pv 1) ae (fun _ _=>rfl)) af))))) av) (ac (aH (aB bA (pv 2) al (aE _)) (ah (ar (bq (pv 0) df dA (hr.mono (by omega)) (aa (ax aA (pv 1) ae (fun _ _=>rfl)) (aa (ax aA (pv 1) ae (fun _ _=>rfl)) (aa (ax aA (pv 1) ae (fun _ _=>rfl)) af)))))) av) (ac (aH (aB bA (pv 2) al (aE _)) (ah (ar (bq (pv 0) dj dA (hr.mono (by omega)) (aa (ax aA (pv 1) ae (fun _ _=>rfl)) af)))) av) (ac (aH (aB bA (pv 2) al (aE _)) (ah (ar (bq (pv 0) dL dA (hr.mono (by omega)) (aa (ax aA (pv 1) ae (fun _ _=>rfl)) (aa (ax aA (pv 1) ae (fun _ _=>rfl)) af))))) av) (ac (aH (aB bA (pv 2) al (aE _)) (ah (ar (bq (pv 0) dP dA (hr.mono (by omega)) (aa (ax aA (pv 1) ae (fun _ _=>rfl)) af)))) av) (ah (ar (bq (pv 0) dQ dA (hr.mono (by omega)) (aa (ax aA (pv 1) ae (fun _ _=>rfl)) af)))))))))))),?_⟩
  walk_at "wp"
  cases δ with
  |pass m=>
   obtain⟨a,rfl,ha⟩:=bp hv rfl
   refine gl ha ?_
   walk_at "wp scV e"
   refine qC ha ?_
   exact⟨y,G,p,s',m,rfl,Y,fun e he=>by(cases he),q.2⟩
  |shift d o=>
   obtain⟨a,rfl,ha⟩:=bp hv rfl
   refine gl ha ?_
   walk_at "wp scV e zt"
   refine qC ha ?_
   refine xB ha ?_
   exact⟨y,G,p,s',d,o,rfl,Y,q⟩
  |read d n=>
   obtain⟨a,rfl,ha⟩:=bp hv rfl
   refine gl ha ?_
   walk_at "wp scV e zQ zr"
   refine qC ha ?_
   refine xB ha ?_
   exact⟨y,G,p,s',d,n,rfl,Y,q⟩
  |change d n u=>
   obtain⟨a,rfl,ha⟩:=bp hv rfl
   refine gl ha ?_
   walk_at "wp scV e xG wX xH"
   refine qC ha ?_
   refine xB ha ?_
   refine C5 ha ?_
   exact⟨y,G,p,s',d,n,u,rfl,Y,q⟩
  |tries n=>
   obtain⟨a,rfl,ha⟩:=bp hv rfl
   refine gl ha ?_
   walk_at "wp scV e A7 zU A8 zv"
   refine qC ha ?_
   exact⟨y,G,p,s',n,rfl,Y,q⟩
  |back d n=>
   obtain⟨a,rfl,ha⟩:=bp hv rfl
   refine gl ha ?_
   walk_at "wp scV e zO zq zP xF A5"
   refine qC ha ?_
   refine xB ha ?_
   exact⟨y,G,p,s',d,n,rfl,Y,dw,q⟩
  |stop d=>
   obtain⟨a,rfl,ha⟩:=bp hv rfl
   refine gl ha ?_
   walk_at "wp scV e zS zu zT xI A6 zR"
   refine qC ha ?_
   exact⟨y,G,p,s',d,rfl,Y,q⟩
  |wake d=>
   obtain⟨a,rfl,ha⟩:=bp hv rfl
   refine gl ha ?_
   walk_at "wp scV e zW zw zX xJ A9 zV zY"
   refine qC ha ?_
   exact⟨y,G,p,s',d,rfl,Y,q⟩
structure Ers (K:PySem.W.Frag) (mg:Str->Option Value) (c:Cs):Prop where
 nd:Er K mg "NoDesk" (c.er .noDesk)
 nt:Er K mg "NoThing" (c.er .noThing)
 st:Er K mg "Stopped" (c.er .stopped)
 nc:Er K mg "NoClock" (c.er .noClock)
 na:Er K mg "NoAnswer" (c.er .noAnswer)
 x11:PySem.W.exmOne K (.ref (c.er .noDesk)) (.ref (c.er .noDesk))=some true
 x21:PySem.W.exmOne K (.ref (c.er .noThing)) (.ref (c.er .noDesk))=some false
 x22:PySem.W.exmOne K (.ref (c.er .noThing)) (.ref (c.er .noThing))=some true
 x31:PySem.W.exmOne K (.ref (c.er .stopped)) (.ref (c.er .noDesk))=some false
 x32:PySem.W.exmOne K (.ref (c.er .stopped)) (.ref (c.er .noThing))=some false
 x33:PySem.W.exmOne K (.ref (c.er .stopped)) (.ref (c.er .stopped))=some true
 x41:PySem.W.exmOne K (.ref (c.er .noClock)) (.ref (c.er .noDesk))=some false
 x42:PySem.W.exmOne K (.ref (c.er .noClock)) (.ref (c.er .noThing))=some false
 x43:PySem.W.exmOne K (.ref (c.er .noClock)) (.ref (c.er .stopped))=some false
 x44:PySem.W.exmOne K (.ref (c.er .noClock)) (.ref (c.er .noClock))=some true
 x51:PySem.W.exmOne K (.ref (c.er .noAnswer)) (.ref (c.er .noDesk))=some false
 x52:PySem.W.exmOne K (.ref (c.er .noAnswer)) (.ref (c.er .noThing))=some false
 x53:PySem.W.exmOne K (.ref (c.er .noAnswer)) (.ref (c.er .stopped))=some false
 x54:PySem.W.exmOne K (.ref (c.er .noAnswer)) (.ref (c.er .noClock))=some false
 x55:PySem.W.exmOne K (.ref (c.er .noAnswer)) (.ref (c.er .noAnswer))=some true
def iY(c:Cs):Sp:=fun vs H Q E=>∃(y:Addr) (G:Gh) (p:Pl) (s:S Str) (δ:Deed Str) (v:V),vs=[.ref y,v]/\Yd c H y G p s/\Down s/\Dh H v (be δ)/\∀v G' H',Yd c H' y G' p (step p s δ).2->Fw y p H G H' G'->Dh H' v (anD (step p s δ).1)->Q v H'
theorem rJ:FnScope ["yard","deed"] ["yard","deed"] (defScope (top 25)):=by walk_at "s"
theorem ww{f:Addr}{fd:FuncData}(X:Ers K mg c)(kz:Def1 P w K mg base "do_deed" 5 ["yard","deed"] (zg c))(F:Fun K "answer_to" "answer_to" (top 25) f fd):FnOk P w K mg base CX0 6 f fd ["yard","deed"] (iY c):=by
 refine F.ok rJ (fun vs H Q E h=>?_) (fun cdv A outer s H vs Q E hr h=>?_)
 ·obtain⟨y,G,p,s,δ,v,rfl,_⟩:=h
  rfl
 ·obtain⟨y,G,p,s',δ,v,rfl,Y,dw,hv,q⟩:=h
  refine⟨_,(ah (BW rfl rfl (fun pins XE=>(ah (ar (AC kz CM (hr.mono (by omega)) rfl (aa (pv 0) (aa (pv 1) af)))))))),?_⟩
  walk_at "wp Dg"
  refine⟨y,G,p,s',δ,v,rfl,Y,dw,hv,fun e he=>?_,fun he v G' H' Y' f' hv'=>q v G' H' Y' f' hv'⟩
  have q:=q (scV (anD (step p s' δ).1)) G H (by rw[wZ he];exact Y) Fw.refl
  generalize (step p s' δ).1=an at he q
  cases e with
  |noDesk=>
   cases an<;>cases he
   exact⟨_,nL rfl X.nd.mg X.x11 fun x E=>ah (ar al),fun σ'=>q (.str _)⟩
  |noThing=>
   cases an<;>cases he
   exact⟨_,eo rfl X.nd.mg X.x21 (nL rfl X.nt.mg X.x22 fun x E=>ah (ar al)),fun σ'=>q (.str _)⟩
  |stopped=>
   cases an<;>cases he
   exact⟨_,eo rfl X.nd.mg X.x31 (eo rfl X.nt.mg X.x32 (nL rfl X.st.mg X.x33 fun x E=>ah (ar al))),fun σ'=>q (.str _)⟩
  |noClock=>
   cases an<;>cases he
   exact⟨_,eo rfl X.nd.mg X.x41 (eo rfl X.nt.mg X.x42 (eo rfl X.st.mg X.x43 (nL rfl X.nc.mg X.x44 fun x E=>ah (ar al)))),fun σ'=>q (.str _)⟩
  |noAnswer=>
   cases an<;>cases he
   exact⟨_,eo rfl X.nd.mg X.x51 (eo rfl X.nt.mg X.x52 (eo rfl X.st.mg X.x53 (eo rfl X.nc.mg X.x54 (nL rfl X.na.mg X.x55 fun x E=>ah (ar al))))),fun σ'=>q (.str _)⟩
end
section
variable {P : Program} {w : World} {K : PySem.W.Frag} {mg : Str → Option Value} {base : Heap} {C : Addr}
open Y
variable {c : Cs}
def mj(H:Hp)(a:Addr)(p:Y.Pl):Prop:=H a=some (.tup [.int (p.count:Int),.int p.length,.int p.bound])
def thD(e:Str×Int×Int):PyData:= .tuple [.str e.1,.int e.2.1,.int e.2.2]
structure Told (p:Pl) (l:List (Str×Int×Int)):Prop where
 nd:(l.map (·.1)).Nodup
 hk:∀e∈l,isDesk p e.2.1=true
 sm:p.count<=500/\l.length<=500
def kl(c:Cs):Sp:=fun vs H Q _=>∃(y dx a b:Addr) (p:Pl) (l:List (Str×Int×Int)),vs=[.ref y,.ref a,.ref b]/\H y=some (.ins c.Y dx [])/\mj H a p/\Dh H (.ref b) (.list (l.map thD))/\Told p l/\
 ∀G H',Yd c H' y G p (begin_ (look l))->(∀b o,H b=some o->b≠y->H' b=some o)->(∀b,Own y G p b->b=y∨H b=none)->H G.ld=none->Q .non H'
theorem cH:FnScope ["self","plan","told","name","keeper","value"] ["self","plan","told"] (defScope (inClass (top 18) 0)):=by walk_at "s"
structure DsI (c:Cs) (H1:Hp) (D:Addr) (i:Nat) (H':Hp) (dl:List (Addr×Addr)):Prop where
 ln:dl.length=i
 li:H' D=some (.lst (dl.map fun e=> .ref e.1))
 at_:∀e,e∈dl->∃dx,H' e.1=some (.ins c.D dx (flD (.int 0) (.bl false) (.ref e.2)))/\H' e.2=some (.dK [])
 d1:(dl.map (·.1)).Nodup
 d2:(dl.map (·.2)).Nodup
 new:∀e,e∈dl->H1 e.1=none/\H1 e.2=none
 kp:∀b o,H1 b=some o->H' b=some o
theorem gW{α:Type}{l:List α}{a:α}(h:l.Nodup)(ha:a∉l):(l++ [a]).Nodup:=by
 rw[List.nodup_append]
 refine⟨h,by simp,fun x hx y hy e=>ha ?_⟩
 have:y=a:=by simpa using hy
 rw[<-this,<-e]
 exact hx
theorem DsI.more{c:Cs}{H1 H' H3:Hp}{D x dx d:Addr}{i:Nat}{dl:List (Addr×Addr)}(h:DsI c H1 D i H' dl)(hD0:H1 D=none)(hx:H' x=none)(hd:H' d=none)(hxd:x≠d)(kp:∀b o,H' b=some o->H3 b=some o)(e1:H3 x=some (.ins c.D dx (flD (.int 0) (.bl false) (.ref d))))(e2:H3 d=some (.dK [])):
  DsI c H1 D (i+1) (upd H3 D (.lst (dl.map (fun e=>V.ref e.1)++ [.ref x]))) (dl++ [(x,d)]):=by
 have hD:=h.li
 have nx:x≠D:=fun z=>by rw[z,hD] at hx;cases hx
 have nd:d≠D:=fun z=>by rw[z,hD] at hd;cases hd
 have n1:∀b,H' b=none->H1 b=none:=fun b n=>by
  cases e:H1 b with
  |none=>rfl
  |some o=>rw[h.kp b o e] at n;cases n
 refine⟨by simp[h.ln],by rw[upd_same,List.map_append];rfl,fun e he=>?_,?_,?_,fun e he=>?_,fun b o e=>?_⟩
 ·rcases List.mem_append.mp he with z |z
  ·obtain⟨dx',q1,q2⟩:=h.at_ e z
   refine⟨dx',?_,?_⟩
   ·rw[aj (cu q1 hD (by intro z;cases z))];exact kp _ _ q1
   ·rw[aj (cu q2 hD (by intro z;cases z))];exact kp _ _ q2
  ·have z:e=(x,d):=by simpa using z
   subst z
   exact⟨dx,by rw[aj nx];exact e1,by rw[aj nd];exact e2⟩
 ·rw[List.map_append]
  refine gW h.d1 fun hm=>?_
  obtain⟨e,he,z⟩:=List.mem_map.mp hm
  obtain⟨dx',q1,_⟩:=h.at_ e he
  have z:e.1=x:=z
  rw[z,hx] at q1;cases q1
 ·rw[List.map_append]
  refine gW h.d2 fun hm=>?_
  obtain⟨e,he,z⟩:=List.mem_map.mp hm
  obtain⟨dx',_,q2⟩:=h.at_ e he
  have z:e.2=d:=z
  rw[z,hd] at q2;cases q2
 ·rcases List.mem_append.mp he with z |z
  ·exact h.new e z
  ·have z:e=(x,d):=by simpa using z
   subst z
   exact⟨n1 _ hx,n1 _ hd⟩
 ·rw[aj (aq e hD0)]
  exact kp b o (h.kp b o e)
structure TsI (c:Cs) (H2:Hp) (dt:Addr) (l:List (Str×Int×Int)) (H':Hp) (tl:List (Str×Addr×Addr)):Prop where
 nm:tl.map (·.1)=l.map (·.1)
 di:H' dt=some (.dK (tl.map fun e=>((Sum.inr e.1:Key),.ref e.2.1)))
 th:∀(i:Nat) (e:Str×Addr×Addr) (t:Str×Int×Int),tl[i]?=some e->l[i]?=some t->ThAt c.T H' e.2.1 e.2.2 ⟨t.2.1,t.2.2,0,[],none,none⟩
 t1:(tl.map (·.2.1)).Nodup
 t2:(tl.map (·.2.2)).Nodup
 new:∀e,e∈tl->H2 e.2.1=none/\H2 e.2.2=none
 kp:∀b o,H2 b=some o->b≠dt->H' b=some o
theorem TsI.len{c:Cs}{H2 H':Hp}{dt:Addr}{l:List (Str×Int×Int)}{tl:List (Str×Addr×Addr)}(h:TsI c H2 dt l H' tl):tl.length=l.length:=by
 have:=congrArg List.length h.nm
 simpa using this
theorem TsI.all{c:Cs}{H2 H':Hp}{dt:Addr}{l:List (Str×Int×Int)}{tl:List (Str×Addr×Addr)}(h:TsI c H2 dt l H' tl){e:Str×Addr×Addr}(he:e∈tl):∃t,ThAt c.T H' e.2.1 e.2.2 t:=by
 obtain⟨i,hi,ei⟩:=List.mem_iff_getElem.mp he
 have hi':i<l.length:=by rw[<-h.len];exact hi
 exact⟨_,h.th i e l[i] (by rw[List.getElem?_eq_getElem hi,ei]) (List.getElem?_eq_getElem hi')⟩
theorem uT{tl:List (Str×Addr×Addr)}{n:Str}(h:n∉tl.map (·.1)):valV (tl.map fun e=>((Sum.inr e.1:Key),V.ref e.2.1)) (Sum.inr n)=none:=by
 induction tl with
 |nil=>rfl
 |cons e r ih=>
  rw[List.map_cons,bD]
  ·exact ih fun z=>h (by rw[List.map_cons];exact List.mem_cons_of_mem _ z)
  ·intro z
   exact h (by rw[List.map_cons,<-Sum.inr.inj z];exact List.mem_cons_self)
theorem TsI.more{c:Cs}{H2 H' H3:Hp}{dt x d:Addr}{l:List (Str×Int×Int)}{tl:List (Str×Addr×Addr)}{t:Str×Int×Int}(h:TsI c H2 dt l H' tl)(hdt:∃o,H2 dt=some o)(hn:t.1∉l.map (·.1))(hx:H' x=none)(hd:H' d=none)(kp:∀b o,H' b=some o->H3 b=some o)(S:ThAt c.T H3 x d ⟨t.2.1,t.2.2,0,[],none,none⟩):
  TsI c H2 dt (l++ [t]) (upd H3 dt (.dK (putK (tl.map fun e=>((Sum.inr e.1:Key),.ref e.2.1)) (Sum.inr t.1) (.ref x)))) (tl++ [(t.1,x,d)]):=by
 have hdt':=h.di
 have nx:x≠dt:=fun z=>by rw[z,hdt'] at hx;cases hx
 have nd:d≠dt:=fun z=>by rw[z,hdt'] at hd;cases hd
 have n1:∀b,b≠dt->H' b=none->H2 b=none:=fun b nb n=>by
  cases e:H2 b with
  |none=>rfl
  |some o=>rw[h.kp b o e nb] at n;cases n
 have hln:=h.len
 refine⟨by rw[List.map_append,List.map_append,h.nm];rfl,?_,fun i e u h1 h2=>?_,?_,?_,fun e he=>?_,fun b o e nb=>?_⟩
 ·rw[upd_same,sT _ (uT (by rw[h.nm];exact hn)),List.map_append];rfl
 ·by_cases hi:i<tl.length
  ·rw[List.getElem?_append_left hi] at h1
   rw[List.getElem?_append_left (by omega)] at h2
   obtain⟨⟨dx,a1⟩,a2⟩:=h.th i e u h1 h2
   refine⟨⟨dx,?_⟩,?_⟩
   ·rw[aj (cu a1 hdt' (by intro z;cases z))];exact kp _ _ a1
   ·have ne:e.2.2≠dt:=fun z=>by
     obtain⟨o,ho⟩:=hdt
     have:=(h.new e (List.mem_of_getElem? h1)).2
     rw[z,ho] at this;cases this
    rw[aj ne];exact kp _ _ a2
  ·have hi2:i=tl.length:=by
    have:=(List.getElem?_eq_some_iff.mp h1).1
    simp at this
    omega
   rw[hi2,List.getElem?_append_right (Nat.le_refl _),Nat.sub_self] at h1
   rw[hi2,hln,List.getElem?_append_right (Nat.le_refl _),Nat.sub_self] at h2
   have h1:(t.1,x,d)=e:=by simpa using h1
   have h2:t=u:=by simpa using h2
   subst h1 h2
   obtain⟨⟨dx,a1⟩,a2⟩:=S
   exact⟨⟨dx,by rw[aj nx];exact a1⟩,by rw[aj nd];exact a2⟩
 ·rw[List.map_append]
  refine gW h.t1 fun hm=>?_
  obtain⟨e,he,z⟩:=List.mem_map.mp hm
  obtain⟨u,⟨dx',q1⟩,_⟩:=h.all he
  have z:e.2.1=x:=z
  rw[z,hx] at q1;cases q1
 ·rw[List.map_append]
  refine gW h.t2 fun hm=>?_
  obtain⟨e,he,z⟩:=List.mem_map.mp hm
  obtain⟨u,_,q2⟩:=h.all he
  have z:e.2.2=d:=z
  rw[z,hd] at q2;cases q2
 ·rcases List.mem_append.mp he with z |z
  ·exact h.new e z
  ·have z:e=(t.1,x,d):=by simpa using z
   subst z
   exact⟨n1 _ nx hx,n1 _ nd hd⟩
 ·rw[aj nb]
  exact kp b o (h.kp b o e nb)
theorem yq{f:Addr}{fd:FuncData}(T:TxtY K c.Y)(cO:mg "range"=none)(tM:CDef P w K mg base "Desk" c.D 1 ["self"] (ol c.D))(qq:CDef P w K mg base "Thing" c.T 1 ["self","keeper","value"] (rP c.T))
  (F:Fun K "__init__" "Yard.__init__" (inClass (top 18) 0) f fd):FnOk P w K mg base CX0 3 f fd ["self","plan","told"] (kl c):=by
 refine F.ok cH (fun vs H Q E h=>?_) (fun cdv A outer s H vs Q E hr h=>?_)
 ·obtain⟨y,dx,a,b,p,l,rfl,_⟩:=h
  rfl
 ·obtain⟨y,dx,a,b,p,l,rfl,hy,hpl,hb,told,q⟩:=h
  have hu:=cx hr
  have nay:a≠y:=cu hpl hy (by intro z;cases z)
  obtain⟨bs,hbs,hbd⟩:∃bs,H b=some (.lst bs)/\Dhs H bs (l.map thD):=by cases hb with |lst h1 h2=>exact⟨_,h1,h2⟩
  have nby:b≠y:=cu hbs hy (by intro z;cases z)
  refine⟨_,(ac (bj (pv 0) (ax aA (pv 1) ae (fun _ _=>rfl)) rfl) (ac (bj (pv 0) (ax aA (pv 1) ae (fun _ _=>rfl)) rfl) (ac (bj (pv 0) ae rfl) (ac (bj (pv 0) (jf (own:=["number"]) rfl (LcScope.of (by kernel_rfl)) (fA rfl cO (aa (ax aA (pv 1) ae (fun _ _=>rfl)) af)) (fun cl C s H fp=>⟨(aV (i:=6) (show List.Nodup (α:=Str) ["self","plan","told","name","keeper","value","number"] by decide+kernel) rfl (Or.inl rfl)),fe,(AB tM (hr.mono (by omega)) rfl)⟩)) rfl) (ac (bj (pv 0) ck rfl) (ah (cG PassesOwn.never rfl (bW (pv 2)) (yK rfl (gF (aV (i:=3) cH.nd rfl (Or.inl rfl)) (gF (aV (i:=4) cH.nd rfl (Or.inl rfl)) (gF (aV (i:=5) cH.nd rfl (Or.inl rfl)) vF)))) (ah (bB hu (aF (pv 0) rfl) (pv 3) (rg qq (hr.mono (by omega)) rfl (aa (pv 4) (aa (pv 5) af))) rfl))))))))),?_⟩
  walk_at "wp"
  refine qC hpl ?_
  walk_at "wp hy T.cl T.n1"
  refine⟨by decide,?_⟩
  refine xB (by rw[aj nay];exact hpl) ?_
  walk_at "wp T.cl T.n2 T.n3"
  refine⟨(by show 1<1000;decide),(by show 2<1000;decide),?_⟩
  refine gl (by rw[aj nay];exact hpl) ?_
  walk_at "wp"
  refine⟨by omega,by have:=told.sm.1;omega,?_⟩
  have h1y:upd H y (.ins c.Y dx (aK "true_time" (V.int 0) (aK "bound" (V.int p.bound) (aK "length" (V.int p.length) [])))) y=some (.ins c.Y dx (aK "true_time" (V.int 0) (aK "bound" (V.int p.bound) (aK "length" (V.int p.length) [])))):=upd_same
  have k1:∀b o,H b=some o->b≠y->upd H y (.ins c.Y dx (aK "true_time" (V.int 0) (aK "bound" (V.int p.bound) (aK "length" (V.int p.length) [])))) b=some o:=fun b o e n=>by rw[aj n];exact e
  have n1:∀b,upd H y (.ins c.Y dx (aK "true_time" (V.int 0) (aK "bound" (V.int p.bound) (aK "length" (V.int p.length) [])))) b=none->H b=none:=fun b e=>by
   by_cases z:b=y
   ·rw[z,upd_same] at e;cases e
   ·rw[aj z] at e;exact e
  generalize upd H y (.ins c.Y dx (aK "true_time" (V.int 0) (aK "bound" (V.int p.bound) (aK "length" (V.int p.length) []))))=H1 at h1y k1 n1 ⊢
  rw[Int.toNat_natCast]
  intro D hD
  refine kL (xs:=nQ 0 p.count) (fun i H'=>∃dl,DsI c H1 D i H' dl) ?_ ?_ ?_ ?_
  ·exact⟨[],rfl,upd_same,fun e he=>(nomatch he),List.nodup_nil,List.nodup_nil,fun e he=>(nomatch he),fun b o e=>by rw[aj (aq e hD)];exact e⟩
  ·rintro i H' _ _
   exact aR.range
  ·rintro i x H' hx ⟨dl,hd⟩
   refine⟨fun j v h=>gB (σ:=[some (V.ref y),some (V.ref a),some (V.ref b),none,none,none]) h,?_⟩
   walk_at "wp"
   intro z dz hz hdz nz
   have s2:∀b o,H' b=some o->upd (upd H' dz (.own z)) z (.ins c.D dz []) b=some o:=fun b o e=>by rw[aj (aq e hz),aj (aq e hdz)];exact e
   refine⟨z,dz,rfl,upd_same,fun d H3 hd3 e1 e2 k3=>⟨rfl,?_⟩⟩
   have k4:∀b o,H' b=some o->H3 b=some o:=fun b o e=>k3 b o (s2 b o e) (aq e hz)
   have hd4:H' d=none:=by
    cases e:H' d with
    |none=>rfl
    |some o=>rw[s2 d o e] at hd3;cases hd3
   have nzd:z≠d:=cu e1 e2 (by intro z;cases z)
   refine⟨_,k4 _ _ hd.li,?_,dl++ [(z,d)],hd.more hD hz hd4 nzd k4 e1 e2⟩
   rw[List.length_map,hd.ln]
   have:=(gZ hx).1
   have:=told.sm.1
   exact bu (by omega)
  ·rintro H' ⟨dl,hd⟩
   rw[iJ] at hd
   have h2y:=hd.kp _ _ h1y
   walk_at "wp h2y T.cl T.n4"
   refine⟨(by show 3<1000;decide),fun dt hdt=>?_⟩
   have nyt:y≠dt:=fun z=>by rw[<-z,upd_same] at hdt;cases hdt
   have hdt0:H' dt=none:=by rw[aj nyt.symm] at hdt;exact hdt
   walk_at "wp aj:nyt T.cl T.n5"
   refine⟨(by show 4<1000;decide),?_⟩
   have h3y:(upd (upd (upd H' y (.ins c.Y dx (aK "desks" (V.ref D) (aK "true_time" (V.int 0) (aK "bound" (V.int p.bound) (aK "length" (V.int p.length) [])))))) dt (.dK [])) y (.ins c.Y dx (aK "things" (V.ref dt) (aK "desks" (V.ref D) (aK "true_time" (V.int 0) (aK "bound" (V.int p.bound) (aK "length" (V.int p.length) []))))))) y=some (.ins c.Y dx (flY (.int p.length) (.int p.bound) (.int 0) (.ref D) (.ref dt))):=by rw[upd_same,zK]
   have h3t:(upd (upd (upd H' y (.ins c.Y dx (aK "desks" (V.ref D) (aK "true_time" (V.int 0) (aK "bound" (V.int p.bound) (aK "length" (V.int p.length) [])))))) dt (.dK [])) y (.ins c.Y dx (aK "things" (V.ref dt) (aK "desks" (V.ref D) (aK "true_time" (V.int 0) (aK "bound" (V.int p.bound) (aK "length" (V.int p.length) []))))))) dt=some (.dK []):=by rw[aj nyt.symm,upd_same]
   have k3:∀b o,H' b=some o->b≠y->(upd (upd (upd H' y (.ins c.Y dx (aK "desks" (V.ref D) (aK "true_time" (V.int 0) (aK "bound" (V.int p.bound) (aK "length" (V.int p.length) [])))))) dt (.dK [])) y (.ins c.Y dx (aK "things" (V.ref dt) (aK "desks" (V.ref D) (aK "true_time" (V.int 0) (aK "bound" (V.int p.bound) (aK "length" (V.int p.length) []))))))) b=some o:=fun b o e n=>by rw[aj n,aj (aq e hdt0),aj n];exact e
   have n3:∀b,(upd (upd (upd H' y (.ins c.Y dx (aK "desks" (V.ref D) (aK "true_time" (V.int 0) (aK "bound" (V.int p.bound) (aK "length" (V.int p.length) [])))))) dt (.dK [])) y (.ins c.Y dx (aK "things" (V.ref dt) (aK "desks" (V.ref D) (aK "true_time" (V.int 0) (aK "bound" (V.int p.bound) (aK "length" (V.int p.length) []))))))) b=none->H' b=none:=fun b e=>by
    by_cases z:b=y
    ·rw[z,upd_same] at e;cases e
    ·rw[aj z] at e
     by_cases z2:b=dt
     ·rw[z2];exact hdt0
     ·rw[aj z2,aj z] at e;exact e
   generalize (upd (upd (upd H' y (.ins c.Y dx (aK "desks" (V.ref D) (aK "true_time" (V.int 0) (aK "bound" (V.int p.bound) (aK "length" (V.int p.length) [])))))) dt (.dK [])) y (.ins c.Y dx (aK "things" (V.ref dt) (aK "desks" (V.ref D) (aK "true_time" (V.int 0) (aK "bound" (V.int p.bound) (aK "length" (V.int p.length) [])))))))=H2 at h3y h3t k3 n3 ⊢
   have kH:∀b o,H b=some o->b≠y->H2 b=some o:=fun b o e n=>k3 b o (hd.kp b o (k1 b o e n)) n
   have nH:∀b,H2 b=none->H b=none:=fun b e=>n1 b (by
    cases z:H1 b with
    |none=>rfl
    |some o=>have:=hd.kp b o z;rw[n3 b e] at this;cases this)
   have hHdt:H dt=none:=n1 dt (by
    cases z:H1 dt with
    |none=>rfl
    |some o=>have:=hd.kp dt o z;rw[hdt0] at this;cases this)
   have hbs2:=kH _ _ hbs nby
   have nbt:b≠dt:=fun z=>by rw[z,hHdt] at hbs;cases hbs
   refine⟨⟨_,SqL.of hbs2⟩,?_⟩
   have hln:bs.length=l.length:=by rw[hbd.length,List.length_map]
   refine bR (xs:=bs) (fun i σ H4=>∃tl x3 x4 x5,σ=[some (.ref y),some (.ref a),some (.ref b),x3,x4,x5]/\TsI c H2 dt (l.take i) H4 tl) ?_ ?_ ?_ ?_
   ·exact⟨[],_,_,_,rfl,⟨rfl,h3t,fun i e t h1 _=>(by simp at h1),List.nodup_nil,List.nodup_nil,fun e he=>(nomatch he),fun b o e _=>e⟩⟩
   ·rintro i σ H4 _ ⟨tl,x3,x4,x5,_,ts⟩
    exact aR.list (SqL.of (ts.kp _ _ hbs2 nbt))
   ·rintro i v σ H4 hv ⟨tl,x3,x4,x5,rfl,ts⟩
    obtain⟨dd,g1,g2⟩:=hbd.get hv
    rw[List.getElem?_map] at g1
    cases el:l[i]? with
    |none=>rw[el] at g1;cases g1
    |some t=>
     rw[el] at g1
     obtain rfl:=Option.some.inj g1
     obtain⟨ta,rfl,hta⟩:=bp g2 rfl
     have hta4:=ts.kp _ _ (kH _ _ hta (cu hta hy (by intro z;cases z))) (fun z=>by rw[z,hHdt] at hta;cases hta)
     refine⟨ta,_,rfl,SqT.of hta4,rfl,?_⟩
     walk_at "wp scV"
     intro z dz hz hdz nz
     have s2:∀b o,H4 b=some o->upd (upd H4 dz (.own z)) z (.ins c.T dz []) b=some o:=fun b o e=>by rw[aj (aq e hz),aj (aq e hdz)];exact e
     refine⟨z,dz,_,_,rfl,upd_same,fun d H5 hd5 S5 k5=>⟨rfl,?_⟩⟩
     have k6:∀b o,H4 b=some o->H5 b=some o:=fun b o e=>k5 b o (s2 b o e) (aq e hz)
     have hd6:H4 d=none:=by
      cases e:H4 d with
      |none=>rfl
      |some o=>rw[s2 d o e] at hd5;cases hd5
     have h5y:=k6 _ _ (ts.kp _ _ h3y nyt)
     have h5t:=k6 _ _ ts.di
     walk_at "wp h5y T.cl T.n5"
     have hll:=told.sm.2
     have htl:=ts.len
     refine⟨_,lH.k (k:=(Sum.inr t.1:Key)) h5t (bu (by rw[List.length_map,htl,List.length_take];omega)),?_⟩
     have hnm:t.1∉(l.take i).map (·.1):=by
      rw[List.map_take]
      exact rZ told.nd (by rw[List.getElem?_map,el];rfl)
     have et:l.take (i+1)=l.take i++ [t]:=by rw[List.take_add_one,el];rfl
     rw[et]
     exact⟨_,ts.more ⟨_,h3t⟩ hnm hz hd6 k6 S5⟩
   ·rintro σ H4 ⟨tl,x3,x4,x5,rfl,ts⟩
    rw[hln,List.take_length] at ts
    walk_at "wp"
    have ne3:∀b o,H2 b=some o->(∀k,o≠ .dK k)->b≠dt:=fun b o e n z=>by rw[z,h3t] at e;cases e;exact n _ rfl
    have dn:∀e,e∈dl->∃dx',H2 e.1=some (.ins c.D dx' (flD (.int 0) (.bl false) (.ref e.2)))/\H2 e.2=some (.dK [])/\e.1≠dt/\e.2≠dt:=fun e he=>by
     obtain⟨dx',q1,q2⟩:=hd.at_ e he
     have w1:=(hd.new e he).1
     have w2:=(hd.new e he).2
     exact⟨dx',k3 _ _ q1 (fun z=>by rw[z,h1y] at w1;cases w1),k3 _ _ q2 (fun z=>by rw[z,h1y] at w2;cases w2),(fun z=>by rw[z,hdt0] at q1;cases q1),(fun z=>by rw[z,hdt0] at q2;cases q2)⟩
    have hli:=hd.li
    have made:Made c H4 y D dt dl tl p l:=by
     refine⟨⟨dx,ts.kp _ _ h3y nyt⟩,ts.kp _ _ (k3 _ _ hli (cu hli h2y (by intro z;cases z))) (fun z=>by rw[z,hdt0] at hli;cases hli),hd.ln,ts.di,fun e he=>?_,hd.d1,hd.d2,ts.nm,ts.th,ts.t1,ts.t2,fun e f he hf z=>?_,fun e he z=>?_,fun f hf z=>?_⟩
     ·obtain⟨dx',a1,a2,a3,a4⟩:=dn e he
      exact⟨dx',ts.kp _ _ a1 a3,ts.kp _ _ a2 a4⟩
     ·obtain⟨dx',a1,a2,a3,a4⟩:=dn e he
      have:=(ts.new f hf).2
      rw[<-z,a2] at this;cases this
     ·obtain⟨dx',a1,a2,a3,a4⟩:=dn e he
      exact a4 z.symm
     ·have:=(ts.new f hf).2
      rw[<-z,h3t] at this;cases this
    refine q (jJ D dt dl tl) H4 (made.yd told.nd told.hk told.sm) (fun b o e n=>ts.kp _ _ (kH b o e n) (fun z=>by rw[z,hHdt] at e;cases e)) (fun b hb=>?_) (n1 D hD)
    rcases made.own told.nd hb with z |⟨e,he,z⟩ |⟨f,hf,z⟩
    ·exact Or.inl z
    ·refine Or.inr (n1 b ?_)
     rcases z with z |z
     ·rw[z];exact(hd.new e he).1
     ·rw[z];exact(hd.new e he).2
    ·refine Or.inr (nH b ?_)
     rcases z with z |z
     ·rw[z];exact(ts.new f hf).1
     ·rw[z];exact(ts.new f hf).2
end
section
variable {P : Program} {w : World} {K : PySem.W.Frag} {mg : Str → Option Value} {base : Heap} {C : Addr}
open Y
variable {c : Cs}
def Ext(H0 H:Hp)(y:Addr)(G:Gh)(p:Pl):Prop:=∀b o,H0 b=some o->H b=some o/\¬Own y G p b
theorem Ext.fw{H0 H H':Hp}{y:Addr}{G G':Gh}{p:Pl}(h:Ext H0 H y G p)(f:Fw y p H G H' G'):Ext H0 H' y G' p:=fun b o e=>by
 obtain⟨h1,h2⟩:=h b o e
 refine⟨f.keep b o h1 h2,fun z=>?_⟩
 rcases f.own b z with w |w
 ·exact h2 w
 ·rw[h1] at w;cases w
theorem Ext.made{H H2:Hp}{y dx:Addr}{G:Gh}{p:Pl}{C:Addr}(hy:H y=none)(hdx:H dx=none)(kp:∀b o,upd (upd H dx (.own y)) y (.ins C dx []) b=some o->b≠y->H2 b=some o)(own:∀b,Own y G p b->b=y∨upd (upd H dx (.own y)) y (.ins C dx []) b=none):Ext H H2 y G p:=fun b o e=>by
 have ny:b≠y:=aq e hy
 have e1:upd (upd H dx (.own y)) y (.ins C dx []) b=some o:=by rw[aj ny,aj (aq e hdx)];exact e
 refine⟨kp b o e1 ny,fun z=>?_⟩
 rcases own b z with w |w
 ·exact ny w
 ·rw[e1] at w;cases w
def hR(c:Cs):Sp:=fun vs H Q _=>∃(a b d:Addr) (p:Pl) (l:List (Str×Int×Int)) (δs:List (Deed Str)),vs=[.ref a,.ref b,.ref d]/\mj H a p/\Dh H (.ref b) (.list (l.map thD))/\Dh H (.ref d) (.list (δs.map be))/\Told p l/\δs.length<=900/\
 ∀r H',Dh H' (.ref r) (.list ((run p (begin_ (look l)) δs).1.map anD))->H r=none->Same H H'->Q (.ref r) H'
theorem nX:FnScope ["plan","things","deeds","yard"] ["plan","things","deeds"] (defScope (top 21)):=by walk_at "s"
theorem mB{f:Str->Option (Int×Int)}:Down (begin_ f):=fun n t e h d=>by
 have h:true=false:=h
 cases h
theorem mC{p:Pl}:∀(δs:List (Deed Str)) {s:S Str},Down s->Down (run p s δs).2
 | [],_,h=>h
 |δ::δs,s,h=>mC δs (s:=(step p s δ).2) (wQ h)
theorem zB(a:An):noL (anD a)=true:=by cases a<;>rfl
theorem jz:∀l:List An,noLs (l.map anD)=true
 | []=>rfl
 |a::l=>by
  show(noL (anD a)&&noLs (l.map anD))=true
  rw[zB,jz l];rfl
theorem kA(δ:Deed Str):noL (be δ)=true:=by cases δ<;>rfl
theorem uk{f:Addr}{fd:FuncData}(ku:CDef P w K mg base "Yard" c.Y 3 ["self","plan","told"] (kl c))(cX:Def P w K mg base "answer_to" 6 ["yard","deed"] (iY c))
  (F:Fun K "answers" "answers" (top 21) f fd):FnOk P w K mg base CX0 7 f fd ["plan","things","deeds"] (hR c):=by
 refine F.ok nX (fun vs H Q E h=>?_) (fun cdv A outer s H vs Q E hr h=>?_)
 ·obtain⟨a,b,d,p,l,δs,rfl,_⟩:=h
  rfl
 ·obtain⟨a,b,d,p,l,δs,rfl,hpl,hb,hd,told,hlen,q⟩:=h
  refine⟨_,(ac (aG (i:=3) nX.nd rfl (Or.inr rfl) (rg ku (hr.mono (by omega)) rfl (aa (pv 0) (aa (pv 1) af)))) (ah (ar (jf (own:=["deed"]) rfl (LcScope.of (by kernel_rfl)) (bW (pv 2)) (fun cl C s H fp=>⟨(aV (i:=4) (show List.Nodup (α:=Str) ["plan","things","deeds","yard","deed"] by decide+kernel) rfl (Or.inl rfl)),fe,(aL cX (hr.mono (by omega)) rfl (aa (pv 3) (aa (pv 4) af)))⟩))))),?_⟩
  walk_at "wp"
  intro y dx hy hdx nyx
  have s1:Same H (upd (upd H dx (.own y)) y (.ins c.Y dx [])):=fun b o e=>by rw[aj (aq e hy),aj (aq e hdx)];exact e
  refine⟨y,dx,a,b,p,l,rfl,upd_same,s1 _ _ hpl,hb.same s1.d,told,fun G H2 Y2 k2 o2 hld=>⟨rfl,?_⟩⟩
  have x2:Ext H H2 y G p:=Ext.made hy hdx k2 o2
  obtain⟨ds,hds,hdd⟩:∃ds,H d=some (.lst ds)/\Dhs H ds (δs.map be):=by cases hd with |lst h1 h2=>exact⟨_,h1,h2⟩
  have hds2:=(x2 _ _ hds).1
  have tupH:∀{H' G'},Fw y p H2 G H' G'->∀b xs,H b=some (.tup xs)->H' b=some (.tup xs):=fun {H' G'} f' b xs e=>f'.keep _ _ (x2 _ _ e).1 (x2 _ _ e).2
  refine⟨⟨_,SqL.of hds2⟩,fun D hD=>?_⟩
  have hDH:H D=none:=by
   cases e:H D with
   |none=>rfl
   |some o=>have:=(x2 D o e).1;rw[hD] at this;cases this
  have hDl:D≠G.ld:=fun z=>by have:=Y2.ld;rw[<-z,hD] at this;cases this
  refine kL (xs:=ds) (fun i H'=>∃G' ys,H' D=some (.lst ys)/\Dhs H' ys ((run p (begin_ (look l)) (δs.take i)).1.map anD)/\Yd c H' y G' p (run p (begin_ (look l)) (δs.take i)).2/\Fw y p H2 G H' G') ?_ ?_ ?_ ?_
  ·have sm:Same H2 (upd H2 D (.lst [])):=(Same.refl H2).new hD
   exact⟨G,[],upd_same,.nil,Y2.same sm,Fw.same sm⟩
  ·rintro i H' _ ⟨G',ys,_,_,_,f'⟩
   exact aR.list (SqL.of (f'.keep _ _ hds2 (x2 _ _ hds).2))
  ·rintro i x H' hx ⟨G',ys,hD',hys,Y',f'⟩
   obtain⟨dd,g1,g2⟩:=hdd.get hx
   rw[List.getElem?_map] at g1
   cases eδ:δs[i]? with
   |none=>rw[eδ] at g1;cases g1
   |some δ=>
    rw[eδ] at g1
    obtain rfl:=Option.some.inj g1
    have et:δs.take (i+1)=δs.take i++ [δ]:=by rw[List.take_add_one,eδ];rfl
    rw[et,nU]
    have hr1:(run p (begin_ (look l)) (δs.take i)).1.length<=900:=by
     rw[rE,List.length_take]
     omega
    have dw:=mC (p:=p) (δs.take i) (mB (f:=look l))
    generalize run p (begin_ (look l)) (δs.take i)=r at*
    refine⟨fun j v h=>gB (σ:=[some (V.ref a),some (V.ref b),some (V.ref d),some (V.ref y)]) h,?_⟩
    walk_at "wp"
    refine⟨y,G',p,r.2,δ,x,rfl,Y',dw,g2.sameT (tupH f') (kA δ),fun v G4 H4 Y4 f4 hv4=>?_⟩
    have hD4:=f4.keep _ _ hD' (Y'.notL hD')
    have F4:=f'.trans f4
    have hne:D≠G4.ld:=by rw[F4.ld];exact hDl
    have tT:∀b xs,H4 b=some (.tup xs)->(upd H4 D (.lst (ys++ [v]))) b=some (.tup xs):=fun b xs e=>by rw[aj (cu e hD4 (by intro z;cases z))];exact e
    refine⟨ys,hD4,?_,?_,G4,Y4.but hD4 hne (fun b o e n=>by rw[aj n];exact e),⟨(fun b o e n=>by rw[aj (aq e hD)];exact F4.keep b o e n),F4.own,F4.ld⟩⟩
    ·have e1:=hys.length
     have e2:(r.1.map anD).length<=900:=by rw[List.length_map];exact hr1
     exact bu (by omega)
    ·rw[List.map_append]
     exact((hys.sameT (fun b xs e=>f4.keep _ _ e (Y'.notT e)) (jz _)).snoc hv4).sameT tT (by rw[gd,jz];exact jz [_])
  ·rintro H' ⟨G',ys,hD',hys,Y',f'⟩
   rw[hdd.length,List.length_map,List.take_length] at hys
   exact q D H' (.lst hD' hys) hDH fun b o e=>((x2.fw f') b o e).1
end
section
variable {P : Program} {w : World} {K : PySem.W.Frag} {mg : Str → Option Value} {base : Heap} {C : Addr}
open Y
variable {c : Cs}
def ox:Sp:=fun vs H Q _=>∃v tn,vs=[v]/\tyN H v=some tn/\Q (.bl (bv tn "int"&& !bv tn "bool")) H
theorem pi:FnScope ["_law_found"] ["_law_found"] (defScope (top 29)):=by walk_at "s"
theorem qY{f:Addr}{fd:FuncData}(az:mg "isinstance"=none)(ni:mg "int"=none)(em:mg "bool"=none)(F:Fun K "_law_whole" "_law_whole" (top 29) f fd):FnOk P w K mg base CX0 1 f fd ["_law_found"] ox:=by
 refine F.ok pi (fun vs H Q E h=>?_) (fun cdv A outer s H vs Q E hr h=>?_)
 ·obtain⟨v,tn,rfl,_⟩:=h
  rfl
 ·obtain⟨v,tn,rfl,ht,q⟩:=h
  refine⟨_,(ah (ar (jn (aD bd rfl az (by decide+kernel) (aa (pv 0) (aa (bn (v:= .ty "int") rfl ni (by decide+kernel) rfl) af))) (kR (uy (aD bd rfl az (by decide+kernel) (aa (pv 0) (aa (bn (v:= .ty "bool") rfl em (by decide+kernel) rfl) af)))))))),?_⟩
  walk_at "wp"
  refine⟨tn,ht,?_⟩
  cases e:bv tn "int" with
  |true=>
   rw[e,Bool.true_and] at q
   exact eZ ⟨tn,ht,q⟩
  |false=>
   rw[e,Bool.false_and] at q
   exact fK q
def vN(K:PySem.W.Frag):Sp:=fun vs H Q _=>∃(a:Addr) (ns:List Int) (k:Nat),vs=[.ref a,.int (k:Int)]/\SqL K H a (ns.map V.int)/\Q (.int (ns.getD k 0)) H
theorem uI:FnScope ["_law_script","_law_k"] ["_law_script","_law_k"] (defScope (top 30)):=by walk_at "s"
theorem CI{f:Addr}{fd:FuncData}(ci:mg "len"=none)(F:Fun K "_law_at" "_law_at" (top 30) f fd):FnOk P w K mg base CX0 1 f fd ["_law_script","_law_k"] (vN K):=by
 refine F.ok uI (fun vs H Q E h=>?_) (fun cdv A outer s H vs Q E hr h=>?_)
 ·obtain⟨a,ns,k,rfl,_⟩:=h
  rfl
 ·obtain⟨a,ns,k,rfl,hS,q⟩:=h
  refine⟨_,(ac (aH (aB lE (pv 1) (aD bb rfl ci (by decide+kernel) (aa (pv 0) af)) (aE _)) (ah (ar (ax aI (pv 0) (pv 1) (fun _ _=>rfl)))) av) (ah (ar ae))),?_⟩
  walk_at "wp"
  refine⟨_,Or.inl hS,?_⟩
  rw[List.length_map]
  by_cases hk:k<ns.length
  ·rw[decide_eq_true (show(k:Int)<(ns.length:Int) by omega)]
   refine eZ (fg hS (bP (by rw[List.getElem?_map,List.getElem?_eq_getElem hk];rfl)) ?_)
   rw[List.getD_eq_getElem?_getD,List.getElem?_eq_getElem hk] at q
   exact q
  ·rw[decide_eq_false (show ¬(k:Int)<(ns.length:Int) by omega)]
   refine fK ?_
   rw[List.getD_eq_getElem?_getD,List.getElem?_eq_none (by omega)] at q
   exact q
theorem wm{b:Bool}{A B:Prop}(h:b=true)(a:A):if b=true then A else B:=by rw[if_pos h];exact a
theorem Cy{b:Bool}{A B:Prop}(h:b=false)(a:B):if b=true then A else B:=by rw[if_neg (by rw[h];decide)];exact a
def rQ:Sp:=fun vs H Q _=>∃v a,vs=[v]/\Dh H v (anD a)/\∀H',Same H H'->Q (.bl true) H'
theorem kg:FnScope ["_law_found","_law_number"] ["_law_found"] (defScope (top 37)):=by walk_at "s"
theorem Am{f:Addr}{fd:FuncData}(az:mg "isinstance"=none)(ni:mg "int"=none)(em:mg "bool"=none)(nj:mg "str"=none)(iC:mg "tuple"=none)(ci:mg "len"=none)(eY:Def P w K mg base "_law_whole" 1 ["_law_found"] ox)
  (F:Fun K "_law_kind" "_law_kind" (top 37) f fd):FnOk P w K mg base CX0 2 f fd ["_law_found"] rQ:=by
 refine F.ok kg (fun vs H Q E h=>?_) (fun cdv A outer s H vs Q E hr h=>?_)
 ·obtain⟨v,a,rfl,_⟩:=h
  rfl
 ·obtain⟨v,a,rfl,hv,q⟩:=h
  refine⟨_,(ac (aH (PW.pt (jV (bg (aD bd rfl az (by decide+kernel) (aa (pv 0) (aa (bn (v:= .ty "str") rfl nj (by decide+kernel) rfl) af)))) (jV (bg (aL eY (hr.mono (by omega)) rfl (aa (pv 0) af))) (jo (bg (aD bd rfl az (by decide+kernel) (aa (pv 0) (aa (bn (v:= .ty "bool") rfl em (by decide+kernel) rfl) af)))))))) (ah (ar cb)) av) (ac (aH (PW.pt (jV (bZ (bg (aD bd rfl az (by decide+kernel) (aa (pv 0) (aa (bn (v:= .ty "tuple") rfl iC (by decide+kernel) rfl) af))))) (jV (aB lE (aD bb rfl ci (by decide+kernel) (aa (pv 0) af)) ae (aE _)) (jo (bZ (bg (aD bd rfl az (by decide+kernel) (aa (ax aA (pv 0) ae (fun _ _=>rfl)) (aa (bn (v:= .ty "str") rfl nj (by decide+kernel) rfl) af))))))))) (ah (ar cb)) av) (ac (cG PassesOwn.never rfl (BT (sQ Ci (pv 0) (rq ae) AG)) (aV (i:=1) kg.nd rfl (Or.inl rfl)) (ah (aH (bZ (bg (aL eY (hr.mono (by omega)) rfl (aa (pv 1) af)))) (ah (ar cb)) av))) (ac (aH (aB pK (ax aA (pv 0) ae (fun _ _=>rfl)) (bi (aa al (aa al (aa al af)))) rfl) (ah (ar (dB bA (aD bb rfl ci (by decide+kernel) (aa (pv 0) af)) ae (aE _)))) av) (ah (ar (jn (dB pK (ax aA (pv 0) ae (fun _ _=>rfl)) (bi (aa al (aa al af))) rfl) (kR (dB bA (aD bb rfl ci (by decide+kernel) (aa (pv 0) af)) ae (aE _)))))))))),?_⟩
  cases a with
  |int i=>
   obtain rfl:=dr hv rfl
   walk_at "wp scV anD ox"
   exact q H (Same.refl H)
  |bl b=>
   obtain rfl:=dr hv rfl
   walk_at "wp scV anD ox"
   exact q H (Same.refl H)
  |noDesk=>
   obtain rfl:=dr hv rfl
   walk_at "wp scV anD ox"
   exact q H (Same.refl H)
  |noThing=>
   obtain rfl:=dr hv rfl
   walk_at "wp scV anD ox"
   exact q H (Same.refl H)
  |noClock=>
   obtain rfl:=dr hv rfl
   walk_at "wp scV anD ox"
   exact q H (Same.refl H)
  |stopped=>
   obtain rfl:=dr hv rfl
   walk_at "wp scV anD ox"
   exact q H (Same.refl H)
  |noAnswer=>
   obtain rfl:=dr hv rfl
   walk_at "wp scV anD ox"
   exact q H (Same.refl H)
  |notNow=>
   obtain rfl:=dr hv rfl
   walk_at "wp scV anD ox"
   exact q H (Same.refl H)
  |nothing=>
   obtain rfl:=dr hv rfl
   walk_at "wp scV anD ox"
   exact q H (Same.refl H)
  |own u n=>
   obtain⟨a,rfl,ha⟩:=bp hv rfl
   have ta:=eC ha
   walk_at "wp scV ta ox"
   refine⟨_,Or.inr (SqT.of ha),?_⟩
   refine fK ?_
   refine gl ha ?_
   walk_at "wp scV tSl De Bg AR"
   refine⟨_,SqT.of ha,(fun z=>absurd (show(1:Nat)=0 from z.1) (by decide)),fun b hb=>?_⟩
   rw[show lJ (List.map scV [PyData.str "own",PyData.int u,PyData.int n]) (some 1) none=[V.int u,V.int n] from rfl]
   have hb1:upd H b (.tup [V.int u,V.int n]) b=some (.tup [V.int u,V.int n]):=upd_same
   have s1:Same H (upd H b (.tup [V.int u,V.int n])):=(Same.refl H).new hb
   generalize upd H b (.tup [V.int u,V.int n])=H1 at hb1 s1 ⊢
   have ha1:=s1 _ _ ha
   refine⟨⟨_,SqT.of hb1⟩,?_⟩
   refine bR (xs:=[V.int u,V.int n]) (fun i σ H'=>∃x1,σ=[some (.ref a),x1]/\H'=H1) ⟨_,rfl,rfl⟩ (fun i σ H' _ h=>by obtain⟨x1,_,rfl⟩:=h;exact aR.tup (SqT.of hb1)) ?_ ?_
   ·rintro i v σ H' hv ⟨x1,rfl,rfl⟩
    obtain⟨z,rfl⟩:∃z,v=V.int z:=by
     have:=List.mem_of_getElem? hv
     simp only[List.mem_cons,List.not_mem_nil,or_false] at this
     rcases this with e |e<;>exact⟨_,e⟩
    walk_at "wp ox"
    exact⟨_,rfl⟩
   ·rintro σ H' ⟨x1,rfl,rfl⟩
    walk_at "wp rIn"
    refine gl ha1 ?_
    intro p hp
    have s2:Same H' (upd H' p (.lst [V.str "own",V.str "fresh",V.str "lent"])):=(Same.refl H').new hp
    refine⟨_,Or.inl (SqL.of upd_same),rfl,rfl,wm (by decide+kernel) ⟨_,Or.inr (SqT.of (s2 _ _ ha1)),?_⟩⟩
    exact q _ (s1.trans s2)
  |fresh u n=>
   obtain⟨a,rfl,ha⟩:=bp hv rfl
   have ta:=eC ha
   walk_at "wp scV ta ox"
   refine⟨_,Or.inr (SqT.of ha),?_⟩
   refine fK ?_
   refine gl ha ?_
   walk_at "wp scV tSl De Bg AR"
   refine⟨_,SqT.of ha,(fun z=>absurd (show(1:Nat)=0 from z.1) (by decide)),fun b hb=>?_⟩
   rw[show lJ (List.map scV [PyData.str "fresh",PyData.int u,PyData.int n]) (some 1) none=[V.int u,V.int n] from rfl]
   have hb1:upd H b (.tup [V.int u,V.int n]) b=some (.tup [V.int u,V.int n]):=upd_same
   have s1:Same H (upd H b (.tup [V.int u,V.int n])):=(Same.refl H).new hb
   generalize upd H b (.tup [V.int u,V.int n])=H1 at hb1 s1 ⊢
   have ha1:=s1 _ _ ha
   refine⟨⟨_,SqT.of hb1⟩,?_⟩
   refine bR (xs:=[V.int u,V.int n]) (fun i σ H'=>∃x1,σ=[some (.ref a),x1]/\H'=H1) ⟨_,rfl,rfl⟩ (fun i σ H' _ h=>by obtain⟨x1,_,rfl⟩:=h;exact aR.tup (SqT.of hb1)) ?_ ?_
   ·rintro i v σ H' hv ⟨x1,rfl,rfl⟩
    obtain⟨z,rfl⟩:∃z,v=V.int z:=by
     have:=List.mem_of_getElem? hv
     simp only[List.mem_cons,List.not_mem_nil,or_false] at this
     rcases this with e |e<;>exact⟨_,e⟩
    walk_at "wp ox"
    exact⟨_,rfl⟩
   ·rintro σ H' ⟨x1,rfl,rfl⟩
    walk_at "wp rIn"
    refine gl ha1 ?_
    intro p hp
    have s2:Same H' (upd H' p (.lst [V.str "own",V.str "fresh",V.str "lent"])):=(Same.refl H').new hp
    refine⟨_,Or.inl (SqL.of upd_same),rfl,rfl,wm (by decide+kernel) ⟨_,Or.inr (SqT.of (s2 _ _ ha1)),?_⟩⟩
    exact q _ (s1.trans s2)
  |lent u n=>
   obtain⟨a,rfl,ha⟩:=bp hv rfl
   have ta:=eC ha
   walk_at "wp scV ta ox"
   refine⟨_,Or.inr (SqT.of ha),?_⟩
   refine fK ?_
   refine gl ha ?_
   walk_at "wp scV tSl De Bg AR"
   refine⟨_,SqT.of ha,(fun z=>absurd (show(1:Nat)=0 from z.1) (by decide)),fun b hb=>?_⟩
   rw[show lJ (List.map scV [PyData.str "lent",PyData.int u,PyData.int n]) (some 1) none=[V.int u,V.int n] from rfl]
   have hb1:upd H b (.tup [V.int u,V.int n]) b=some (.tup [V.int u,V.int n]):=upd_same
   have s1:Same H (upd H b (.tup [V.int u,V.int n])):=(Same.refl H).new hb
   generalize upd H b (.tup [V.int u,V.int n])=H1 at hb1 s1 ⊢
   have ha1:=s1 _ _ ha
   refine⟨⟨_,SqT.of hb1⟩,?_⟩
   refine bR (xs:=[V.int u,V.int n]) (fun i σ H'=>∃x1,σ=[some (.ref a),x1]/\H'=H1) ⟨_,rfl,rfl⟩ (fun i σ H' _ h=>by obtain⟨x1,_,rfl⟩:=h;exact aR.tup (SqT.of hb1)) ?_ ?_
   ·rintro i v σ H' hv ⟨x1,rfl,rfl⟩
    obtain⟨z,rfl⟩:∃z,v=V.int z:=by
     have:=List.mem_of_getElem? hv
     simp only[List.mem_cons,List.not_mem_nil,or_false] at this
     rcases this with e |e<;>exact⟨_,e⟩
    walk_at "wp ox"
    exact⟨_,rfl⟩
   ·rintro σ H' ⟨x1,rfl,rfl⟩
    walk_at "wp rIn"
    refine gl ha1 ?_
    intro p hp
    have s2:Same H' (upd H' p (.lst [V.str "own",V.str "fresh",V.str "lent"])):=(Same.refl H').new hp
    refine⟨_,Or.inl (SqL.of upd_same),rfl,rfl,wm (by decide+kernel) ⟨_,Or.inr (SqT.of (s2 _ _ ha1)),?_⟩⟩
    exact q _ (s1.trans s2)
  |waits u=>
   obtain⟨a,rfl,ha⟩:=bp hv rfl
   have ta:=eC ha
   walk_at "wp scV ta ox"
   refine⟨_,Or.inr (SqT.of ha),?_⟩
   refine fK ?_
   refine gl ha ?_
   walk_at "wp scV tSl De Bg AR"
   refine⟨_,SqT.of ha,(fun z=>absurd (show(1:Nat)=0 from z.1) (by decide)),fun b hb=>?_⟩
   rw[show lJ (List.map scV [PyData.str "waits",PyData.int u]) (some 1) none=[V.int u] from rfl]
   have hb1:upd H b (.tup [V.int u]) b=some (.tup [V.int u]):=upd_same
   have s1:Same H (upd H b (.tup [V.int u])):=(Same.refl H).new hb
   generalize upd H b (.tup [V.int u])=H1 at hb1 s1 ⊢
   have ha1:=s1 _ _ ha
   refine⟨⟨_,SqT.of hb1⟩,?_⟩
   refine bR (xs:=[V.int u]) (fun i σ H'=>∃x1,σ=[some (.ref a),x1]/\H'=H1) ⟨_,rfl,rfl⟩ (fun i σ H' _ h=>by obtain⟨x1,_,rfl⟩:=h;exact aR.tup (SqT.of hb1)) ?_ ?_
   ·rintro i v σ H' hv ⟨x1,rfl,rfl⟩
    obtain⟨z,rfl⟩:∃z,v=V.int z:=by
     have:=List.mem_of_getElem? hv
     simp only[List.mem_cons,List.not_mem_nil,or_false] at this
     exact⟨_,this⟩
    walk_at "wp ox"
    exact⟨_,rfl⟩
   ·rintro σ H' ⟨x1,rfl,rfl⟩
    walk_at "wp rIn"
    refine gl ha1 ?_
    intro p hp
    have s2:Same H' (upd H' p (.lst [V.str "own",V.str "fresh",V.str "lent"])):=(Same.refl H').new hp
    refine⟨_,Or.inl (SqL.of upd_same),rfl,rfl,Cy (by decide+kernel) ?_⟩
    generalize upd H' p (.lst [V.str "own",V.str "fresh",V.str "lent"])=H2 at s2 ⊢
    refine gl (s2 _ _ ha1) ?_
    intro p2 hp2
    have s3:Same H2 (upd H2 p2 (.lst [V.str "waits",V.str "changed"])):=(Same.refl H2).new hp2
    refine⟨_,Or.inl (SqL.of upd_same),rfl,rfl,wm (by decide+kernel) ⟨_,Or.inr (SqT.of (s3 _ _ (s2 _ _ ha1))),?_⟩⟩
    exact q _ (s1.trans (s2.trans s3))
  |changed n=>
   obtain⟨a,rfl,ha⟩:=bp hv rfl
   have ta:=eC ha
   walk_at "wp scV ta ox"
   refine⟨_,Or.inr (SqT.of ha),?_⟩
   refine fK ?_
   refine gl ha ?_
   walk_at "wp scV tSl De Bg AR"
   refine⟨_,SqT.of ha,(fun z=>absurd (show(1:Nat)=0 from z.1) (by decide)),fun b hb=>?_⟩
   rw[show lJ (List.map scV [PyData.str "changed",PyData.int n]) (some 1) none=[V.int n] from rfl]
   have hb1:upd H b (.tup [V.int n]) b=some (.tup [V.int n]):=upd_same
   have s1:Same H (upd H b (.tup [V.int n])):=(Same.refl H).new hb
   generalize upd H b (.tup [V.int n])=H1 at hb1 s1 ⊢
   have ha1:=s1 _ _ ha
   refine⟨⟨_,SqT.of hb1⟩,?_⟩
   refine bR (xs:=[V.int n]) (fun i σ H'=>∃x1,σ=[some (.ref a),x1]/\H'=H1) ⟨_,rfl,rfl⟩ (fun i σ H' _ h=>by obtain⟨x1,_,rfl⟩:=h;exact aR.tup (SqT.of hb1)) ?_ ?_
   ·rintro i v σ H' hv ⟨x1,rfl,rfl⟩
    obtain⟨z,rfl⟩:∃z,v=V.int z:=by
     have:=List.mem_of_getElem? hv
     simp only[List.mem_cons,List.not_mem_nil,or_false] at this
     exact⟨_,this⟩
    walk_at "wp ox"
    exact⟨_,rfl⟩
   ·rintro σ H' ⟨x1,rfl,rfl⟩
    walk_at "wp rIn"
    refine gl ha1 ?_
    intro p hp
    have s2:Same H' (upd H' p (.lst [V.str "own",V.str "fresh",V.str "lent"])):=(Same.refl H').new hp
    refine⟨_,Or.inl (SqL.of upd_same),rfl,rfl,Cy (by decide+kernel) ?_⟩
    generalize upd H' p (.lst [V.str "own",V.str "fresh",V.str "lent"])=H2 at s2 ⊢
    refine gl (s2 _ _ ha1) ?_
    intro p2 hp2
    have s3:Same H2 (upd H2 p2 (.lst [V.str "waits",V.str "changed"])):=(Same.refl H2).new hp2
    refine⟨_,Or.inl (SqL.of upd_same),rfl,rfl,wm (by decide+kernel) ⟨_,Or.inr (SqT.of (s3 _ _ (s2 _ _ ha1))),?_⟩⟩
    exact q _ (s1.trans (s2.trans s3))
def me:Sp:=fun vs H Q _=>∃(a b:Addr) (as:List An) (ys:List V),vs=[.ref a,.ref b]/\Dh H (.ref a) (.list (as.map anD))/\H b=some (.lst ys)/\ys.length=as.length/\as.length<=900/\∀H',Same H H'->Q (.bl true) H'
theorem gH:FnScope ["_law_found","_law_deeds","_law_one"] ["_law_found","_law_deeds"] (defScope (top 38)):=by walk_at "s"
theorem Aw{f:Addr}{fd:FuncData}(az:mg "isinstance"=none)(ce:mg "list"=none)(ci:mg "len"=none)(il:Def P w K mg base "_law_kind" 2 ["_law_found"] rQ)
  (F:Fun K "_law_are_told" "_law_are_told" (top 38) f fd):FnOk P w K mg base CX0 3 f fd ["_law_found","_law_deeds"] me:=by
 refine F.ok gH (fun vs H Q E h=>?_) (fun cdv A outer s H vs Q E hr h=>?_)
 ·obtain⟨a,b,as,ys,rfl,_⟩:=h
  rfl
 ·obtain⟨a,b,as,ys,rfl,ha,hb,hl,hk,q⟩:=h
  obtain⟨xs,hxs,hd⟩:∃xs,H a=some (.lst xs)/\Dhs H xs (as.map anD):=by cases ha with |lst h1 h2=>exact⟨_,h1,h2⟩
  have ta:=jb hxs
  refine⟨_,(ac (aH (PW.pt (jV (bZ (bg (aD bd rfl az (by decide+kernel) (aa (pv 0) (aa (bn (v:= .ty "list") rfl ce (by decide+kernel) rfl) af))))) (jo (aB pM (aD bb rfl ci (by decide+kernel) (aa (pv 0) af)) (aD bb rfl ci (by decide+kernel) (aa (pv 1) af)) (aE _))))) (ah (ar cb)) av) (ac (cG PassesOwn.never rfl (bW (pv 0)) (aV (i:=2) gH.nd rfl (Or.inl rfl)) (ah (aH (bZ (bg (aL il (hr.mono (by omega)) rfl (aa (pv 2) af)))) (ah (ar cb)) av))) (ah (ar cb)))),?_⟩
  walk_at "wp ta"
  have el:xs.length=ys.length:=by rw[hd.length,List.length_map,hl]
  refine⟨_,Or.inl (SqL.of hxs),_,Or.inl (SqL.of hb),lA (by rw[el]) ⟨⟨_,SqL.of hxs⟩,?_⟩⟩
  refine bR (xs:=xs) (fun i σ H'=>∃x2,σ=[some (.ref a),some (.ref b),x2]/\Same H H') ⟨_,rfl,Same.refl _⟩ (fun i σ H' _ h=>by obtain⟨x2,_,sm⟩:=h;exact aR.list (SqL.of (sm _ _ hxs))) ?_ ?_
  ·rintro i v σ H' hv ⟨x2,rfl,sm⟩
   obtain⟨d,g1,g2⟩:=hd.get hv
   rw[List.getElem?_map] at g1
   cases ea:as[i]? with
   |none=>rw[ea] at g1;cases g1
   |some an=>
    rw[ea] at g1
    obtain rfl:=Option.some.inj g1
    walk_at "wp"
    refine⟨_,an,rfl,g2.same sm.d,fun H3 s3=>?_⟩
    walk_at "wp"
    exact sm.trans s3
  ·rintro σ H' ⟨x2,rfl,sm⟩
   walk_at "wp"
   exact q H' sm
theorem qj(a:An):(anD a).canLay0=true:=by
 cases a<;>first |rfl |decide+kernel |simp[anD,PyData.canLay0,PyData.canLayAll0]<;>decide+kernel
theorem vT(a:An):(anD a).depth<=1:=by
 cases a<;>simp[anD,PyData.depth,PyData.depthAll]
def tyD:PyData->String
 | .none=>"NoneType"
 | .bool _=>"bool"
 | .int _=>"int"
 | .str _=>"str"
 | .list _=>"list"
 |_=>"tuple"
theorem Dh.ty{H:Hp}{v:V}{d:PyData}(h:Dh H v d):tyN H v=some (tyD d):=by
 cases h with
 |non=>rfl
 |bl b=>rfl
 |int i=>rfl
 |str x=>rfl
 |lst ha _=>exact jb ha
 |tup ha _=>exact eC ha
def oi:Sp:=fun vs H Q _=>∃x y a,vs=[x,y]/\Dh H x (anD a)/\Dh H y (anD a)/\Q (.bl true) H
theorem ph:FnScope ["_law_one","_law_other"] ["_law_one","_law_other"] (defScope (top 39)):=by walk_at "s"
theorem ym{f:Addr}{fd:FuncData}(az:mg "isinstance"=none)(em:mg "bool"=none)(F:Fun K "_law_equal" "_law_equal" (top 39) f fd):FnOk P w K mg base CX0 1 f fd ["_law_one","_law_other"] oi:=by
 refine F.ok ph (fun vs H Q E h=>?_) (fun cdv A outer s H vs Q E hr h=>?_)
 ·obtain⟨x,y,a,rfl,_⟩:=h
  rfl
 ·obtain⟨x,y,a,rfl,hx,hy,q⟩:=h
  have hu:=cx hr
  refine⟨_,(ah (ar (jn (dB bA (aD bd rfl az (by decide+kernel) (aa (pv 0) (aa (bn (v:= .ty "bool") rfl em (by decide+kernel) rfl) af))) (aD bd rfl az (by decide+kernel) (aa (pv 1) (aa (bn (v:= .ty "bool") rfl em (by decide+kernel) rfl) af))) (aE _)) (kR (dB uu (pv 0) (pv 1) (aE _)))))),?_⟩
  walk_at "wp CO"
  refine⟨_,Dh.ty hx,_,Dh.ty hy,wm (decide_eq_true rfl) ⟨_,hx.dt,_,hy.dt,qj a,qj a,?_,?_⟩⟩
  ·have:=vT a
   rw[Nat.min_self]
   exact Nat.lt_of_le_of_lt (Nat.add_le_add_left this _) hu
  ·rw[PySem.SeqAt.eqv_refl _ (qj a)]
   exact q
end
section
variable {P : Program} {w : World} {K : PySem.W.Frag} {mg : Str → Option Value} {base : Heap} {C : Addr}
open Y
variable {c : Cs}
def ll(c:Cs):Sp:=fun vs H Q _=>∃(y:Addr) (G:Gh) (p:Pl) (s:S Str),vs=[.ref y]/\Yd c H y G p s/\G.names.length<64/\∀r ss H',Listed ss (fun n=>(s.th n).isSome)->Dh H' (.ref r) (.list (ss.map (hZ s)))->H r=none->Same H H'->Q (.ref r) H'
theorem js:FnScope ["self"] ["self"] (defScope (inClass (top 18) 17)):=by walk_at "s"
theorem wD{f:Addr}{fd:FuncData}(T:TxtY K c.Y)(TT:Txt K c.T)(fz:mg "sorted"=none)(F:Fun K "all_values" "Yard.all_values" (inClass (top 18) 17) f fd):FnOk P w K mg base CX0 1 f fd ["self"] (ll c):=by
 refine F.ok js (fun vs H Q E h=>?_) (fun cdv A outer s H vs Q E hr h=>?_)
 ·obtain⟨y,G,p,s,rfl,_⟩:=h
  rfl
 ·obtain⟨y,G,p,s',rfl,Y,h64,q⟩:=h
  have hu:=cx hr
  obtain⟨dx,e⟩:=id Y.yo
  refine⟨_,(ah (ar (jf (own:=["name"]) rfl (LcScope.of (by kernel_rfl)) (bW (aD (mq rfl) rfl fz (by decide+kernel) (aa (aF (pv 0) rfl) af))) (fun cl C s H fp=>⟨(aV (i:=1) (show List.Nodup (α:=Str) ["self","name"] by decide+kernel) rfl (Or.inl rfl)),fe,(br (aa (pv 1) (aa (fc (K:=K) rfl (au hu (fc (K:=K) rfl (pv 0) rfl) (pv 1) (fun _ _=>rfl)) rfl) (aa (fc (K:=K) rfl (au hu (fc (K:=K) rfl (pv 0) rfl) (pv 1) (fun _ _=>rfl)) rfl) af))))⟩)))),?_⟩
  walk_at "wp e T.cl T.n5 tLc tLcR"
  refine⟨_,Y.dt,G.names,by unfold tkOf;rw[List.map_map];rfl,h64,fun l ss hl hp so=>?_⟩
  have L:Listed ss (fun n=>(s'.th n).isSome):=Listed.of Y.nd (fun n=>by
   cases ht:s'.th n with
   |none=>simpa using Y.no n ht
   |some t=>simpa using (Y.thing n t ht).1) hp so
  have s1:Same H (upd H l (.lst (ss.map V.str))):=(Same.refl H).new hl
  have hl1:upd H l (.lst (ss.map V.str)) l=some (.lst (ss.map V.str)):=upd_same
  generalize upd H l (.lst (ss.map V.str))=H1 at s1 hl1 ⊢
  refine⟨⟨_,SqL.of hl1⟩,fun D hD=>?_⟩
  refine lW (xs:=ss.map V.str) hD (fun H' sm=>aR.list (SqL.of (sm _ _ hl1))) (by rw[List.length_map,hp.length_eq];omega) (fun i=>hZ s' (ss.getD i "")) (fun i x H2 R E hx sm hys r=>?_) ?_
  ·rw[List.getElem?_map] at hx
   cases en:ss[i]? with
   |none=>rw[en] at hx;cases hx
   |some n=>
    rw[en] at hx
    obtain rfl:=Option.some.inj hx
    have S2:=s1.trans sm
    have Y2:=Y.same S2
    obtain⟨dx2,e2⟩:=id Y2.yo
    have hn:(s'.th n).isSome=true:=(L.mem n).mp (List.mem_of_getElem? en)
    cases ht:s'.th n with
    |none=>rw[ht] at hn;cases hn
    |some t=>
    have hg:=tW (n:=n) Y2
    rw[ht] at hg
    obtain⟨dxt,τ,et,tr⟩:=Y2.at ht
    refine⟨fun j v h=>gB (σ:=[some (V.ref y)]) h,?_⟩
    walk_at "wp e2 T.cl T.n5 et TT.cl TT.n2 TT.n3"
    refine⟨_,hg,?_⟩
    walk_at "wp e2 T.cl T.n5 et TT.cl TT.n2 TT.n3"
    refine⟨_,hg,?_⟩
    walk_at "wp e2 T.cl T.n5 et TT.cl TT.n2 TT.n3"
    intro p' hp'
    obtain⟨ys,hys⟩:=hys
    refine r (.ref p') _ ?_ ((Same.refl H2).new hp')
    rw[List.getD_eq_getElem?_getD,en]
    have ev:hZ s' n= .tuple [.str n,.int t.value,.int t.version]:=by unfold hZ;rw[ht]
    show DhX D _ _ (hZ s' n)
    rw[ev]
    exact DhX.of (ys:=ys) (by rw[aj (aq hys hp')];exact hys) (.tup upd_same (.cons (.str _) (.cons (.int _) (.cons (.int _) .nil)))) rfl
  ·intro H2 hd sm
   rw[List.length_map,range_getD] at hd
   refine q D ss H2 L hd ?_ (s1.trans sm)
   exact s1.free hD
def tY(kv:Key×V):Str:=match kv.1 with
 | .inr n=>n
 | .inl _=>""
theorem CopR.keys{C:Addr}{H:Hp}{kvs:List (Key×V)}{names:List Str}{f:Str->Option Cp}(h:CopR C H kvs names f):kvs.map (·.1)=(kvs.map tY).map fun x=>(Sum.inr x:Key):=by
 rw[List.map_map]
 refine List.map_congr_left fun kv hk=>?_
 obtain⟨n,e,_⟩:=h.ks kv hk
 show kv.1=Sum.inr (tY kv)
 unfold tY
 rw[e]
theorem CopR.nodup{C:Addr}{H:Hp}{kvs:List (Key×V)}{names:List Str}{f:Str->Option Cp}(h:CopR C H kvs names f):(kvs.map tY).Nodup:=by
 have:=h.nd
 rw[h.keys] at this
 exact(List.pairwise_map.mp this).imp fun hab z=>hab (congrArg Sum.inr z)
theorem CopR.mem{C:Addr}{H:Hp}{kvs:List (Key×V)}{names:List Str}{f:Str->Option Cp}(h:CopR C H kvs names f)(n:Str):n∈kvs.map tY↔(f n).isSome=true:=by
 rw[<-h.some n,<-eI,List.any_eq_true]
 constructor
 ·intro hm
  have:(Sum.inr n:Key)∈kvs.map (·.1):=by rw[h.keys];exact List.mem_map_of_mem hm
  obtain⟨kv,h1,h2⟩:=List.mem_map.mp this
  exact⟨kv,h1,decide_eq_true h2⟩
 ·rintro⟨kv,h1,h2⟩
  refine List.mem_map.mpr ⟨kv,h1,?_⟩
  unfold tY
  rw[of_decide_eq_true h2]
def uK(c:Cs):Sp:=fun vs H Q _=>∃(d:Addr) (kvs:List (Key×V)) (names:List Str) (f:Str->Option Cp),vs=[.ref d]/\H d=some (.dK kvs)/\CopR c.C H kvs names f/\names.length<64/\∀r ss H',Listed ss (fun n=>(f n).isSome)->Dh H' (.ref r) (.list (ss.map (gh f)))->H r=none->Same H H'->Q (.ref r) H'
theorem kh:FnScope ["copies"] ["copies"] (defScope (top 19)):=by walk_at "s"
theorem BO{f:Addr}{fd:FuncData}(TC:TxtC K c.C)(fz:mg "sorted"=none)(F:Fun K "copies_by_name" "copies_by_name" (top 19) f fd):FnOk P w K mg base CX0 1 f fd ["copies"] (uK c):=by
 refine F.ok kh (fun vs H Q E h=>?_) (fun cdv A outer s H vs Q E hr h=>?_)
 ·obtain⟨d,kvs,names,f,rfl,_⟩:=h
  rfl
 ·obtain⟨d,kvs,names,g,rfl,hd,rc,h64,q⟩:=h
  have hu:=cx hr
  refine⟨_,(ah (ar (jf (own:=["name"]) rfl (LcScope.of (by kernel_rfl)) (bW (aD (mq rfl) rfl fz (by decide+kernel) (aa (pv 0) af))) (fun cl C s H fp=>⟨(aV (i:=1) (show List.Nodup (α:=Str) ["copies","name"] by decide+kernel) rfl (Or.inl rfl)),fe,(br (aa (pv 1) (aa (fc (K:=K) rfl (au hu (pv 0) (pv 1) (fun _ _=>rfl)) rfl) (aa (fc (K:=K) rfl (au hu (pv 0) (pv 1) (fun _ _=>rfl)) rfl) (aa (fc (K:=K) rfl (au hu (pv 0) (pv 1) (fun _ _=>rfl)) rfl) af)))))⟩)))),?_⟩
  walk_at "wp tLc tLcR"
  refine⟨_,hd,kvs.map tY,rc.keys,by rw[List.length_map];exact Nat.lt_of_le_of_lt rc.len h64,fun l ss hl hp so=>?_⟩
  have L:Listed ss (fun n=>(g n).isSome):=Listed.of rc.nodup rc.mem hp so
  have s1:Same H (upd H l (.lst (ss.map V.str))):=(Same.refl H).new hl
  have hl1:upd H l (.lst (ss.map V.str)) l=some (.lst (ss.map V.str)):=upd_same
  generalize upd H l (.lst (ss.map V.str))=H1 at s1 hl1 ⊢
  refine⟨⟨_,SqL.of hl1⟩,fun D hD=>?_⟩
  refine lW (xs:=ss.map V.str) hD (fun H' sm=>aR.list (SqL.of (sm _ _ hl1))) (by rw[List.length_map,hp.length_eq,List.length_map];have:=rc.len;omega) (fun i=>gh g (ss.getD i "")) (fun i x H2 R E hx sm hys r=>?_) ?_
  ·rw[List.getElem?_map] at hx
   cases en:ss[i]? with
   |none=>rw[en] at hx;cases hx
   |some n=>
    rw[en] at hx
    obtain rfl:=Option.some.inj hx
    have S2:=s1.trans sm
    have hd2:=S2 _ _ hd
    have hn:(g n).isSome=true:=(L.mem n).mp (List.mem_of_getElem? en)
    cases ht:g n with
    |none=>rw[ht] at hn;cases hn
    |some t=>
    obtain⟨q0,dx0,hv,hq⟩:=rc.so n t ht
    have hq2:=S2 _ _ hq
    have hg:=gb.k (k:=(Sum.inr n:Key)) hd2
    rw[hv] at hg
    refine⟨fun j v h=>gB (σ:=[some (V.ref d)]) h,?_⟩
    walk_at "wp hq2 TC.cl TC.n1 TC.n2 TC.n3"
    refine⟨_,hg,?_⟩
    walk_at "wp hq2 TC.cl TC.n1 TC.n2 TC.n3"
    refine⟨_,hg,?_⟩
    walk_at "wp hq2 TC.cl TC.n1 TC.n2 TC.n3"
    refine⟨_,hg,?_⟩
    walk_at "wp hq2 TC.cl TC.n1 TC.n2 TC.n3"
    intro p' hp'
    obtain⟨ys,hys⟩:=hys
    refine r (.ref p') _ ?_ ((Same.refl H2).new hp')
    rw[List.getD_eq_getElem?_getD,en]
    have ev:gh g n= .tuple [.str n,.int t.value,.int t.version,.int t.till]:=by unfold gh;rw[ht]
    show DhX D _ _ (gh g n)
    rw[ev]
    exact DhX.of (ys:=ys) (by rw[aj (aq hys hp')];exact hys) (.tup upd_same (.cons (.str _) (.cons (.int _) (.cons (.int _) (.cons (.int _) .nil))))) rfl
  ·intro H2 hd2 sm
   rw[List.length_map,range_getD] at hd2
   refine q D ss H2 L hd2 ?_ (s1.trans sm)
   exact s1.free hD
def mt(p:Pl)(s:S Str)(ord:Nat->List Str):PyData:= .list ((List.range p.count).map fun i=> .list ((ord i).map (gh (s.cp i))))
def lh(c:Cs):Sp:=fun vs H Q _=>∃(y:Addr) (G:Gh) (p:Pl) (s:S Str),vs=[.ref y]/\Yd c H y G p s/\G.names.length<64/\∀r ord H',(∀i,i<p.count->Listed (ord i) (fun n=>(s.cp i n).isSome))->Dh H' (.ref r) (mt p s ord)->H r=none->Same H H'->Q (.ref r) H'
theorem jr:FnScope ["self"] ["self"] (defScope (inClass (top 18) 18)):=by walk_at "s"
theorem wz{f:Addr}{fd:FuncData}(T:TxtY K c.Y)(TD:TxtD K c.D)(dS:Def P w K mg base "copies_by_name" 1 ["copies"] (uK c))(F:Fun K "all_copies" "Yard.all_copies" (inClass (top 18) 18) f fd):FnOk P w K mg base CX0 2 f fd ["self"] (lh c):=by
 refine F.ok jr (fun vs H Q E h=>?_) (fun cdv A outer s H vs Q E hr h=>?_)
 ·obtain⟨y,G,p,s,rfl,_⟩:=h
  rfl
 ·obtain⟨y,G,p,s',rfl,Y,h64,q⟩:=h
  have hu:=cx hr
  obtain⟨dx,e⟩:=id Y.yo
  have ex:∀i,i<p.count->∃ss,Listed ss (fun n=>(s'.cp i n).isSome):=fun i hi=>by
   obtain⟨kvs,_,rc⟩:=Y.cops i hi
   exact kN rc.nodup rc.mem
  obtain⟨ord,hord⟩:∃ord:Nat->List Str,∀i,i<p.count->Listed (ord i) (fun n=>(s'.cp i n).isSome):=by
   classical
   exact⟨fun i=>if h:i<p.count then Classical.choose (ex i h) else [],fun i hi=>by dsimp only;rw[dif_pos hi];exact Classical.choose_spec (ex i hi)⟩
  refine⟨_,(ah (ar (jf (own:=["desk"]) rfl (LcScope.of (by kernel_rfl)) (bW (aF (pv 0) rfl)) (fun cl C s H fp=>⟨(aV (i:=1) (show List.Nodup (α:=Str) ["self","desk"] by decide+kernel) rfl (Or.inl rfl)),fe,(aL dS (hr.mono (by omega)) rfl (aa (fc (K:=K) rfl (pv 1) rfl) af))⟩)))),?_⟩
  walk_at "wp e T.cl T.n4 tLc tLcR"
  refine⟨⟨_,SqL.of Y.ld⟩,fun D hD=>?_⟩
  refine lW (xs:=(List.range p.count).map fun i=>V.ref (G.da i)) hD (fun H' sm=>aR.list (SqL.of (sm _ _ Y.ld))) (by simp only[List.length_map,List.length_range];have:=Y.small.1;omega) (fun i=> .list ((ord i).map (gh (s'.cp i)))) (fun i x H2 R E hx sm hys r=>?_) ?_
  ·rw[List.getElem?_map] at hx
   obtain⟨i',hi',rfl⟩:=Option.map_eq_some_iff.mp hx
   obtain⟨hlt,ei⟩:=List.getElem?_eq_some_iff.mp hi'
   rw[List.getElem_range] at ei
   subst ei
   rw[List.length_range] at hlt
   have Y2:=Y.same sm
   obtain⟨dxd,ed⟩:=Y2.desk i hlt
   obtain⟨kvs,hk,rc⟩:=Y2.cops i hlt
   obtain⟨ys,hys⟩:=hys
   refine⟨fun j v h=>gB (σ:=[some (V.ref y)]) h,?_⟩
   walk_at "wp ed TD.cl TD.n3"
   refine⟨G.ca i,kvs,G.names,s'.cp i,rfl,hk,rc,h64,fun r' ss H3 L hd3 hn3 s3=>?_⟩
   obtain rfl:=L.uniq (hord i hlt)
   obtain⟨A',xs',eA,hA',hx'⟩:=cc hd3
   obtain rfl:=V.ref.inj eA
   exact r _ H3 (DhX.lst (s3 _ _ hys) hA' hx' (sK _ (sq _) _) (fun z=>by rw[z,hys] at hn3;cases hn3)) s3
  ·intro H2 hd2 sm
   rw[List.length_map,List.length_range] at hd2
   exact q D ord H2 hord hd2 hD sm
def kj(c:Cs):Sp:=fun vs H Q _=>∃(a b d:Addr) (p:Pl) (l:List (Str×Int×Int)) (δs:List (Deed Str)),vs=[.ref a,.ref b,.ref d]/\mj H a p/\Dh H (.ref b) (.list (l.map thD))/\Dh H (.ref d) (.list (δs.map be))/\Told p l/\δs.length<=900/\
 ∀y G H',Yd c H' y G p (run p (begin_ (look l)) δs).2->Ext H H' y G p->Q (.ref y) H'
theorem gw:FnScope ["plan","things","deeds","yard","deed"] ["plan","things","deeds"] (defScope (top 24)):=by walk_at "s"
theorem yi{f:Addr}{fd:FuncData}(ku:CDef P w K mg base "Yard" c.Y 3 ["self","plan","told"] (kl c))(cX:Def P w K mg base "answer_to" 6 ["yard","deed"] (iY c))
  (F:Fun K "yard_after" "yard_after" (top 24) f fd):FnOk P w K mg base CX0 7 f fd ["plan","things","deeds"] (kj c):=by
 refine F.ok gw (fun vs H Q E h=>?_) (fun cdv A outer s H vs Q E hr h=>?_)
 ·obtain⟨a,b,d,p,l,δs,rfl,_⟩:=h
  rfl
 ·obtain⟨a,b,d,p,l,δs,rfl,hpl,hb,hd,told,hlen,q⟩:=h
  refine⟨_,(ac (aG (i:=3) gw.nd rfl (Or.inl rfl) (rg ku (hr.mono (by omega)) rfl (aa (pv 0) (aa (pv 1) af)))) (ac (cG PassesOwn.never rfl (bW (pv 2)) (aV (i:=4) gw.nd rfl (Or.inl rfl)) (ah (aY (aL cX (hr.mono (by omega)) rfl (aa (pv 3) (aa (pv 4) af)))))) (ah (ar (pv 3))))),?_⟩
  walk_at "wp"
  intro y dx hy hdx nyx
  have s1:Same H (upd (upd H dx (.own y)) y (.ins c.Y dx [])):=fun b o e=>by rw[aj (aq e hy),aj (aq e hdx)];exact e
  refine⟨y,dx,a,b,p,l,rfl,upd_same,s1 _ _ hpl,hb.same s1.d,told,fun G H2 Y2 k2 o2 hld=>⟨rfl,?_⟩⟩
  have x2:Ext H H2 y G p:=Ext.made hy hdx k2 o2
  obtain⟨ds,hds,hdd⟩:∃ds,H d=some (.lst ds)/\Dhs H ds (δs.map be):=by cases hd with |lst h1 h2=>exact⟨_,h1,h2⟩
  have hds2:=(x2 _ _ hds).1
  have tupH:∀{H' G'},Fw y p H2 G H' G'->∀b xs,H b=some (.tup xs)->H' b=some (.tup xs):=fun {H' G'} f' b xs e=>f'.keep _ _ (x2 _ _ e).1 (x2 _ _ e).2
  refine⟨⟨_,SqL.of hds2⟩,?_⟩
  refine bR (xs:=ds) (fun i σ H'=>∃G' x4,σ=[some (.ref a),some (.ref b),some (.ref d),some (.ref y),x4]/\Yd c H' y G' p (run p (begin_ (look l)) (δs.take i)).2/\Fw y p H2 G H' G') ?_ ?_ ?_ ?_
  ·exact⟨G,_,rfl,Y2,Fw.refl⟩
  ·rintro i σ H' _ ⟨G',x4,_,_,f'⟩
   exact aR.list (SqL.of (f'.keep _ _ hds2 (x2 _ _ hds).2))
  ·rintro i x σ H' hx ⟨G',x4,rfl,Y',f'⟩
   obtain⟨dd,g1,g2⟩:=hdd.get hx
   rw[List.getElem?_map] at g1
   cases eδ:δs[i]? with
   |none=>rw[eδ] at g1;cases g1
   |some δ=>
    rw[eδ] at g1
    obtain rfl:=Option.some.inj g1
    have et:δs.take (i+1)=δs.take i++ [δ]:=by rw[List.take_add_one,eδ];rfl
    rw[et,nU]
    have dw:=mC (p:=p) (δs.take i) (mB (f:=look l))
    generalize run p (begin_ (look l)) (δs.take i)=r at*
    walk_at "wp"
    refine⟨y,G',p,r.2,δ,x,rfl,Y',dw,g2.sameT (tupH f') (kA δ),fun v G4 H4 Y4 f4 hv4=>?_⟩
    try walk_at "wp"
    exact⟨G4,Y4,f'.trans f4⟩
  ·rintro σ H' ⟨G',x4,rfl,Y',f'⟩
   rw[hdd.length,List.length_map,List.take_length] at Y'
   try walk_at "wp"
   exact q y G' H' Y' (x2.fw f')
theorem sF{l:List (Str×Int×Int)}{n:Str}(h:(look l n).isSome=true):n∈l.map (·.1):=by
 unfold look at h
 rw[Option.isSome_map] at h
 obtain⟨e,he⟩:=Option.isSome_iff_exists.mp h
 have h1:=List.mem_of_find?_eq_some he
 have h2:e.1=n:=by simpa using List.find?_some he
 exact List.mem_map.mpr ⟨e,h1,h2⟩
theorem pJ{H:Hp}{y:Addr}{G:Gh}{p:Pl}{l:List (Str×Int×Int)}{δs:List (Deed Str)}(Y:Yd c H y G p (run p (begin_ (look l)) δs).2):G.names.length<=l.length:=by
 have:=len_sub (m:=l.map (·.1)) Y.nd fun n hn=>by
  obtain⟨t,ht⟩:=Y.mem hn
  have:=jZ (p:=p) n δs (begin_ (look l))
  rw[ht] at this
  refine sF (n:=n) ?_
  have e:((begin_ (look l)).th n).isSome=(look l n).isSome:=Option.isSome_map
  rw[<-e,<-this];rfl
 simpa using this
def ja(c:Cs):Sp:=fun vs H Q _=>∃(a b d:Addr) (p:Pl) (l:List (Str×Int×Int)) (δs:List (Deed Str)),vs=[.ref a,.ref b,.ref d]/\mj H a p/\Dh H (.ref b) (.list (l.map thD))/\Dh H (.ref d) (.list (δs.map be))/\Told p l/\δs.length<=900/\l.length<64/\
 ∀r ss H',Listed ss (fun n=>(look l n).isSome)->Dh H' (.ref r) (.list (ss.map (hZ (run p (begin_ (look l)) δs).2)))->H r=none->Same H H'->Q (.ref r) H'
theorem lS:FnScope ["plan","things","deeds"] ["plan","things","deeds"] (defScope (top 22)):=by walk_at "s"
theorem wC{f:Addr}{fd:FuncData}(T:TxtY K c.Y)(cF:Def P w K mg base "yard_after" 7 ["plan","things","deeds"] (kj c))(de:MDef P w K mg base c.Y "all_values" 1 ["self"] (ll c))
  (F:Fun K "values_after" "values_after" (top 22) f fd):FnOk P w K mg base CX0 8 f fd ["plan","things","deeds"] (ja c):=by
 refine F.ok lS (fun vs H Q E h=>?_) (fun cdv A outer s H vs Q E hr h=>?_)
 ·obtain⟨a,b,d,p,l,δs,rfl,_⟩:=h
  rfl
 ·obtain⟨a,b,d,p,l,δs,rfl,hpl,hb,hd,told,hlen,h64,q⟩:=h
  refine⟨_,(ah (ar (iE (aL cF (hr.mono (by omega)) rfl (aa (pv 0) (aa (pv 1) (aa (pv 2) af)))) de (hr.mono (by omega))))),?_⟩
  walk_at "wp"
  refine⟨a,b,d,p,l,δs,rfl,hpl,hb,hd,told,hlen,fun y G H1 Y1 x1=>?_⟩
  obtain⟨dx,e⟩:=id Y1.yo
  walk_at "wp e"
  refine⟨y,G,p,_,rfl,Y1,Nat.lt_of_le_of_lt (pJ Y1) h64,fun r ss H2 L hr2 hn s2=>?_⟩
  refine q r ss H2 ⟨L.nd,fun n=>(L.mem n).trans ?_,L.so⟩ hr2 ?_ fun b o e=>s2 _ _ (x1 b o e).1
  ·have h1:=jZ (p:=p) n δs (begin_ (look l))
   have h2:((begin_ (look l)).th n).isSome=(look l n).isSome:=Option.isSome_map
   show((run p (begin_ (look l)) δs).2.th n).isSome=true↔_
   rw[h1,h2]
  ·cases e:H r with
   |none=>rfl
   |some o=>have:=(x1 r o e).1;rw[hn] at this;cases this
def iZ(c:Cs):Sp:=fun vs H Q _=>∃(a b d:Addr) (p:Pl) (l:List (Str×Int×Int)) (δs:List (Deed Str)),vs=[.ref a,.ref b,.ref d]/\mj H a p/\Dh H (.ref b) (.list (l.map thD))/\Dh H (.ref d) (.list (δs.map be))/\Told p l/\δs.length<=900/\l.length<64/\
 ∀r ord H',(∀i,i<p.count->Listed (ord i) (fun n=>((run p (begin_ (look l)) δs).2.cp i n).isSome))->Dh H' (.ref r) (mt p (run p (begin_ (look l)) δs).2 ord)->H r=none->Same H H'->Q (.ref r) H'
theorem lR:FnScope ["plan","things","deeds"] ["plan","things","deeds"] (defScope (top 23)):=by walk_at "s"
theorem wx{f:Addr}{fd:FuncData}(T:TxtY K c.Y)(cF:Def P w K mg base "yard_after" 7 ["plan","things","deeds"] (kj c))(db:MDef P w K mg base c.Y "all_copies" 2 ["self"] (lh c))
  (F:Fun K "copies_after" "copies_after" (top 23) f fd):FnOk P w K mg base CX0 8 f fd ["plan","things","deeds"] (iZ c):=by
 refine F.ok lR (fun vs H Q E h=>?_) (fun cdv A outer s H vs Q E hr h=>?_)
 ·obtain⟨a,b,d,p,l,δs,rfl,_⟩:=h
  rfl
 ·obtain⟨a,b,d,p,l,δs,rfl,hpl,hb,hd,told,hlen,h64,q⟩:=h
  refine⟨_,(ah (ar (iE (aL cF (hr.mono (by omega)) rfl (aa (pv 0) (aa (pv 1) (aa (pv 2) af)))) db (hr.mono (by omega))))),?_⟩
  walk_at "wp"
  refine⟨a,b,d,p,l,δs,rfl,hpl,hb,hd,told,hlen,fun y G H1 Y1 x1=>?_⟩
  obtain⟨dx,e⟩:=id Y1.yo
  walk_at "wp e"
  refine⟨y,G,p,_,rfl,Y1,Nat.lt_of_le_of_lt (pJ Y1) h64,fun r ord H2 L hr2 hn s2=>?_⟩
  refine q r ord H2 L hr2 ?_ fun b o e=>s2 _ _ (x1 b o e).1
  cases e:H r with
  |none=>rfl
  |some o=>have:=(x1 r o e).1;rw[hn] at this;cases this
end
section
variable {P : Program} {w : World} {K : PySem.W.Frag} {mg : Str → Option Value} {base : Heap} {C : Addr}
open Y
variable {c : Cs}
def sZ(K:PySem.W.Frag)(n:Nat):Sp:=fun vs H Q _=>∃x y d,vs=[x,y]/\Dh H x d/\Dh H y d/\d.depth<=n/\lenOk d/\∀H',Same H H'->Q (.bl true) H'
def rW(K:PySem.W.Frag):Nat->Sp
 |0=>fun _ _ _ _=>False
 |n+1=>sZ K n
theorem nW:FnScope ["_law_found","_law_meant","_law_k"] ["_law_found","_law_meant"] (defScope (top 28)):=by walk_at "s"
theorem yw{n:Nat}{f:Addr}{fd:FuncData}(az:mg "isinstance"=none)(ni:mg "int"=none)(em:mg "bool"=none)(nj:mg "str"=none)(Ac:mg "dict"=none)(iC:mg "tuple"=none)(ce:mg "list"=none)(ci:mg "len"=none)(cO:mg "range"=none)
  (fm:Def P w K mg base "_law_so" n ["_law_found","_law_meant"] (rW K n))(F:Fun K "_law_so" "_law_so" (top 28) f fd):FnOk P w K mg base CX0 (n+1) f fd ["_law_found","_law_meant"] (sZ K n):=by
 refine F.ok nW (fun vs H Q E h=>?_) (fun cdv A outer s H vs Q E hr h=>?_)
 ·obtain⟨x,y,d,rfl,_⟩:=h
  rfl
 ·obtain⟨x,y,d,rfl,hx,hy,hn,hk,q⟩:=h
  refine⟨_,(ac (aH (fT (uw (pv 1))) (ah (ar (ux (uw (pv 0))))) av) (ac (aH (bg (aD bd rfl az (by decide+kernel) (aa (pv 1) (aa (bn (v:= .ty "bool") rfl em (by decide+kernel) rfl) af)))) (ah (ar (jn (aD bd rfl az (by decide+kernel) (aa (pv 0) (aa (bn (v:= .ty "bool") rfl em (by decide+kernel) rfl) af))) (kR (dB bA (pv 0) (pv 1) (aE _)))))) av) (ac (aH (bg (aD bd rfl az (by decide+kernel) (aa (pv 1) (aa (bn (v:= .ty "int") rfl ni (by decide+kernel) rfl) af)))) (ah (ar (jn (aD bd rfl az (by decide+kernel) (aa (pv 0) (aa (bn (v:= .ty "int") rfl ni (by decide+kernel) rfl) af))) (jn (uy (aD bd rfl az (by decide+kernel) (aa (pv 0) (aa (bn (v:= .ty "bool") rfl em (by decide+kernel) rfl) af)))) (kR (dB bA (pv 0) (pv 1) (aE _))))))) av) (ac (aH (bg (aD bd rfl az (by decide+kernel) (aa (pv 1) (aa (bn (v:= .ty "str") rfl nj (by decide+kernel) rfl) af)))) (ah (ar (jn (aD bd rfl az (by decide+kernel) (aa (pv 0) (aa (bn (v:= .ty "str") rfl nj (by decide+kernel) rfl) af))) (kR (dB bA (pv 0) (pv 1) (aE _)))))) av) (ac (aH (bg (aD bd rfl az (by decide+kernel) (aa (pv 1) (aa (bn (v:= .ty "dict") rfl Ac (by decide+kernel) rfl) af)))) (ah yN) av) (ac (aH (aB pM (aD bd rfl az (by decide+kernel) (aa (pv 1) (aa (bn (v:= .ty "tuple") rfl iC (by decide+kernel) rfl) af))) (aD bd rfl az (by decide+kernel) (aa (pv 0) (aa (bn (v:= .ty "tuple") rfl iC (by decide+kernel) rfl) af))) (aE _)) (ah (ar cb)) av) (ac (aH (PW.pt (jV (aB pM (aD bd rfl az (by decide+kernel) (aa (pv 1) (aa (bn (v:= .ty "list") rfl ce (by decide+kernel) rfl) af))) (aD bd rfl az (by decide+kernel) (aa (pv 0) (aa (bn (v:= .ty "list") rfl ce (by decide+kernel) rfl) af))) (aE _)) (jo (bZ (bg (aD vV rfl az (by decide+kernel) (aa (pv 1) (aa (br (aa (bn (v:= .ty "list") rfl ce (by decide+kernel) rfl) (aa (bn (v:= .ty "tuple") rfl iC (by decide+kernel) rfl) af))) af)))))))) (ah (ar cb)) av) (ac (aH (aB pM (aD bb rfl ci (by decide+kernel) (aa (pv 0) af)) (aD bb rfl ci (by decide+kernel) (aa (pv 1) af)) (aE _)) (ah (ar cb)) av) (ac (cG PassesOwn.never rfl (fA rfl cO (aa (aD bb rfl ci (by decide+kernel) (aa (pv 1) af)) af)) (aV (i:=2) nW.nd rfl (Or.inl rfl)) (ah (aH (bZ (bg (aL fm (hr.mono (by omega)) rfl (aa (ax xC (pv 0) (pv 2) (fun _ _=>rfl)) (aa (ax xC (pv 1) (pv 2) (fun _ _=>rfl)) af))))) (ah (ar cb)) av))) (ah (ar cb))))))))))),?_⟩
  cases hx with
  |non=>
   cases hy
   walk_at "wp Cj"
   exact q H (Same.refl H)
  |bl b=>
   cases hy
   walk_at "wp Cj"
   exact q H (Same.refl H)
  |int i=>
   cases hy
   walk_at "wp Cj"
   exact q H (Same.refl H)
  |str z=>
   cases hy
   walk_at "wp Cj"
   exact q H (Same.refl H)
  | @lst a xs ds ha hxs=>
   cases hy with
   | @lst b ys _ hb hys=>
   have ta:=jb ha
   have tb:=jb hb
   walk_at "wp Cj ta tb"
   intro p hp
   have na:a≠p:=aq ha hp
   have nb:b≠p:=aq hb hp
   have s1:Same H (upd H p (HO.tup [V.ty "list",V.ty "tuple"])):=(Same.refl H).new hp
   generalize upd H p (HO.tup [V.ty "list",V.ty "tuple"])=H1 at s1 ⊢
   have ha1:=s1 _ _ ha
   have hb1:=s1 _ _ hb
   have tb1:=jb hb1
   walk_at "wp Cj tb1"
   have el:xs.length=ys.length:=by rw[hxs.length,hys.length]
   have hkl:ds.length<=100000/\lensOk ds:=by simpa [lenOk] using hk
   have eld:=hys.length
   refine⟨xs,Or.inl (SqL.of ha1),ys,Or.inl (SqL.of hb1),lA (by rw[el]) ⟨ys,Or.inl (SqL.of hb1),by omega,by omega,?_⟩⟩
   rw[Int.toNat_natCast]
   refine bR (xs:=nQ 0 ys.length) (fun i σ H'=>∃x2,σ=[some (.ref a),some (.ref b),x2]/\Same H1 H') ⟨_,rfl,Same.refl _⟩ (fun _ _ _ _ _=>aR.range) ?_ ?_
   ·rintro i v σ H' hv ⟨x2,rfl,s2⟩
    obtain⟨hi,rfl⟩:=gZ hv
    walk_at "wp"
    have ez:(0:Int)+(i:Int)=(i:Int):=by omega
    rw[ez]
    have e1:xs[i]?=some xs[i]:=by rw[List.getElem?_eq_getElem (by omega)]
    have e2:ys[i]?=some ys[i]:=by rw[List.getElem?_eq_getElem hi]
    obtain⟨d1,g1,g2⟩:=hxs.get e1
    obtain⟨d2,g3,g4⟩:=hys.get e2
    have ed:d1=d2:=Option.some.inj (g1.symm.trans g3)
    subst ed
    have hm:d1∈ds:=List.mem_of_getElem? g1
    refine Or.inl (fg (SqL.of (s2 _ _ ha1)) (bP e1) ?_)
    refine Or.inl (fg (SqL.of (s2 _ _ hb1)) (bP e2) ?_)
    have hdep:PyData.depthAll ds+1<=n:=hn
    cases n with
    |zero=>omega
    |succ m=>
     have h3:=kB hm
     refine⟨_,_,d1,rfl,g2.same ((s1.trans s2).d),g4.same ((s1.trans s2).d),by omega,mU hkl.2 hm,fun H3 s3=>?_⟩
     walk_at "wp"
     exact s2.trans s3
   ·rintro σ H' ⟨x2,rfl,s2⟩
    exact q H' (s1.trans s2)
  | @tup a xs ds ha hxs=>
   cases hy with
   | @tup b ys _ hb hys=>
   have ta:=eC ha
   have tb:=eC hb
   walk_at "wp Cj ta tb"
   intro p hp
   have na:a≠p:=aq ha hp
   have nb:b≠p:=aq hb hp
   have s1:Same H (upd H p (HO.tup [V.ty "list",V.ty "tuple"])):=(Same.refl H).new hp
   generalize upd H p (HO.tup [V.ty "list",V.ty "tuple"])=H1 at s1 ⊢
   have ha1:=s1 _ _ ha
   have hb1:=s1 _ _ hb
   have tb1:=eC hb1
   walk_at "wp Cj tb1"
   have el:xs.length=ys.length:=by rw[hxs.length,hys.length]
   have hkl:ds.length<=100000/\lensOk ds:=by simpa [lenOk] using hk
   have eld:=hys.length
   refine⟨xs,Or.inr (SqT.of ha1),ys,Or.inr (SqT.of hb1),lA (by rw[el]) ⟨ys,Or.inr (SqT.of hb1),by omega,by omega,?_⟩⟩
   rw[Int.toNat_natCast]
   refine bR (xs:=nQ 0 ys.length) (fun i σ H'=>∃x2,σ=[some (.ref a),some (.ref b),x2]/\Same H1 H') ⟨_,rfl,Same.refl _⟩ (fun _ _ _ _ _=>aR.range) ?_ ?_
   ·rintro i v σ H' hv ⟨x2,rfl,s2⟩
    obtain⟨hi,rfl⟩:=gZ hv
    walk_at "wp"
    have ez:(0:Int)+(i:Int)=(i:Int):=by omega
    rw[ez]
    have e1:xs[i]?=some xs[i]:=by rw[List.getElem?_eq_getElem (by omega)]
    have e2:ys[i]?=some ys[i]:=by rw[List.getElem?_eq_getElem hi]
    obtain⟨d1,g1,g2⟩:=hxs.get e1
    obtain⟨d2,g3,g4⟩:=hys.get e2
    have ed:d1=d2:=Option.some.inj (g1.symm.trans g3)
    subst ed
    have hm:d1∈ds:=List.mem_of_getElem? g1
    refine Or.inr (Or.inl (ge (SqT.of (s2 _ _ ha1)) (bP e1) ?_))
    refine Or.inr (Or.inl (ge (SqT.of (s2 _ _ hb1)) (bP e2) ?_))
    have hdep:PyData.depthAll ds+1<=n:=hn
    cases n with
    |zero=>omega
    |succ m=>
     have h3:=kB hm
     refine⟨_,_,d1,rfl,g2.same ((s1.trans s2).d),g4.same ((s1.trans s2).d),by omega,mU hkl.2 hm,fun H3 s3=>?_⟩
     walk_at "wp"
     exact s2.trans s3
   ·rintro σ H' ⟨x2,rfl,s2⟩
    exact q H' (s1.trans s2)
end
section
variable {P : Program} {w : World} {K : PySem.W.Frag} {mg : Str → Option Value} {base : Heap} {C : Addr}
open Y
variable {c : Cs}
def iG(p:Pl):PyData:= .tuple [.int (p.count:Int),.int p.length,.int p.bound]
section
variable {σ : St} {H0 : Hp} {ta : TA} {p : Pl} {l : List (Str × Int × Int)} {δs : List (Deed Str)}
theorem uD(ha:RdA ta σ H0 [iG p,.list (l.map thD),.list (δs.map be)])(told:Told p l)(hl:δs.length<=900):Rd1 (tCall (hR c) [] E0 ta) σ H0 (.list ((run p (begin_ (look l)) δs).1.map anD)):=pP _ ha fun vs H Q hv q=>by
 obtain⟨x,y,z,rfl,g1,g2,g3⟩:=xk hv
 obtain⟨a,rfl,ha⟩:=bp g1 rfl
 obtain⟨b,_,rfl,_⟩:=cc g2
 obtain⟨d,_,rfl,_⟩:=cc g3
 exact⟨a,b,d,p,l,δs,rfl,ha,g2,g3,told,hl,fun r H' h _ s=>q _ H' h s⟩
theorem AM{as:List An}{ds:List PyData}(ha:RdA ta σ H0 [.list (as.map anD),.list ds])(h1:ds.length=as.length)(h2:as.length<=900):Rd1 (tCall me [] E0 ta) σ H0 (.bool true):=pP _ ha fun vs H Q hv q=>by
 obtain⟨x,y,rfl,g1,g2⟩:=oJ hv
 obtain⟨a,_,rfl,_⟩:=cc g1
 obtain⟨b,ys,rfl,hb,hy⟩:=cc g2
 exact⟨a,b,as,ys,rfl,g1,hb,by rw[hy.length,h1],h2,fun H' s=>q _ H' (.bl true) s⟩
theorem Bc{i k:Nat}{a:Addr}{ns:List Int}(hi:σ[i]?=some (some (.ref a)))(hS:SqL K H0 a (ns.map V.int)):Rd1 (tCall (vN K) [] E0 (tCons (tVar i) (tCons (tC (.int (k:Int))) tNil))) σ H0 (.int (ns.getD k 0)):=fun H Q s q=>
 ⟨_,hi,a,ns,k,rfl,s.seq hS,q _ H (.int _) (Same.refl H)⟩
end
section
variable {σ : St} {H0 : Hp} {ta : TA} {p : Pl} {l : List (Str × Int × Int)} {δs : List (Deed Str)}
theorem Be{n:Nat}{d:PyData}(ha:RdA ta σ H0 [d,d])(hd:d.depth<=n)(hl:lenOk d):Rd1 (tCall (sZ K n) [] E0 ta) σ H0 (.bool true):=pP _ ha fun vs H Q hv q=>by
 obtain⟨x,y,rfl,g1,g2⟩:=oJ hv
 exact⟨x,y,d,rfl,g1,g2,hd,hl,fun H' s=>q _ H' (.bl true) s⟩
theorem wK{ss:List Str}(ha:RdA ta σ H0 [iG p,.list (l.map thD),.list (δs.map be)])(told:Told p l)(hl:δs.length<=900)(h64:l.length<64)(L:Listed ss (fun n=>(look l n).isSome)):Rd1 (tCall (ja c) [] E0 ta) σ H0 (.list (ss.map (hZ (run p (begin_ (look l)) δs).2))):=pP _ ha fun vs H Q hv q=>by
 obtain⟨x,y,z,rfl,g1,g2,g3⟩:=xk hv
 obtain⟨a,rfl,ha⟩:=bp g1 rfl
 obtain⟨b,_,rfl,_⟩:=cc g2
 obtain⟨d,_,rfl,_⟩:=cc g3
 exact⟨a,b,d,p,l,δs,rfl,ha,g2,g3,told,hl,h64,fun r ss' H' L' h _ s=>q _ H' (L.uniq L'▸h) s⟩
theorem wI{ord:Nat->List Str}(ha:RdA ta σ H0 [iG p,.list (l.map thD),.list (δs.map be)])(told:Told p l)(hl:δs.length<=900)(h64:l.length<64)(L:∀i,i<p.count->Listed (ord i) (fun n=>((run p (begin_ (look l)) δs).2.cp i n).isSome)):Rd1 (tCall (iZ c) [] E0 ta) σ H0 (mt p (run p (begin_ (look l)) δs).2 ord):=pP _ ha fun vs H Q hv q=>by
 obtain⟨x,y,z,rfl,g1,g2,g3⟩:=xk hv
 obtain⟨a,rfl,ha⟩:=bp g1 rfl
 obtain⟨b,_,rfl,_⟩:=cc g2
 obtain⟨d,_,rfl,_⟩:=cc g3
 refine⟨a,b,d,p,l,δs,rfl,ha,g2,g3,told,hl,h64,fun r ord' H' L' h _ s=>q _ H' ?_ s⟩
 have:mt p (run p (begin_ (look l)) δs).2 ord'=mt p (run p (begin_ (look l)) δs).2 ord:=by
  unfold mt
  congr 1
  refine List.map_congr_left fun i hi=>?_
  rw[(L' i (List.mem_range.mp hi)).uniq (L i (List.mem_range.mp hi))]
 rw[<-this]
 exact h
end
end
local macro_rules | `(tactic| walk_at $x:str) => do
  if x.getString != "rd" then Lean.Macro.throwUnsupported
  `(tactic| repeat' (first | exact rd_int | exact rd_str | exact rd_bl | exact rda_nil | exact rd_var rfl (.int _) | exact rd_var rfl (.str _) | exact rd_var rfl (.bl _) | exact rd_var rfl (by assumption) | apply rda_cons | apply rd_tup | apply rd_lst | apply rd_it0 | apply rd_it1 | apply rd_it2 | apply rd_it3 | apply rd_sub | apply rd_add | apply rd_mul | apply rd_mod | apply rd_fdiv | apply rd_neg | apply rd_eq | apply rd_lt | apply rd_eqS | exact cmul_h _ | exact cmul_2 _ | exact cmul_3 _ | exact cmul_4 _ | exact cmul_5 _ | exact cmul_10 _ | exact Nat.le_of_ble_eq_true rfl | exact ⟨by decide, by decide⟩ | decide | assumption))
section
variable {P : Program} {w : World} {K : PySem.W.Frag} {mg : Str → Option Value} {base : Heap} {C : Addr}
open Y
variable {c : Cs}
abbrev qg(ds:List PyData)(d:PyData):Prop:=∃c,ds=[.int c]/\d=iG (gu c)
theorem cQ:FnScope ["_law_cell","_law_large","_law_length","_law_bound"] ["_law_cell"] (defScope (top 31)):=by walk_at "s"
theorem ut{f:Addr}{fd:FuncData}(F:Fun K "_law_plan_by" "_law_plan_by" (top 31) f fd):FnOk P w K mg base CX0 1 f fd ["_law_cell"] (bC qg):=by
 refine F.ok cQ (fun vs H Q E h=>?_) (fun cdv A outer s H vs Q E hr h=>?_)
 ·obtain⟨ds,d,⟨c,rfl,rfl⟩,hv,q⟩:=h
  obtain⟨x,r,rfl,g,hv⟩:=Dhs.one hv
  obtain rfl:=Dhs.none hv
  rfl
 ·obtain⟨ds,d,⟨c,rfl,rfl⟩,hv,q⟩:=h
  obtain⟨x,r,rfl,g,hv⟩:=Dhs.one hv
  obtain rfl:=Dhs.none hv
  obtain rfl:=bf g
  refine⟨_,(ac (aG (i:=1) cQ.nd rfl (Or.inl rfl) ae) (ac (aG (i:=2) cQ.nd rfl (Or.inl rfl) (ax aI (bi (aa ae (aa ae (aa ae (aa ae (aa ae (aa ae (aa (pv 1) af)))))))) (aw aN (aw aN (aw bw (pv 0) ae) ae) ae) (fun _ _=>rfl))) (ac (aG (i:=3) cQ.nd rfl (Or.inl rfl) (ax aI (bi (aa ae (aa ae (aa ae (aa ae (aa ae (aa (aw bw ae (pv 1)) af))))))) (aw aN (aw aN (aw bw (pv 0) ae) ae) ae) (fun _ _=>rfl))) (ah (ar (br (aa (ax aI (bi (aa ae (aa ae (aa ae (aa ae (aa ae (aa ae (aa ae (aa ae af))))))))) (aw aN (aw aN (aw bw (pv 0) ae) ae) ae) (fun _ _=>rfl)) (aa (pv 2) (aa (pv 3) af))))))))),?_⟩
  walk_at "t"
  refine bH rd_int fun v1 H1 hv1 s1=>?_
  obtain rfl:=bf hv1
  walk_at "x"
  refine bH (jW [1,5,10,1000000,7,20,100000000000000000000] (by walk_at "rd") (by decide) (z:=c*48271 % 1009 % 7) (by walk_at "rd") (by omega) (by show _<(7:Int);omega)) fun v2 H2 hv2 s2=>?_
  obtain rfl:=bf hv2
  walk_at "x"
  refine bH (jW [0,1,3,100,2,3*100000000000000000000] (by walk_at "rd") (by decide) (z:=c*48271 % 1013 % 6) (by walk_at "rd") (by omega) (by show _<(6:Int);omega)) fun v3 H3 hv3 s3=>?_
  obtain rfl:=bf hv3
  walk_at "x"
  have ec:PyData.int ((gu c).count:Int)= .int (([2,3,4,2,3,4,1,9]:List Int).getD (c*48271 % 1019 % 8).toNat 0):=by
   unfold gu
   dsimp only
   rw[xv]
   rfl
  refine bc (d:=iG (gu c)) (rd_tup (rda_cons ((jW [2,3,4,2,3,4,1,9] (by walk_at "rd") (by decide) (z:=c*48271 % 1019 % 8) (by walk_at "rd") (by omega) (by show _<(8:Int);omega)).to ec.symm) (rda_cons (rd_var rfl (.int _)) (rda_cons (rd_var rfl (.int _)) rda_nil))) (nle rfl)) fun v4 H4 hv4 s4=>q v4 H4 hv4 (s1.trans (s2.trans (s3.trans s4)))
abbrev ml(ds:List PyData)(d:PyData):Prop:=∃(j:Nat) (p:Pl),j<5/\ds=[.int (j:Int),iG p]/\d= .str (nameOf p j)
theorem yS{σ:St}{H0:Hp}{ta:TA}{te:TE}{j:Nat}(ha:RdA ta σ H0 [.str (Str.ofString "oats"),.str (Str.ofString "oatsack"),.str (Str.ofString ""),.str (Str.ofString "bran"),.str (Str.ofString "oat")])(he:Rd1 te σ H0 (.int (j:Int)))(hj:j<5):Rd1 (tOp (iI K) (tLst ta) te) σ H0 (.str (nmP j)):=by
 refine nO _ ha (nle rfl) he ?_
 have k:∀j:Fin 5,([.str (Str.ofString "oats"),.str (Str.ofString "oatsack"),.str (Str.ofString ""),.str (Str.ofString "bran"),.str (Str.ofString "oat")]:List PyData)[j.val]?=some (.str (nmP j.val)):=by
  intro j
  match j with
  |⟨0,_⟩=>rfl
  |⟨1,_⟩=>rfl
  |⟨2,_⟩=>rfl
  |⟨3,_⟩=>rfl
  |⟨4,_⟩=>rfl
 exact k ⟨j,hj⟩
theorem jc:FnScope ["_law_j","_law_plan"] ["_law_j","_law_plan"] (defScope (top 32)):=by walk_at "s"
theorem Ap{f:Addr}{fd:FuncData}(F:Fun K "_law_name_called" "_law_name_called" (top 32) f fd):FnOk P w K mg base CX0 1 f fd ["_law_j","_law_plan"] (bC ml):=by
 refine F.ok jc (fun vs H Q E h=>?_) (fun cdv A outer s H vs Q E hr h=>?_)
 ·obtain⟨ds,d,⟨j,p,hj,rfl,rfl⟩,hv,q⟩:=h
  obtain⟨x,y,rfl,g1,g2⟩:=oJ hv
  rfl
 ·obtain⟨ds,d,⟨j,p,hj,rfl,rfl⟩,hv,q⟩:=h
  obtain⟨x,y,rfl,g1,g2⟩:=oJ hv
  obtain rfl:=bf g1
  refine⟨_,(ac (aH (aB bA (aw aN (ax aA (pv 1) ae (fun _ _=>rfl)) ae) ae (aE _)) (ah (ar (aw nF (aw nF (aw nG al (aw aN (ax aA (pv 1) ae (fun _ _=>rfl)) ae)) (ax xD al (pv 0) (fun _ _=>rfl))) (aw nG al (aw gt ae (aw aN (ax aA (pv 1) ae (fun _ _=>rfl)) ae)))))) av) (ah (ar (ax aI (bi (aa al (aa al (aa al (aa al (aa al af)))))) (pv 0) (fun _ _=>rfl))))),?_⟩
  walk_at "t"
  refine jp (b:=decide (p.bound % 2=1)) (ay (by walk_at "rd")) (fun H1 hb s1=>?_) fun H1 hb s1=>?_
  ·have g2:=g2.same s1.d
   obtain⟨h7,e7⟩:=BJ p.length
   have en:nameOf p j=nmS (p.length % 7).toNat j:=by unfold nameOf;rw[if_pos (of_decide_eq_true hb)]
   rw[en] at q
   generalize (p.length % 7).toNat=r at*
   obtain⟨m1,m2⟩:=BN ⟨r,h7⟩
   obtain⟨l1,l2⟩:=BM ⟨r,h7⟩ ⟨j,hj⟩
   have er:∀{H0:Hp} {σ:St},Rd1 (tOp (rI (fun _ j=>0<j) fun i j=> .int (i % j)) (tOp (eF K) (tVar 1) (tC (.int 1))) (tC (.int 7))) σ H0 (.int (p.length % 7))->Rd1 (tOp (rI (fun _ j=>0<j) fun i j=> .int (i % j)) (tOp (eF K) (tVar 1) (tC (.int 1))) (tC (.int 7))) σ H0 (.int (r:Int)):=fun h=>h.to (by rw[e7])
   exact bc (vI (vI (vK rd_str (er (by walk_at "rd")) m1) (Cd rd_str (rd_var rfl (.int _)) (small_of (by decide+kernel)) (CF ⟨j,hj⟩)) (small_of l1)) (vK rd_str (rd_sub rd_int (er (by walk_at "rd"))) m2) (small_of l2)) fun v H2 hv s2=>q v H2 hv (s1.trans s2)
  ·have en:nameOf p j=nmP j:=by unfold nameOf;rw[if_neg (of_decide_eq_false hb)]
   rw[en] at q
   dsimp only[tNext]
   exact bc (yS (by walk_at "rd") (rd_var rfl (.int _)) hj) fun v H2 hv s2=>q v H2 hv (s1.trans s2)
theorem gY{σ:St}{H0:Hp}{t1 t2:TE}{j:Nat}{p:Pl}(hj:j<5)(h1:Rd1 t1 σ H0 (.int (j:Int)))(h2:Rd1 t2 σ H0 (iG p)):Rd1 (tCall (bC ml) [] E0 (tCons t1 (tCons t2 tNil))) σ H0 (.str (nameOf p j)):=iX (rda_cons h1 (rda_cons h2 rda_nil)) ⟨j,p,hj,rfl,rfl⟩
abbrev jy(ds:List PyData)(d:PyData):Prop:=∃(c:Int) (p:Pl),0<p.count/\ds=[.int c,iG p]/\d= .list ((bx c p).map thD)
theorem bX:FnScope ["_law_cell","_law_plan","_law_count","_law_first","_law_rows","_law_value"] ["_law_cell","_law_plan"] (defScope (top 33)):=by walk_at "s"
theorem rf{f:Addr}{fd:FuncData}(aM:Def P w K mg base "_law_name_called" 1 ["_law_j","_law_plan"] (bC ml))(F:Fun K "_law_things_by" "_law_things_by" (top 33) f fd):FnOk P w K mg base CX0 2 f fd ["_law_cell","_law_plan"] (bC jy):=by
 refine F.ok bX (fun vs H Q E h=>?_) (fun cdv A outer s H vs Q E hr h=>?_)
 ·obtain⟨ds,d,⟨c,p,hp,rfl,rfl⟩,hv,q⟩:=h
  obtain⟨x,y,rfl,g1,g2⟩:=oJ hv
  rfl
 ·obtain⟨ds,d,⟨c,p,hp,rfl,rfl⟩,hv,q⟩:=h
  obtain⟨x,y,rfl,g1,g2⟩:=oJ hv
  obtain rfl:=bf g1
  have hp:0<(p.count:Int):=by omega
  refine⟨_,(ac (aG (i:=2) bX.nd rfl (Or.inl rfl) (ax aA (pv 1) ae (fun _ _=>rfl))) (ac (aG (i:=3) bX.nd rfl (Or.inl rfl) (aL aM (hr.mono (by omega)) rfl (aa ae (aa (pv 1) af)))) (ac (aG (i:=4) bX.nd rfl (Or.inl rfl) (bi (aa (br (aa (pv 3) (aa (aw aN (aw aN (aw bw (pv 0) ae) ae) (pv 2)) (aa (aw gt (aw aN (aw aN (aw bw (pv 0) ae) ae) ae) ae) af)))) af))) (ac (aG (i:=5) bX.nd rfl (Or.inl rfl) (ax aI (bi (aa ae (aa (sR oF ae) (aa ae af)))) (aw aN (aw aN (aw bw (pv 0) ae) ae) ae) (fun _ _=>rfl))) (ac (aY (pN PySem.F.plainAttrs_list PySem.F.slot_list_append PySem.F.type_list_append dX (pv 4) (aa (br (aa (aL aM (hr.mono (by omega)) rfl (aa ae (aa (pv 1) af))) (aa (aw aN (aw aN (aw bw (pv 0) ae) ae) (pv 2)) (aa (pv 5) af)))) af))) (ac (aH (aB bA (aw aN (aw aN (aw bw (pv 0) ae) ae) ae) ae (aE _)) (ac (aY (pN PySem.F.plainAttrs_list PySem.F.slot_list_append PySem.F.type_list_append dX (pv 4) (aa (br (aa (aL aM (hr.mono (by omega)) rfl (aa ae (aa (pv 1) af))) (aa (aw aN (pv 0) (pv 2)) (aa (aw aN (aw aN (aw bw (pv 0) ae) ae) ae) af)))) af))) (ah (aY (pN PySem.F.plainAttrs_list PySem.F.slot_list_append PySem.F.type_list_append dX (pv 4) (aa (br (aa (aL aM (hr.mono (by omega)) rfl (aa ae (aa (pv 1) af))) (aa (aw aN (aw jT (pv 0) ae) (pv 2)) (aa (sR oF ae) af)))) af))))) av) (ah (ar (pv 4))))))))),?_⟩
  walk_at "t"
  refine bH (d:= .int (p.count:Int)) (by walk_at "rd") fun v1 H1 hv1 s1=>?_
  obtain rfl:=bf hv1
  walk_at "x"
  have g3:=g2.same s1.d
  refine bH (gY (j:=0) (by decide) rd_int (rd_var rfl g3)) fun v2 H2 hv2 s2=>?_
  obtain rfl:=gA hv2
  walk_at "x"
  have g4:=g3.same s2.d
  refine rC [thD (nameOf p 0,c*48271 % 1021 % p.count,c*48271 % 1033 % 9 - 4)] (by unfold thD;walk_at "rd") (nle rfl) fun A1 xs1 H3 hA0 hA1 hx1 s3=>?_
  walk_at "x"
  have T:One H2 H3 A1 [thD (nameOf p 0,c*48271 % 1021 % p.count,c*48271 % 1033 % 9 - 4)]:=⟨⟨xs1,hA1,hx1⟩,rfl,hA0,s3⟩
  refine bH (jW [0, -1,100000000000000000000] (by walk_at "rd") (by decide) (z:=c*48271 % 1039 % 3) (by walk_at "rd") (by omega) (by show _<(3:Int);omega)) fun v4 H4 hv4 s4=>?_
  obtain rfl:=bf hv4
  walk_at "x"
  have T:=T.same s4
  have g5:=g4.same T.all.d
  refine T.app (thD (nameOf p 1,c*48271 % 1031 % p.count,([0, -1,100000000000000000000]:List Int).getD (c*48271 % 1039 % 3).toNat 0)) rfl (nle rfl) (rd_tup (rda_cons (gY (j:=1) (by decide) rd_int (rd_var rfl g5)) (by walk_at "rd")) (nle rfl)) rfl fun H5 T _=>?_
  dsimp only
  have g6:=g4.same T.all.d
  have S2:=s1.trans s2
  by_cases hb:c*48271 % 1087 % 2=1
  ·refine bh (RdT.to (b:=true) (ay (b:=decide (c*48271 % 1087 % 2=1)) (by walk_at "rd")) (decide_eq_true hb)) fun H6 s6=>?_
   have T:=T.same s6
   have g7:=g4.same T.all.d
   refine T.app (thD (nameOf p 2,c % p.count,c*48271 % 1091 % 5)) rfl (nle rfl) (rd_tup (rda_cons (gY (j:=2) (by decide) rd_int (rd_var rfl g7)) (by walk_at "rd")) (nle rfl)) rfl fun H7 T _=>?_
   dsimp only
   have g8:=g4.same T.all.d
   refine T.app (thD (nameOf p 3,c / 3 % p.count, -7)) rfl (nle rfl) (rd_tup (rda_cons (gY (j:=3) (by decide) rd_int (rd_var rfl g8)) (by walk_at "rd")) (nle rfl)) rfl fun H8 T _=>?_
   refine bc (rd_var rfl T.dh) fun v H9 hv s9=>q v H9 ?_ (S2.trans (T.all.trans s9))
   have e:(bx c p).map thD=[thD (nameOf p 0,c*48271 % 1021 % p.count,c*48271 % 1033 % 9 - 4)]++ [thD (nameOf p 1,c*48271 % 1031 % p.count,([0, -1,100000000000000000000]:List Int).getD (c*48271 % 1039 % 3).toNat 0)]++ [thD (nameOf p 2,c % p.count,c*48271 % 1091 % 5)]++ [thD (nameOf p 3,c / 3 % p.count, -7)]:=by
    unfold bx
    rw[if_pos hb]
    rfl
   rw[e]
   exact hv
  ·refine aW (RdT.to (b:=false) (ay (b:=decide (c*48271 % 1087 % 2=1)) (by walk_at "rd")) (decide_eq_false hb)) fun H6 s6=>?_
   have T:=T.same s6
   dsimp only[tNext]
   refine bc (rd_var rfl T.dh) fun v H9 hv s9=>q v H9 ?_ (S2.trans (T.all.trans s9))
   have e:(bx c p).map thD=[thD (nameOf p 0,c*48271 % 1021 % p.count,c*48271 % 1033 % 9 - 4)]++ [thD (nameOf p 1,c*48271 % 1031 % p.count,([0, -1,100000000000000000000]:List Int).getD (c*48271 % 1039 % 3).toNat 0)]:=by
    unfold bx
    rw[if_neg hb]
    rfl
   rw[e]
   exact hv
abbrev qh(ds:List PyData)(d:PyData):Prop:=∃(c:Int) (p:Pl),ds=[.int c,iG p]/\d= .int (sd c p)
theorem hE:FnScope ["_law_cell","_law_plan","_law_length","_law_times"] ["_law_cell","_law_plan"] (defScope (top 34)):=by walk_at "s"
theorem Av{f:Addr}{fd:FuncData}(F:Fun K "_law_time" "_law_time" (top 34) f fd):FnOk P w K mg base CX0 1 f fd ["_law_cell","_law_plan"] (bC qh):=by
 refine F.ok hE (fun vs H Q E h=>?_) (fun cdv A outer s H vs Q E hr h=>?_)
 ·obtain⟨ds,d,⟨c,p,rfl,rfl⟩,hv,q⟩:=h
  obtain⟨x,y,rfl,g1,g2⟩:=oJ hv
  rfl
 ·obtain⟨ds,d,⟨c,p,rfl,rfl⟩,hv,q⟩:=h
  obtain⟨x,y,rfl,g1,g2⟩:=oJ hv
  obtain rfl:=bf g1
  refine⟨_,(ac (aG (i:=2) hE.nd rfl (Or.inl rfl) (ax aA (pv 1) ae (fun _ _=>rfl))) (ac (aG (i:=3) hE.nd rfl (Or.inl rfl) (bi (aa ae (aa ae (aa ae (aa (aw jT (pv 2) ae) (aa (pv 2) (aa (aw bM (pv 2) (ax aA (pv 1) ae (fun _ _=>rfl))) (aa (aw bM (pv 2) (aw bw ae (ax aA (pv 1) ae (fun _ _=>rfl)))) af))))))))) (ah (ar (ax aI (aw yA (pv 3) (bi (aa (aw bM (aw bM (pv 2) (aw bw ae (ax aA (pv 1) ae (fun _ _=>rfl)))) ae) af))) (aw aN (aw aN (aw bw (pv 0) ae) ae) ae) (fun _ _=>rfl)))))),?_⟩
  walk_at "t"
  refine bH (d:= .int p.length) (by walk_at "rd") fun v1 H1 hv1 s1=>?_
  obtain rfl:=bf hv1
  walk_at "x"
  have g3:=g2.same s1.d
  refine bH (d:= .list (([1,0,2,p.length / 2,p.length,p.length+p.bound,p.length+2*p.bound]:List Int).map .int)) (by walk_at "rd") fun v2 H2 hv2 s2=>?_
  walk_at "x"
  have g4:=g3.same s2.d
  exact bc (uE ([1,0,2,p.length / 2,p.length,p.length+p.bound,p.length+2*p.bound]++ [p.length+4*p.bound+1]) (Rd1.to (yR (rd_var rfl hv2) (es:=[.int (p.length+4*p.bound+1)]) (by walk_at "rd") (nle rfl)) rfl) (z:=c*48271 % 1049 % 8) (by walk_at "rd") (by omega) (by show _<(8:Int);omega)) fun v H3 hv s3=>q v H3 hv (s1.trans (s2.trans s3))
abbrev pZ(ds:List PyData)(d:PyData):Prop:=∃(c k:Int) (p:Pl),0<p.count/\ds=[.int c,.int k,iG p]/\d=be (bI c k p)
theorem aU:FnScope ["_law_cell","_law_k","_law_plan","_law_way","_law_desk","_law_large","_law_name","_law_most","_law_offsets","_law_values"] ["_law_cell","_law_k","_law_plan"] (defScope (top 35)):=by walk_at "s"
theorem uq{f:Addr}{fd:FuncData}(aM:Def P w K mg base "_law_name_called" 1 ["_law_j","_law_plan"] (bC ml))(ip:Def P w K mg base "_law_time" 1 ["_law_cell","_law_plan"] (bC qh))(F:Fun K "_law_deed_of" "_law_deed_of" (top 35) f fd):FnOk P w K mg base CX0 2 f fd ["_law_cell","_law_k","_law_plan"] (bC pZ):=by
 refine F.ok aU (fun vs H Q E h=>?_) (fun cdv A outer s H vs Q E hr h=>?_)
 ·obtain⟨ds,d,⟨c,k,p,hp,rfl,rfl⟩,hv,q⟩:=h
  obtain⟨x,y,z,rfl,g1,g2,g3⟩:=xk hv
  rfl
 ·obtain⟨ds,d,⟨c,k,p,hp,rfl,rfl⟩,hv,q⟩:=h
  obtain⟨x,y,z,rfl,g1,g2,g3⟩:=xk hv
  obtain rfl:=bf g1
  obtain rfl:=bf g2
  have hp:0<(p.count:Int):=by omega
  refine⟨_,(ac (aG (i:=3) aU.nd rfl (Or.inl rfl) (aw aN (aw aN (aw bw (pv 0) ae) ae) ae)) (ac (aG (i:=4) aU.nd rfl (Or.inl rfl) (aw aN (aw bM (aw jT (pv 0) ae) (pv 1)) (ax aA (pv 2) ae (fun _ _=>rfl)))) (ac (aH (aB bA (aw aN (aw aN (aw bw (pv 0) ae) ae) ae) ae (aE _)) (ac (aG (i:=5) aU.nd rfl (Or.inl rfl) ae) (ah (aG (i:=4) aU.nd rfl (Or.inl rfl) (ax aI (bi (aa (sR oF ae) (aa (ax aA (pv 2) ae (fun _ _=>rfl)) (aa (sR oF ae) (aa (aw gt ae (ax aA (pv 2) ae (fun _ _=>rfl))) (aa (pv 5) (aa (aw gt ae (pv 5)) af))))))) (aw aN (pv 1) ae) (fun _ _=>rfl))))) av) (ac (aG (i:=6) aU.nd rfl (Or.inl rfl) (aL aM (hr.mono (by omega)) rfl (aa (aw aN (aw aN (aw aN (aw bw (pv 0) ae) ae) ae) ae) (aa (pv 2) af)))) (ac (aH (aB bA (aw aN (aw aN (aw bw (pv 0) ae) ae) ae) ae (aE _)) (ah (aG (i:=6) aU.nd rfl (Or.inl rfl) (aL aM (hr.mono (by omega)) rfl (aa (aw bM ae (aw aN (aw aN (aw bw (pv 0) ae) ae) ae)) (aa (pv 2) af))))) av) (ac (aH (aB bA (aw aN (aw aN (aw bw (pv 0) ae) ae) ae) ae (aE _)) (ah (aG (i:=6) aU.nd rfl (Or.inl rfl) (aL aM (hr.mono (by omega)) rfl (aa ae (aa (pv 2) af))))) av) (ac (aH (aB lE (pv 3) ae (aE _)) (ah (ar (br (aa al (aa (aL ip (hr.mono (by omega)) rfl (aa (aw jT (pv 0) ae) (aa (pv 2) af))) af))))) av) (ac (aH (aB bA (pv 3) ae (aE _)) (ac (aG (i:=7) aU.nd rfl (Or.inl rfl) (ax aA (pv 2) ae (fun _ _=>rfl))) (ac (aG (i:=8) aU.nd rfl (Or.inl rfl) (bi (aa (aw gt ae (pv 7)) (aa (pv 7) (aa ae (aa (aw bM (pv 7) ae) (aa (aw gt (aw gt ae (pv 7)) ae) (aa (aw jT (pv 7) ae) af)))))))) (ah (ar (br (aa al (aa (pv 4) (aa (ax aI (pv 8) (aw aN (aw aN (aw bw (pv 0) ae) ae) ae) (fun _ _=>rfl)) af)))))))) av) (ac (aH (aB lE (pv 3) ae (aE _)) (ah (ar (br (aa al (aa (pv 4) (aa (pv 6) af)))))) av) (ac (aH (aB lE (pv 3) ae (aE _)) (ac (aG (i:=9) aU.nd rfl (Or.inl rfl) (bi (aa (aw bM (aw bw ae (pv 1)) (aw aN (aw aN (aw bw (pv 0) ae) ae) ae)) (aa (aw gt ae (pv 1)) (aa (aw bM ae (pv 1)) af))))) (ah (ar (br (aa al (aa (pv 4) (aa (pv 6) (aa (ax aI (pv 9) (aw aN (aw aN (aw bw (pv 0) ae) ae) ae) (fun _ _=>rfl)) af)))))))) av) (ac (aH (aB lE (pv 3) ae (aE _)) (ah (ar (br (aa al (aa (pv 6) af))))) av) (ac (aH (aB bA (pv 3) ae (aE _)) (ah (ar (br (aa al (aa (pv 4) (aa (pv 6) af)))))) av) (ah (ar (br (aa (ax aI (bi (aa al (aa al af))) (aw gt (pv 3) ae) (fun _ _=>rfl)) (aa (pv 4) af))))))))))))))))),?_⟩
  walk_at "t"
  refine bH (d:= .int (bz c)) (by unfold bz;walk_at "rd") fun v1 H1 hv1 s1=>?_
  obtain rfl:=bf hv1
  walk_at "x"
  have g4:=g3.same s1.d
  refine bH (d:= .int ((c / 16+k) % (p.count:Int))) (by walk_at "rd") fun v2 H2 hv2 s2=>?_
  obtain rfl:=bf hv2
  walk_at "x"
  have g5:=g4.same s2.d
  have S2:=s1.trans s2
  refine qB (b:=decide (c*48271 % 1061 % 31=30)) (ay (by walk_at "rd")) (fun σ' H'=>∃x5,σ'=[some (.int c),some (.int k),some z,some (.int (bz c)),some (.int (cN c k p)),x5,none,none,none,none]/\Same H2 H') ?_ (fun H3 D' nx _ hb s3=>?_) (fun H3 D' nx _ hb s3=>?_)
  rotate_left
  ·refine bH rd_int fun v3 H4 hv3 s4=>?_
   obtain rfl:=bf hv3
   walk_at "x"
   have g6:=g5.same (s3.trans s4).d
   have e:cN c k p=([-1,(p.count:Int), -2,0 - (p.count:Int),100000000000000000000,0 - 100000000000000000000]:List Int).getD (k % 6).toNat 0:=by unfold cN;rw[if_pos (of_decide_eq_true hb)]
   refine bH (d:= .int (cN c k p)) (Rd1.to (jW [-1,(p.count:Int), -2,0 - (p.count:Int),100000000000000000000,0 - 100000000000000000000] (by walk_at "rd") (by show 6<=1000;decide) (z:=k % 6) (by walk_at "rd") (by omega) (by show _<(6:Int);omega)) (by rw[e])) fun v4 H5 hv4 s5=>?_
   obtain rfl:=bf hv4
   exact nx _ _ ⟨_,rfl,s3.trans (s4.trans s5)⟩
  ·have e:cN c k p=(c / 16+k) % (p.count:Int):=by unfold cN;rw[if_neg (of_decide_eq_false hb)]
   exact nx _ _ ⟨_,by rw[e]<;>rfl,s3⟩
  rintro σ' H3 ⟨x5,rfl,s3⟩
  dsimp only
  have S3:=S2.trans s3
  have g6:=g5.same s3.d
  refine bH (gY (j:=(c*48271 % 1063 % 3 % 2).toNat) (by omega) (Rd1.to (d:= .int (c*48271 % 1063 % 3 % 2)) (by walk_at "rd") (by congr 1;omega)) (rd_var rfl g6)) fun v4 H4 hv4 s4=>?_
  obtain rfl:=gA hv4
  walk_at "x"
  have g7:=g6.same s4.d
  refine qB (b:=decide (c*48271 % 1103 % 4=3)) (ay (by walk_at "rd")) (fun σ' H'=>σ'=[some (.int c),some (.int k),some z,some (.int (bz c)),some (.int (cN c k p)),x5,some (.str (nameOf p (if c*48271 % 1103 % 4=3 then(2+c*48271 % 1109 % 2).toNat else(c*48271 % 1063 % 3 % 2).toNat))),none,none,none]/\Same H4 H') ?_ (fun H5 D' nx _ hb s5=>?_) (fun H5 D' nx _ hb s5=>?_)
  rotate_left
  ·have g8:=g7.same s5.d
   refine bH (gY (j:=(2+c*48271 % 1109 % 2).toNat) (by omega) (Rd1.to (d:= .int (2+c*48271 % 1109 % 2)) (by walk_at "rd") (by congr 1;omega)) (rd_var rfl g8)) fun v5 H6 hv5 s6=>?_
   obtain rfl:=gA hv5
   exact nx _ _ ⟨by rw[if_pos (of_decide_eq_true hb)]<;>rfl,s5.trans s6⟩
  ·exact nx _ _ ⟨by rw[if_neg (of_decide_eq_false hb)]<;>rfl,s5⟩
  rintro σ' H5 ⟨rfl,s5⟩
  dsimp only
  have g8:=g7.same s5.d
  refine qB (b:=decide (c*48271 % 1069 % 17=16)) (ay (by walk_at "rd")) (fun σ' H'=>σ'=[some (.int c),some (.int k),some z,some (.int (bz c)),some (.int (cN c k p)),x5,some (.str (nameOf p (ii c))),none,none,none]/\Same H5 H') ?_ (fun H6 D' nx _ hb s6=>?_) (fun H6 D' nx _ hb s6=>?_)
  rotate_left
  ·have g9:=g8.same s6.d
   refine bH (gY (j:=4) (by decide) rd_int (rd_var rfl g9)) fun v5 H7 hv5 s7=>?_
   obtain rfl:=gA hv5
   exact nx _ _ ⟨by unfold ii;rw[if_pos (of_decide_eq_true hb)]<;>rfl,s6.trans s7⟩
  ·exact nx _ _ ⟨by unfold ii;rw[if_neg (of_decide_eq_false hb)],s6⟩
  rintro σ' H6 ⟨rfl,s6⟩
  dsimp only
  have g9:=g8.same s6.d
  have S6:=S3.trans (s4.trans (s5.trans s6))
  clear g3 g4 g5 g6 g7 g8 hv1 hv2 hv4
  have wr:0<=bz c/\bz c<16:=by unfold bz;omega
  by_cases h1:bz c<2
  ·refine bh (RdT.to (ay (b:=decide (bz c<2)) (by walk_at "rd")) (decide_eq_true h1)) fun H7 s7=>?_
   have ga:=g9.same s7.d
   exact bc (d:=be (bI c k p)) (Rd1.to (rd_tup (rda_cons rd_str (rda_cons (iX (R:=qh) (rda_cons (d:= .int (c / 16)) (by walk_at "rd") (rda_cons (rd_var rfl ga) rda_nil)) ⟨c / 16,p,rfl,rfl⟩) rda_nil)) (nle rfl)) (by unfold bI;rw[if_pos h1]<;>rfl)) fun v H8 hv s8=>q v H8 hv (S6.trans (s7.trans s8))
  refine aW (RdT.to (ay (b:=decide (bz c<2)) (by walk_at "rd")) (decide_eq_false h1)) fun H7 s7=>?_
  dsimp only[tNext]
  have g9:=g9.same s7.d
  have S6:=S6.trans s7
  by_cases h2:bz c=2
  ·refine bh (RdT.to (ay (b:=decide (bz c=2)) (by walk_at "rd")) (decide_eq_true h2)) fun H7 s7=>?_
   have ga:=g9.same s7.d
   refine bH (d:= .int p.bound) (by walk_at "rd") fun v8 H8 hv8 s8=>?_
   obtain rfl:=bf hv8
   walk_at "x"
   refine bH (d:= .list (([0 - p.bound,p.bound,0,p.bound+1,0 - p.bound - 1,p.bound / 2]:List Int).map .int)) (by walk_at "rd") fun v9 H9 hv9 s9=>?_
   walk_at "x"
   exact bc (d:=be (bI c k p)) (Rd1.to (rd_tup (rda_cons rd_str (rda_cons (rd_var rfl (.int _)) (rda_cons (uE [0 - p.bound,p.bound,0,p.bound+1,0 - p.bound - 1,p.bound / 2] (rd_var rfl hv9) (z:=c*48271 % 1087 % 6) (by walk_at "rd") (by omega) (by show _<(6:Int);omega)) rda_nil))) (nle rfl)) (by unfold bI;rw[if_neg h1,if_pos h2]<;>rfl)) fun v Hv hv sv=>q v Hv hv (S6.trans (s7.trans (s8.trans (s9.trans sv))))
  refine aW (RdT.to (ay (b:=decide (bz c=2)) (by walk_at "rd")) (decide_eq_false h2)) fun H7 s7=>?_
  dsimp only[tNext]
  have g9:=g9.same s7.d
  have S6:=S6.trans s7
  by_cases h3:bz c<9
  ·refine bh (RdT.to (ay (b:=decide (bz c<9)) (by walk_at "rd")) (decide_eq_true h3)) fun H7 s7=>?_
   have ga:=g9.same s7.d
   exact bc (d:=be (bI c k p)) (Rd1.to (d:=be (.read (cN c k p) (nameOf p (ii c)))) (by unfold be;walk_at "rd") (by unfold bI;rw[if_neg h1,if_neg h2,if_pos h3]<;>rfl)) fun v H8 hv s8=>q v H8 hv (S6.trans (s7.trans s8))
  refine aW (RdT.to (ay (b:=decide (bz c<9)) (by walk_at "rd")) (decide_eq_false h3)) fun H7 s7=>?_
  dsimp only[tNext]
  have g9:=g9.same s7.d
  have S6:=S6.trans s7
  by_cases h4:bz c<11
  ·refine bh (RdT.to (ay (b:=decide (bz c<11)) (by walk_at "rd")) (decide_eq_true h4)) fun H7 s7=>?_
   have ga:=g9.same s7.d
   refine bH (d:= .list (([10*k+c*48271 % 1091 % 7,0 - k,100000000000000000000+k]:List Int).map .int)) (by walk_at "rd") fun v9 H9 hv9 s9=>?_
   walk_at "x"
   exact bc (d:=be (bI c k p)) (Rd1.to (rd_tup (rda_cons rd_str (rda_cons (rd_var rfl (.int _)) (rda_cons (rd_var rfl (.str _)) (rda_cons (uE [10*k+c*48271 % 1091 % 7,0 - k,100000000000000000000+k] (rd_var rfl hv9) (z:=c*48271 % 1093 % 3) (by walk_at "rd") (by omega) (by show _<(3:Int);omega)) rda_nil)))) (nle rfl)) (by unfold bI;rw[if_neg h1,if_neg h2,if_neg h3,if_pos h4]<;>rfl)) fun v Hv hv sv=>q v Hv hv (S6.trans (s7.trans (s9.trans sv)))
  refine aW (RdT.to (ay (b:=decide (bz c<11)) (by walk_at "rd")) (decide_eq_false h4)) fun H7 s7=>?_
  dsimp only[tNext]
  have g9:=g9.same s7.d
  have S6:=S6.trans s7
  by_cases h5:bz c<13
  ·refine bh (RdT.to (ay (b:=decide (bz c<13)) (by walk_at "rd")) (decide_eq_true h5)) fun H7 s7=>?_
   have ga:=g9.same s7.d
   exact bc (d:=be (bI c k p)) (Rd1.to (d:=be (.tries (nameOf p (ii c)))) (by unfold be;walk_at "rd") (by unfold bI;rw[if_neg h1,if_neg h2,if_neg h3,if_neg h4,if_pos h5]<;>rfl)) fun v H8 hv s8=>q v H8 hv (S6.trans (s7.trans s8))
  refine aW (RdT.to (ay (b:=decide (bz c<13)) (by walk_at "rd")) (decide_eq_false h5)) fun H7 s7=>?_
  dsimp only[tNext]
  have g9:=g9.same s7.d
  have S6:=S6.trans s7
  by_cases h6:bz c=13
  ·refine bh (RdT.to (ay (b:=decide (bz c=13)) (by walk_at "rd")) (decide_eq_true h6)) fun H7 s7=>?_
   have ga:=g9.same s7.d
   exact bc (d:=be (bI c k p)) (Rd1.to (d:=be (.back (cN c k p) (nameOf p (ii c)))) (by unfold be;walk_at "rd") (by unfold bI;rw[if_neg h1,if_neg h2,if_neg h3,if_neg h4,if_neg h5,if_pos h6]<;>rfl)) fun v H8 hv s8=>q v H8 hv (S6.trans (s7.trans s8))
  refine aW (RdT.to (ay (b:=decide (bz c=13)) (by walk_at "rd")) (decide_eq_false h6)) fun H7 s7=>?_
  dsimp only[tNext]
  have g9:=g9.same s7.d
  have S6:=S6.trans s7
  have e15:bz c=14∨bz c=15:=by omega
  rcases e15 with e |e
  ·exact bc (d:=be (bI c k p)) (Rd1.to (rd_tup (rda_cons (nO (k:=0) [.str (Str.ofString "stop"),.str (Str.ofString "wake")] (by walk_at "rd") (nle rfl) (Rd1.to (d:= .int (bz c - 14)) (by walk_at "rd") (by rw[e]<;>rfl)) rfl) (rda_cons (rd_var rfl (.int _)) rda_nil)) (nle rfl)) (by unfold bI;rw[if_neg h1,if_neg h2,if_neg h3,if_neg h4,if_neg h5,if_neg h6,if_pos e]<;>rfl)) fun v H8 hv s8=>q v H8 hv (S6.trans s8)
  ·exact bc (d:=be (bI c k p)) (Rd1.to (rd_tup (rda_cons (nO (k:=1) [.str (Str.ofString "stop"),.str (Str.ofString "wake")] (by walk_at "rd") (nle rfl) (Rd1.to (d:= .int (bz c - 14)) (by walk_at "rd") (by rw[e]<;>rfl)) rfl) (rda_cons (rd_var rfl (.int _)) rda_nil)) (nle rfl)) (by unfold bI;rw[if_neg h1,if_neg h2,if_neg h3,if_neg h4,if_neg h5,if_neg h6,if_neg (by omega)]<;>rfl)) fun v H8 hv s8=>q v H8 hv (S6.trans s8)
abbrev lT(ds:List PyData)(d:PyData):Prop:=∃(ns:List Int) (p:Pl),0<p.count/\ns.length<=200/\ds=[.list (ns.map .int),iG p]/\d= .list ((drawn ns p).map be)
theorem gv:FnScope ["_law_cells","_law_plan","_law_deeds","_law_k"] ["_law_cells","_law_plan"] (defScope (top 36)):=by walk_at "s"
theorem yl{f:Addr}{fd:FuncData}(cO:mg "range"=none)(ci:mg "len"=none)(fF:Def P w K mg base "_law_deed_of" 2 ["_law_cell","_law_k","_law_plan"] (bC pZ))(F:Fun K "_law_drawn" "_law_drawn" (top 36) f fd):FnOk P w K mg base CX0 3 f fd ["_law_cells","_law_plan"] (bC lT):=by
 refine F.ok gv (fun vs H Q E h=>?_) (fun cdv A outer s H vs Q E hr h=>?_)
 ·obtain⟨ds,d,⟨ns,p,hp,hl,rfl,rfl⟩,hv,q⟩:=h
  obtain⟨x,y,rfl,g1,g2⟩:=oJ hv
  rfl
 ·obtain⟨ds,d,⟨ns,p,hp,hl,rfl,rfl⟩,hv,q⟩:=h
  obtain⟨x,y,rfl,g1,g2⟩:=oJ hv
  refine⟨_,(ac (aG (i:=2) gv.nd rfl (Or.inl rfl) (bi af)) (ac (cG PassesOwn.never rfl (fA rfl cO (aa (aD bb rfl ci (by decide+kernel) (aa (pv 0) af)) af)) (aV (i:=3) gv.nd rfl (Or.inl rfl)) (ah (aY (pN PySem.F.plainAttrs_list PySem.F.slot_list_append PySem.F.type_list_append dX (pv 2) (aa (aL fF (hr.mono (by omega)) rfl (aa (aw bM (ax aI (pv 0) (pv 3) (fun _ _=>rfl)) (aw bw ae (pv 3))) (aa (pv 3) (aa (pv 1) af)))) af))))) (ah (ar (pv 2))))),?_⟩
  walk_at "t"
  refine rC [] rda_nil (nle rfl) fun A1 xs1 H1 hA0 hA1 hx1 s1=>?_
  walk_at "x"
  have T:One H H1 A1 []:=⟨⟨xs1,hA1,hx1⟩,rfl,hA0,s1⟩
  refine rK (m:=ns.length) (rda_cons ((uF (rd_var rfl (g1.same s1.d))).to (by rw[List.length_map])) rda_nil) (by omega) fun H2 s2=>?_
  refine xu (fun k=>be (bI (ns.getD k 0+5*(k:Int)) (k:Int) p)) (T.same s2) rfl (fun i H3 D' hi T3 _ nx=>?_) fun x H3 T3=>?_
  ·have g3:=g2.same T3.all.d
   have g4:=g1.same T3.all.d
   refine T3.app (be (bI (ns.getD i 0+5*(i:Int)) (i:Int) p)) rfl ?_ (iX (R:=pZ) (rda_cons (rd_add (fh (k:=i) (rd_var rfl g4) (rd_var rfl (.int _)) (d:= .int (ns.getD i 0)) ?_) (rd_mul rd_int (rd_var rfl (.int _)) (cmul_5 _))) (rda_cons (rd_var rfl (.int _)) (rda_cons (rd_var rfl g3) rda_nil))) ⟨_,_,p,hp,rfl,rfl⟩) (kA _) fun H4 T4 _=>nx H4 T4
   ·simp only[List.nil_append,List.length_map,List.length_range];omega
   ·rw[List.getElem?_map,List.getD_eq_getElem?_getD,List.getElem?_eq_getElem hi]<;>rfl
  ·dsimp only
   exact bc (rd_var rfl T3.dh) fun v H4 hv s4=>q v H4 (by unfold drawn;rw[List.map_map];exact hv) (T3.all.trans s4)
theorem AU(c:Int){p:Pl}(h:0<p.count/\p.count<=9):Told p (bx c p):=⟨tj c p,pq c h.1,by omega,by rw[km];have:=fb c;omega⟩
theorem iz{l:List (Str×Int×Int)}(n:Str):n∈l.map (·.1)↔(look l n).isSome=true:=by
 refine⟨fun h=>?_,sF⟩
 obtain⟨e,h1,h2⟩:=List.mem_map.mp h
 unfold look
 rw[Option.isSome_map,List.find?_isSome]
 exact⟨e,h1,by simpa using h2⟩
theorem wt{l:List (Str×Int×Int)}(nd:(l.map (·.1)).Nodup):∃ss,Listed ss (fun n=>(look l n).isSome)/\ss.length=l.length:=by
 obtain⟨ss,L⟩:=kN nd iz
 refine⟨ss,L,?_⟩
 have:=((List.perm_ext_iff_of_nodup L.nd nd).mpr fun n=>(L.mem n).trans (iz n).symm).length_eq
 rw[this,List.length_map]
theorem Cg{p:Pl}{l:List (Str×Int×Int)}(δs:List (Deed Str)){n:Str}(h:n∈l.map (·.1)):∃t,(run p (begin_ (look l)) δs).2.th n=some t:=by
 have h1:=jZ (p:=p) n δs (begin_ (look l))
 have h2:((begin_ (look l)).th n).isSome=(look l n).isSome:=Option.isSome_map
 rw[h2,(iz n).mp h] at h1
 exact Option.isSome_iff_exists.mp h1
theorem zf:PyData.strOk (Str.ofString "pass")=true/\PyData.strOk (Str.ofString "shift")=true/\PyData.strOk (Str.ofString "read")=true/\PyData.strOk (Str.ofString "change")=true/\PyData.strOk (Str.ofString "try")=true/\PyData.strOk (Str.ofString "back")=true/\PyData.strOk (Str.ofString "stop")=true/\PyData.strOk (Str.ofString "wake")=true:=by decide+kernel
theorem xi(δ:Deed Str)(h:okD δ=true):(be δ).canLay0=true:=by
 obtain⟨w1,w2,w3,w4,w5,w6,w7,w8⟩:=zf
 cases δ<;>simp[be,PyData.canLay0,PyData.canLayAll0,w1,w2,w3,w4,w5,w6,w7,w8]<;>exact h
theorem tQ(δ:Deed Str):(be δ).depth<=1:=by cases δ<;>simp[be,PyData.depth,PyData.depthAll]
theorem pB:∀δs:List (Deed Str),δs.all okD=true->PyData.canLayAll0 (δs.map be)=true
 | [],_=>rfl
 |δ::δs,h=>by
  rw[List.all_cons,Bool.and_eq_true] at h
  simp[PyData.canLayAll0,xi δ h.1,pB δs h.2]
theorem lw:∀δs:List (Deed Str),PyData.depthAll (δs.map be)<=1
 | []=>Nat.zero_le 1
 |δ::δs=>by
  rw[List.map_cons]
  unfold PyData.depthAll
  exact Nat.max_le.mpr ⟨tQ δ,lw δs⟩
def sp_law(K:PySem.W.Frag):Sp:=fun vs H Q _=>∃(a:Addr) (ns:List Int),vs=[.ref a]/\SqL K H a (ns.map V.int)/\ns.length<=63/\∀H',Q (.bl true) H'
end
section
variable {P : Program} {w : World} {K : PySem.W.Frag} {mg : Str → Option Value} {base : Heap} {C : Addr}
open Y
variable {c : Cs}
theorem lb:FnScope ["_law_yard","_law_desk"] ["_law_yard","_law_desk"] (defScope (top 41)):=by walk_at "s"
theorem yk{f:Addr}{fd:FuncData}(F:Fun K "_law_clock_of" "_law_clock_of" (top 41) f fd):FnOk P w K mg base CX0 1 f fd ["_law_yard","_law_desk"] fB:=by
 refine F.ok lb (fun vs H Q E h=>?_) (fun cdv A outer s H vs Q E hr h=>?_)
 ·obtain⟨H0,adr,P,p,ns,s,d,rfl,_⟩:=h
  rfl
 ·obtain⟨H0,adr,P,p,ns,s,d,rfl,L,hd,q⟩:=h
  have hu:=cx hr
  refine⟨_,(ah (ar (aw bM (au hu (pv 0) al (fun _ _=>rfl)) (ax aI (au hu (pv 0) al (fun _ _=>rfl)) (pv 1) (fun _ _=>rfl))))),?_⟩
  simp only[cxOf_K,cxOf_A,L2.start,List.map_cons,List.map_nil,List.length_cons,List.length_nil,Nat.reduceAdd,Nat.reduceSub,List.replicate,List.cons_append,List.nil_append]
  exact kE (fJ (rd_add ((qT L (am rfl)).rd (.int _)) ((BH L (am rfl) hd (am rfl)).rd (.int _)))) q
theorem dlI(ns:List Int):PyData.depth (.list (ns.map PyData.int))<=200:=by rw[lK];decide
theorem cv:FnScope ["_law_yard","_law_thing","_law_clock","_law_held"] ["_law_yard","_law_thing"] (defScope (top 42)):=by walk_at "s"
theorem Ah{f:Addr}{fd:FuncData}(ce:mg "list"=none)(ue:mg "max"=none)(aZ:Def P w K mg base "_law_clock_of" 1 ["_law_yard","_law_desk"] fB)(F:Fun K "_law_attempted" "_law_attempted" (top 42) f fd):FnOk P w K mg base CX0 2 f fd ["_law_yard","_law_thing"] ma:=by
 refine F.ok cv (fun vs H Q E h=>?_) (fun cdv A outer s H vs Q E hr h=>?_)
 ·obtain⟨H0,adr,P,p,ns,s,n,x,rfl,_⟩:=h
  rfl
 ·obtain⟨H0,adr,P,p,ns,s,n,x,rfl,L,hp,hx,q⟩:=h
  have hu:=cx hr
  refine⟨_,(ac (aH (aB uu (au hu (pv 1) al (fun _ _=>rfl)) (bi af) (aE _)) (ah (ar al)) av) (ac (aG (i:=2) cv.nd rfl (Or.inr rfl) (aL aZ (hr.mono (by omega)) rfl (aa (pv 0) (aa (au hu (pv 1) al (fun _ _=>rfl)) af)))) (ac (aG (i:=3) cv.nd rfl (Or.inl rfl) (aw yA (jf (own:=["_law_desk"]) rfl (LcScope.of (by kernel_rfl)) (bW (gD (lI rfl) rfl ce (by decide+kernel) (aa (au hu (pv 1) al (fun _ _=>rfl)) af))) (fun cl C s H fp=>⟨(aV (i:=4) (show List.Nodup (α:=Str) ["_law_yard","_law_thing","_law_clock","_law_held","_law_desk"] by decide+kernel) rfl (Or.inl rfl)),fe,(au hu (au hu (pv 1) al (fun _ _=>rfl)) (pv 4) (fun _ _=>rfl))⟩)) (au hu (pv 1) al (fun _ _=>rfl)))) (ac (sS (own:=["_law_until"]) (i:=3) rfl (LcScope.of (by kernel_rfl)) (bW (pv 3)) (fun cl C s H fp=>⟨(aV (i:=4) (show List.Nodup (α:=Str) ["_law_yard","_law_thing","_law_clock","_law_held","_law_until"] by decide+kernel) rfl (Or.inl rfl)),(rA (aB Bb (pv 4) (pv 2) (aE _))),(pv 4)⟩) cv.nd rfl (Or.inl rfl) rfl) (ac (aH (aB uv (pv 3) (bi af) (aE _)) (ah (ar (br (aa al (aa (aD (vW rfl) rfl ue (by decide+kernel) (aa (pv 3) af)) af))))) av) (ac (bB hu (pv 1) al (ax aI (au hu (pv 1) al (fun _ _=>rfl)) ae (fun _ _=>rfl)) rfl) (ac (bB hu (pv 1) al (aw bM (au hu (pv 1) al (fun _ _=>rfl)) ae) rfl) (ac (bB hu (pv 1) al (bi af) rfl) (ac (bB hu (pv 1) al ck rfl) (ac (bB hu (pv 1) al (bi af) rfl) (ah (ar (br (aa al (aa (au hu (pv 1) al (fun _ _=>rfl)) af))))))))))))))),?_⟩
  simp only[cxOf_K,cxOf_A,cxComp_K,cxComp_A,L2.start,List.map_cons,List.map_nil,List.length_cons,List.length_nil,Nat.reduceAdd,Nat.reduceSub,List.replicate,List.cons_append,List.nil_append]
  have hkp:=L.kp n x hx
  refine aX ?_
  have tst:=ay (yT (K:=K) (gQ (t:=tVar 1) (σ:=[some (.ref (adr .y)),some (.ref (adr (.td n))),none,none]) L hx (am rfl)) (rd_lst rda_nil (nle rfl)) (eg _) rfl (jY hr (Nat.le_trans (Nat.min_le_left _ _) (dlI _))))
  rw[jE] at tst
  cases hw:x.waiting with
  |none=>
   rw[hw] at tst
   refine bh tst fun H1 s1=>?_
   refine bc rd_str fun v H2 hv s2=>?_
   refine q H2 adr v ?_ rfl ?_
   ·simp only[attempt,hw,lZ hx]
    exact L.same (s1.trans s2)
   ·simp only[attempt,hw,anD]
    exact hv
  |some w0=>
   rw[hw] at tst
   refine aW tst fun H1 s1=>?_
   dsimp only[tNext]
   have L1:=L.same s1
   clear tst
   refine aX ?_
   refine dU (jP L1 (am rfl) (cq L1 hx (am rfl)) hkp) fun H2 s2=>?_
   have L2:=L1.same s2
   walk_at "x"
   obtain⟨ks,hks,⟨kvs,hk1,hk2,hk3⟩,held⟩:=xQ L2 hx
   refine aX ?_
   refine bH (yR (yW (K:=K) (ds:=ks.map .int) (fun i=> .int ((ks.map fun k=>(x.lent k).getD 0).getD i 0)) (yX (lX L2 hx (am rfl)) hk1 hk2) (Nat.le_refl _) (by rw[List.length_map];omega) (fun i=>rfl) ?_) (xS L2 hx (am rfl)) ?_) fun v3 H3 hv3 s3=>?_
   ·rintro i d v H' he sm hv
    rw[List.getElem?_map] at he
    obtain⟨k,hk,rfl⟩:=Option.map_eq_some_iff.mp he
    obtain rfl:=bf hv
    rw[List.getD_eq_getElem?_getD,List.getElem?_map,hk]
    have L':=L2.same sm
    exact(bJ (k:=Sum.inl k) (lX L' hx (am rfl)) (am rfl) (sm _ _ hk1) (hk3 k (List.mem_of_getElem? hk))).rd (.int _)
   ·have:x.quiet.toList.length<=1:=by cases x.quiet<;>simp
    simp only[List.length_map,List.length_range]
    omega
   walk_at "x"
   have L3:=L2.same s3
   have e3:(List.range (ks.map PyData.int).length).map (fun i=>PyData.int ((ks.map fun k=>(x.lent k).getD 0).getD i 0))++x.quiet.toList.map .int=((ks.map fun k=>(x.lent k).getD 0)++x.quiet.toList).map PyData.int:=by
    rw[List.map_append,<-uC (ks.map fun k=>(x.lent k).getD 0),List.length_map,List.length_map]
   rw[e3] at hv3
   generalize ehs:(ks.map fun k=>(x.lent k).getD 0)++x.quiet.toList=hs at*
   have hhs:hs.length<=900:=by
    have:x.quiet.toList.length<=1:=by cases x.quiet<;>simp
    rw[<-ehs,List.length_append,List.length_map]
    omega
   refine aX ?_
   refine wJ (K:=K) (ds:=hs.map .int) (fun i=>decide (s.clock x.keeper<=hs.getD i 0)) (fun i=> .int (hs.getD i 0)) (rd_var rfl hv3) (Nat.le_refl _) (by rw[List.length_map];exact hhs) (fun i=>rfl) (fun i d v H' he sm hv=>?_) (fun i d v H' he _ sm hv=>?_) fun v4 H4 hv4 s4=>?_
   ·rw[List.getElem?_map] at he
    obtain⟨y,hy,rfl⟩:=Option.map_eq_some_iff.mp he
    rw[List.getD_eq_getElem?_getD,hy]
    exact ay (yV (rd_var rfl hv) (rd_var rfl (.int _)))
   ·rw[List.getElem?_map] at he
    obtain⟨y,hy,rfl⟩:=Option.map_eq_some_iff.mp he
    rw[List.getD_eq_getElem?_getD,hy]
    exact rd_var rfl hv
   rw[List.length_map,pe hs fun u=>decide (s.clock x.keeper<=u)] at hv4
   walk_at "x"
   have L4:=L3.same s4
   have hd:=held (s.clock x.keeper)
   generalize ehf:hs.filter (fun u=>decide (s.clock x.keeper<=u))=hf at*
   have tst:=ay (uG (K:=K) (rd_var (σ:=[some (.ref (adr .y)),some (.ref (adr (.td n))),some (.int (s.clock x.keeper)),some v4]) (i:=3) rfl hv4) (rd_lst rda_nil (nle rfl)) (eg _) rfl (jY hr (Nat.le_trans (Nat.min_le_left _ _) (dlI _))))
   rw[jE] at tst
   refine aX ?_
   cases hm:iB hf with
   |some m=>
    have hne:hf≠[]:=fun z=>by rw[z] at hm;cases hm
    refine bh (RdT.to tst (by rw[decide_eq_false hne];rfl)) fun H5 s5=>?_
    refine bc (rd_tup (rda_cons rd_str (rda_cons (AJ (K:=K) (rd_var rfl (hv4.same s5.d)) hm) rda_nil)) (nle rfl)) fun v H6 hv s6=>?_
    have ha:attempt p (s.clock x.keeper) x=(.waits m,x):=by simp only[attempt,hw,hd,hm]
    rw[ha] at q
    refine q H6 adr v ?_ rfl hv
    rw[lZ hx]
    exact L4.same (s5.trans s6)
   |none=>
    have hne:hf=[]:=gC.mp hm
    refine aW (RdT.to tst (by rw[decide_eq_true hne];rfl)) fun H5 s5=>?_
    dsimp only[tNext]
    have ha:attempt p (s.clock x.keeper) x=(.changed (x.version+1),A2 x w0):=by simp only[attempt,hw,hd,hm]
    rw[ha] at q
    have L5:=L4.same s5
    clear L L1 L2 L3 L4 tst hd ha
    refine aX ?_
    refine xR (x2:={x with value:=w0}) L5 hx (w:=w0) ?_ (am rfl) (fun a b=>sf _ _ _ _ _ _ _) rfl rfl rfl rfl fun H6 L6=>?_
    ·have:=gQ (t:=tVar 1) (σ:=[some (.ref (adr .y)),some (.ref (adr (.td n))),some (.int (s.clock x.keeper)),some v4]) L5 hx (am rfl)
     rw[hw] at this
     exact fJ (fh (k:=0) this rd_int rfl)
    refine aX ?_
    refine xR (x2:={x with value:=w0,version:=x.version+1}) L6 ai (w:=x.version+1) (fJ (rd_add ((dW L6 ai (am rfl)).rd (.int _)) rd_int)) (am rfl) (fun a b=>oC _ _ _ _ _ _ _) rfl rfl rfl rfl fun H7 L7=>?_
    refine aX ?_
    refine qQ (o:=none) L7 ai jG (am rfl) fun H8 L8=>?_
    refine aX ?_
    refine vo L8 ai (am rfl) fun r H9 L9=>?_
    refine aX ?_
    refine vq (o:=none) L9 ai jG ?_ fun H10 L10=>?_
    ·rw[ao (show Pc.td n≠Pc.ln n from fun y=>nomatch y)]
     exact am rfl
    dsimp only[tNext]
    refine bc (rd_tup (rda_cons rd_str (rda_cons ((dW L10 ai ?_).rd (.int _)) rda_nil)) (nle rfl)) fun v H11 hv s11=>?_
    ·rw[ao (show Pc.td n≠Pc.ln n from fun y=>nomatch y)]
     exact am rfl
    refine q H11 (set1 adr (.ln n) r) v ?_ (ao (show Pc.y≠Pc.ln n from fun y=>nomatch y)) hv
    simp only[oa] at L10
    exact L10.same s11
end
section
variable {P : Program} {w : World} {K : PySem.W.Frag} {mg : Str → Option Value} {base : Heap} {C : Addr}
open Y
variable {c : Cs}
theorem cW:FnScope ["_law_yard","_law_desk","_law_name","_law_thing","_law_had"] ["_law_yard","_law_desk","_law_name"] (defScope (top 45)):=by walk_at "s"
theorem yj{f:Addr}{fd:FuncData}(F:Fun K "_law_given_back" "_law_given_back" (top 45) f fd):FnOk P w K mg base CX0 1 f fd ["_law_yard","_law_desk","_law_name"] oh:=by
 refine F.ok cW (fun vs H Q E h=>?_) (fun cdv A outer s H vs Q E hr h=>?_)
 ·obtain⟨H0,adr,P,p,ns,s,d,n,x,rfl,_⟩:=h
  rfl
 ·obtain⟨H0,adr,P,p,ns,s,d,n,x,rfl,G,hd,hx,q⟩:=h
  have hu:=cx hr
  refine⟨_,(ac (aG (i:=3) cW.nd rfl (Or.inl rfl) (au hu (au hu (pv 0) al (fun _ _=>rfl)) (pv 2) (fun _ _=>rfl))) (ac (aG (i:=4) cW.nd rfl (Or.inl rfl) (ux (yD hu (pv 2) (ax aI (au hu (pv 0) al (fun _ _=>rfl)) (pv 1) (fun _ _=>rfl))))) (ac (aY (gE (ax aI (au hu (pv 0) al (fun _ _=>rfl)) (pv 1) (fun _ _=>rfl)) (pv 2) ae ⟨rfl,rfl,rfl,rfl⟩)) (ac (aH (bg (ax aI (au hu (pv 0) al (fun _ _=>rfl)) (au hu (pv 3) al (fun _ _=>rfl)) (fun _ _=>rfl))) (ah (aY (gE (au hu (pv 3) al (fun _ _=>rfl)) (pv 1) ae ⟨rfl,rfl,rfl,rfl⟩))) av) (ah (ar (pv 4))))))),?_⟩
  simp only[cxOf_K,cxOf_A,L2.start,List.map_cons,List.map_nil,List.length_cons,List.length_nil,Nat.reduceAdd,Nat.reduceSub,List.replicate,List.cons_append,List.nil_append]
  have hkp:=G.L.kp n x hx
  refine aX ?_
  refine dU (mX G.L (am rfl) (G.L.mem hx) (am rfl)) fun H1 s1=>?_
  walk_at "x"
  have L1:=G.L.same s1
  refine aX ?_
  refine dU (CA L1 (am rfl) hd (am rfl) (am rfl)) fun H2 s2=>?_
  walk_at "x"
  have L2:=L1.same s2
  refine aX ?_
  refine xO L2 (am rfl) hd (am rfl) (am rfl) cr fun H3 L3=>?_
  refine aX ?_
  refine jp (iu (lD L3 (am rfl) hkp (cq L3 hx (am rfl)))) (fun H4 hb s4=>?_) fun H4 hb s4=>?_
  ·refine vp (L3.same s4) hx (am rfl) (am rfl) cr fun H5 L5=>?_
   dsimp only[tNext]
   refine kE (am rfl) fun H6 s6=>q H6 adr _ ?_ rfl (.bl _)
   have hb:s.up x.keeper=true:=hb
   simp only[ie,hb,if_true]
   exact L5.same s6
  ·dsimp only[tNext]
   refine kE (am rfl) fun H6 s6=>q H6 adr _ ?_ rfl (.bl _)
   have hb:s.up x.keeper=false:=hb
   simp only[ie,hb,Bool.false_eq_true,if_false]
   exact L3.same (s4.trans s6)
theorem AK{σ:St}{H0:Hp}:Rd1 (tC .non) σ H0 .none:=fun H Q _ q=>q _ H .non (Same.refl H)
theorem fj:FnScope ["_law_yard","_law_desk","_law_name","_law_thing","_law_copy","_law_until"] ["_law_yard","_law_desk","_law_name"] (defScope (top 43)):=by walk_at "s"
theorem yt{f:Addr}{fd:FuncData}(aZ:Def P w K mg base "_law_clock_of" 1 ["_law_yard","_law_desk"] fB)(F:Fun K "_law_read" "_law_read" (top 43) f fd):FnOk P w K mg base CX0 2 f fd ["_law_yard","_law_desk","_law_name"] oq:=by
 refine F.ok fj (fun vs H Q E h=>?_) (fun cdv A outer s H vs Q E hr h=>?_)
 ·obtain⟨H0,adr,P,p,ns,s,d,n,x,rfl,_⟩:=h
  rfl
 ·obtain⟨H0,adr,P,p,ns,s,d,n,x,rfl,G,hd,hx,q⟩:=h
  have hu:=cx hr
  refine⟨_,(ac (aG (i:=3) fj.nd rfl (Or.inl rfl) (au hu (au hu (pv 0) al (fun _ _=>rfl)) (pv 2) (fun _ _=>rfl))) (ac (aH (aB bA (au hu (pv 3) al (fun _ _=>rfl)) (pv 1) (aE _)) (ah (ar (br (aa al (aa (au hu (pv 3) al (fun _ _=>rfl)) (aa (au hu (pv 3) al (fun _ _=>rfl)) af)))))) av) (ac (aG (i:=4) fj.nd rfl (Or.inl rfl) (yG hu (ax aI (au hu (pv 0) al (fun _ _=>rfl)) (pv 1) (fun _ _=>rfl)) (pv 2) (br (aa ae (aa ae (aa gX af)))) ⟨rfl,rfl,rfl,rfl⟩)) (ac (aH (PW.pt (kS (fT (iW (ax aA (pv 4) ae (fun _ _=>rfl)))) (jU (aB pL (aw bM (aL aZ (hr.mono (by omega)) rfl (aa (pv 0) (aa (pv 1) af))) (aw bw ae (ax aA (au hu (pv 0) al (fun _ _=>rfl)) ae (fun _ _=>rfl)))) (ax aA (pv 4) ae (fun _ _=>rfl)) (aE _))))) (ah (ar (br (aa al (aa (ax aA (pv 4) ae (fun _ _=>rfl)) (aa (ax aA (pv 4) ae (fun _ _=>rfl)) af)))))) av) (ac (aH (bZ (bg (ax aI (au hu (pv 0) al (fun _ _=>rfl)) (au hu (pv 3) al (fun _ _=>rfl)) (fun _ _=>rfl)))) (ah (ar al)) av) (ac (aH (aB uv (au hu (pv 3) al (fun _ _=>rfl)) (bi af) (aE _)) (ah (ar al)) av) (ac (aG (i:=5) fj.nd rfl (Or.inl rfl) (aw bM (aL aZ (hr.mono (by omega)) rfl (aa (pv 0) (aa (au hu (pv 3) al (fun _ _=>rfl)) af))) (ax aA (au hu (pv 0) al (fun _ _=>rfl)) ae (fun _ _=>rfl)))) (ac (bB hu (au hu (pv 3) al (fun _ _=>rfl)) (pv 1) (pv 5) rfl) (ac (bB hu (ax aI (au hu (pv 0) al (fun _ _=>rfl)) (pv 1) (fun _ _=>rfl)) (pv 2) (br (aa (au hu (pv 3) al (fun _ _=>rfl)) (aa (au hu (pv 3) al (fun _ _=>rfl)) (aa (pv 5) af)))) rfl) (ah (ar (br (aa al (aa (au hu (pv 3) al (fun _ _=>rfl)) (aa (au hu (pv 3) al (fun _ _=>rfl)) af))))))))))))))),?_⟩
  simp only[cxOf_K,cxOf_A,L2.start,List.map_cons,List.map_nil,List.length_cons,List.length_nil,Nat.reduceAdd,Nat.reduceSub,List.replicate,List.cons_append,List.nil_append]
  have hkp:=G.L.kp n x hx
  refine aX ?_
  refine dU (mX G.L (am rfl) (G.L.mem hx) (am rfl)) fun H1 s1=>?_
  walk_at "x"
  have G1:=G.same s1
  refine aX ?_
  refine jp (b:=decide (x.keeper=d)) (ay (rd_eq ((cq G1.L hx (am rfl)).rd (.int _)) (rd_var rfl (.int _)))) (fun H2 hb s2=>?_) fun H2 hb s2=>?_
  ·have G2:=G1.same s2
   refine bc (rd_tup (rda_cons rd_str (rda_cons ((jO G2.L hx (am rfl)).rd (.int _)) (rda_cons ((dW G2.L hx (am rfl)).rd (.int _)) rda_nil))) (nle rfl)) fun v H3 hv s3=>?_
   simp only[cg,of_decide_eq_true hb,if_true] at q
   exact q H3 adr v (G2.L.same s3) rfl hv
  have hne:¬x.keeper=d:=of_decide_eq_false hb
  simp only[cg,if_neg hne] at q
  dsimp only[tNext]
  have G2:=G1.same s2
  refine aX ?_
  refine BB (ds:=[.int 0,.int 0,.none]) G2.L (am rfl) hd (am rfl) (am rfl) (rd_tup (rda_cons rd_int (rda_cons rd_int (rda_cons AK rda_nil))) (nle rfl)) fun v3 H3 s3 hv3=>?_
  walk_at "x"
  have G3:=G2.same s3
  have tstS:∀y,s.cp d n=some y->RdT _ [some (.ref (adr .y)),some (.int d),some (.str n),some (.ref (adr (.td n))),some v3,none] H3 ((!decide (some y.till=none))&&decide (s.clock d+2*p.bound<=y.till)):=fun y hc=>by
   rw[hc] at hv3
   exact fi (nP (vL (o:=some y.till) (rd_it2 (K:=K) (rd_var (i:=4) rfl hv3)))) fun _=>ay (CT (rd_add ((jP (t:=tVar 0) (tk:=tVar 1) (E:=E) G3.L (am rfl) (am rfl) hd).rd (.int _)) (rd_mul rd_int ((BF (t:=tVar 0) (K:=K) G3 (am rfl)).rd (.int _)) (cmul_2 _))) (rd_it2 (K:=K) (rd_var (i:=4) rfl hv3)))
  cases hf:gk p s d n with
  |some y=>
   obtain⟨hc,ht⟩:s.cp d n=some y/\s.clock d+2*p.bound<=y.till:=by
    unfold gk at hf
    cases hc:s.cp d n with
    |none=>rw[hc] at hf;cases hf
    |some z=>
     rw[hc] at hf
     dsimp only at hf
     split at hf
     ·cases hf;exact⟨rfl,by assumption⟩
     ·cases hf
   refine aX ?_
   refine bh (RdT.to (tstS y hc) (by simp[ht])) fun H4 s4=>?_
   rw[hc] at hv3
   have hv4:=hv3.same s4.d
   refine bc (rd_tup (rda_cons rd_str (rda_cons (rd_it0 (rd_var rfl hv4)) (rda_cons (rd_it1 (rd_var rfl hv4)) rda_nil))) (nle rfl)) fun v H5 hv s5=>?_
   rw[hf] at q
   exact q H5 adr v (G3.L.same (s4.trans s5)) rfl hv
  |none=>
   rw[hf] at q
   dsimp only at q
   refine iP (fun D' nx _=>?_) fun H4 s4=>?_
   ·cases hc:s.cp d n with
    |none=>
     rw[hc] at hv3
     exact aW (RdT.to (fi (b:=false) (nP (vL (o:=none) (rd_it2 (rd_var rfl hv3)))) fun z=>absurd z (by simp)) (by simp)) nx
    |some y=>
     have ht:¬s.clock d+2*p.bound<=y.till:=fun z=>by simp[gk,hc,z] at hf
     exact aW (RdT.to (tstS y hc) (by simp[ht])) nx
   have G4:=G3.same s4
   clear tstS hv3
   refine aX ?_
   refine jp (dC (iu (lD G4.L (am rfl) hkp (cq G4.L hx (am rfl))))) (fun H5 hb s5=>?_) fun H5 hb s5=>?_
   ·have hb:s.up x.keeper=false:=by simpa using hb
    rw[hb] at q
    exact bc rd_str fun v H6 hv s6=>q H6 adr v (G4.L.same (s5.trans s6)) rfl hv
   have hb:s.up x.keeper=true:=by simpa using hb
   rw[hb,if_pos rfl] at q
   dsimp only[tNext]
   have G5:=G4.same s5
   have tst:=ay (uG (K:=K) (gQ (t:=tVar 3) (σ:=[some (.ref (adr .y)),some (.int d),some (.str n),some (.ref (adr (.td n))),some v3,none]) G5.L hx (am rfl)) (rd_lst rda_nil (nle rfl)) (eg _) rfl (jY hr (Nat.le_trans (Nat.min_le_left _ _) (dlI _))))
   rw[jE] at tst
   refine aX ?_
   cases hw:x.waiting with
   |some w0=>
    rw[hw] at tst q
    exact bh tst fun H6 s6=>bc rd_str fun v H7 hv s7=>q H7 adr v (G5.L.same (s6.trans s7)) rfl hv
   |none=>
    rw[hw] at tst q
    refine aW tst fun H6 s6=>?_
    dsimp only[tNext]
    have G6:=G5.same s6
    refine aX ?_
    refine dU (fJ (rd_add ((jP G6.L (am rfl) (cq G6.L hx (am rfl)) hkp).rd (.int _)) ((CB G6 (am rfl)).rd (.int _)))) fun H7 s7=>?_
    walk_at "x"
    have G7:=G6.same s7
    refine aX ?_
    refine Aa G7.L G7.hp hx (am rfl) (am rfl) (am rfl) hd fun H8 L8=>?_
    refine aX ?_
    refine BC (x:=⟨x.value,x.version,s.clock x.keeper+p.length⟩) L8 G.hn (G.L.mem hx) (am rfl) hd (am rfl) (am rfl) (jO (x:={x with lent:=set1 x.lent d (some (s.clock x.keeper+p.length))}) L8 ai (am rfl)) (dW (x:={x with lent:=set1 x.lent d (some (s.clock x.keeper+p.length))}) L8 ai (am rfl)) (am rfl) fun H9 L9=>?_
    dsimp only[tNext]
    refine bc (rd_tup (rda_cons rd_str (rda_cons ((jO L9 ai (am rfl)).rd (.int _)) (rda_cons ((dW L9 ai (am rfl)).rd (.int _)) rda_nil))) (nle rfl)) fun v H10 hv s10=>?_
    have L10:=L9.same s10
    simp only[hw] at L10
    exact q H10 adr v L10 rfl hv
theorem ij:FnScope ["_law_yard","_law_desk","_law_name","_law_value","_law_thing"] ["_law_yard","_law_desk","_law_name","_law_value"] (defScope (top 44)):=by walk_at "s"
theorem um{f:Addr}{fd:FuncData}(bL:Def P w K mg base "_law_attempted" 2 ["_law_yard","_law_thing"] ma)(F:Fun K "_law_changed" "_law_changed" (top 44) f fd):FnOk P w K mg base CX0 3 f fd ["_law_yard","_law_desk","_law_name","_law_value"] ju:=by
 refine F.ok ij (fun vs H Q E h=>?_) (fun cdv A outer s H vs Q E hr h=>?_)
 ·obtain⟨H0,adr,P,p,ns,s,d,n,v,x,rfl,_⟩:=h
  rfl
 ·obtain⟨H0,adr,P,p,ns,s,d,n,v,x,rfl,G,hd,hx,q⟩:=h
  have hu:=cx hr
  refine⟨_,(ac (aG (i:=4) ij.nd rfl (Or.inl rfl) (au hu (au hu (pv 0) al (fun _ _=>rfl)) (pv 2) (fun _ _=>rfl))) (ac (aH (bZ (bg (ax aI (au hu (pv 0) al (fun _ _=>rfl)) (au hu (pv 4) al (fun _ _=>rfl)) (fun _ _=>rfl)))) (ah (ar al)) av) (ac (aY (gE (ax aI (au hu (pv 0) al (fun _ _=>rfl)) (pv 1) (fun _ _=>rfl)) (pv 2) ae ⟨rfl,rfl,rfl,rfl⟩)) (ac (aY (gE (au hu (pv 4) al (fun _ _=>rfl)) (pv 1) ae ⟨rfl,rfl,rfl,rfl⟩)) (ac (aH (aB uv (au hu (pv 4) al (fun _ _=>rfl)) (bi af) (aE _)) (ah (ar al)) av) (ac (bB hu (pv 4) al (bi (aa (pv 3) af)) rfl) (ah (ar (aL bL (hr.mono (by omega)) rfl (aa (pv 0) (aa (pv 4) af))))))))))),?_⟩
  simp only[cxOf_K,cxOf_A,L2.start,List.map_cons,List.map_nil,List.length_cons,List.length_nil,Nat.reduceAdd,Nat.reduceSub,List.replicate,List.cons_append,List.nil_append]
  have hkp:=G.L.kp n x hx
  refine aX ?_
  refine dU (mX G.L (am rfl) (G.L.mem hx) (am rfl)) fun H1 s1=>?_
  walk_at "x"
  have G1:=G.same s1
  refine aX ?_
  refine jp (dC (iu (lD G1.L (am rfl) hkp (cq G1.L hx (am rfl))))) (fun H2 hb s2=>?_) fun H2 hb s2=>?_
  ·have hb:s.up x.keeper=false:=by simpa using hb
   simp only[bQ,hb,Bool.false_eq_true,if_false] at q
   exact bc rd_str fun v H3 hv s3=>q H3 adr v (G1.L.same (s2.trans s3)) rfl hv
  have hb:s.up x.keeper=true:=by simpa using hb
  simp only[bQ,hb,if_true] at q
  dsimp only[tNext]
  have G2:=G1.same s2
  refine aX ?_
  refine xO G2.L (am rfl) hd (am rfl) (am rfl) cr fun H3 L3=>?_
  refine aX ?_
  refine vp L3 hx (am rfl) (am rfl) cr fun H4 L4=>?_
  have tst:=ay (uG (K:=K) (gQ (t:=tVar 4) (σ:=[some (.ref (adr .y)),some (.int d),some (.str n),some (.int v),some (.ref (adr (.td n)))]) L4 ai (am rfl)) (rd_lst rda_nil (nle rfl)) (eg _) rfl (jY hr (Nat.le_trans (Nat.min_le_left _ _) (dlI _))))
  rw[jE] at tst
  refine aX ?_
  cases hw:x.waiting with
  |some w0=>
   simp only[hw] at tst q
   simp only[hw] at L4
   exact bh tst fun H5 s5=>bc rd_str fun v H6 hv s6=>q H6 adr v (L4.same (s5.trans s6)) rfl hv
  |none=>
   simp only[hw] at tst q
   refine aW tst fun H5 s5=>?_
   dsimp only[tNext]
   refine aX ?_
   refine qQ (o:=some v) (L4.same s5) ai (vb (am rfl)) (am rfl) fun H6 L6=>?_
   dsimp only[tNext]
   refine⟨_,rfl,_,rfl,H0,adr,P,p,ns,_,n,_,rfl,L6,G.hp,ai,?_⟩
   intro H9 adr9 v9 L9 e9 h9
   refine q H9 adr9 v9 ?_ e9 h9
   simp only[oa] at L9
   exact L9
end
section
variable {P : Program} {w : World} {K : PySem.W.Frag} {mg : Str → Option Value} {base : Heap} {C : Addr}
open Y
variable {c : Cs}
theorem cy:FnScope ["_law_yard","_law_word","_law_desk","_law_was","_law_name","_law_thing","_law_clock"] ["_law_yard","_law_word","_law_desk"] (defScope (top 46)):=by walk_at "s"
theorem yy{f:Addr}{fd:FuncData}(ce:mg "list"=none)(aZ:Def P w K mg base "_law_clock_of" 1 ["_law_yard","_law_desk"] fB)(F:Fun K "_law_turned" "_law_turned" (top 46) f fd):FnOk P w K mg base CX0 2 f fd ["_law_yard","_law_word","_law_desk"] ow:=by
 refine F.ok cy (fun vs H Q E h=>?_) (fun cdv A outer s H vs Q E hr h=>?_)
 ·obtain⟨H0,adr,P,p,ns,s,d,w,δ,rfl,_⟩:=h
  rfl
 ·obtain⟨H0,adr,P,p,ns,s,d,w,δ,rfl,G,hd,hD,hw,q⟩:=h
  have hu:=cx hr
  refine⟨_,(ac (aG (i:=3) cy.nd rfl (Or.inl rfl) (ax aI (au hu (pv 0) al (fun _ _=>rfl)) (pv 2) (fun _ _=>rfl))) (ac (uB (dB bA (pv 1) al (aE _)) (uz (au hu (pv 0) al (fun _ _=>rfl)) (pv 2) set_list)) (ac (cG PassesOwn.never rfl (bW (gD (ik rfl) rfl ce (by decide+kernel) (aa (au hu (pv 0) al (fun _ _=>rfl)) af))) (aV (i:=4) cy.nd rfl (Or.inl rfl)) (ac (aG (i:=5) cy.nd rfl (Or.inl rfl) (au hu (au hu (pv 0) al (fun _ _=>rfl)) (pv 4) (fun _ _=>rfl))) (ac (aH (PW.pt (kS (aB bA (pv 1) al (aE _)) (jU (aB bA (au hu (pv 5) al (fun _ _=>rfl)) (pv 2) (aE _))))) (ac (bB hu (pv 5) al ck rfl) (ah (bB hu (pv 5) al (bi af) rfl))) av) (ah (aH (PW.pt (kS (aB bA (pv 1) al (aE _)) (kS (aB bA (au hu (pv 5) al (fun _ _=>rfl)) (pv 2) (aE _)) (jU (bZ (bg (pv 3))))))) (ac (aG (i:=6) cy.nd rfl (Or.inl rfl) (aL aZ (hr.mono (by omega)) rfl (aa (pv 0) (aa (pv 2) af)))) (ah (bB hu (pv 5) al (bi (aa (aw bM (aw bM (pv 6) (ax aA (au hu (pv 0) al (fun _ _=>rfl)) ae (fun _ _=>rfl))) (aw bw ae (ax aA (au hu (pv 0) al (fun _ _=>rfl)) ae (fun _ _=>rfl)))) af)) rfl))) av))))) (ac (aH (aB bA (pv 1) al (aE _)) (ac (uB ck (uz (au hu (pv 0) al (fun _ _=>rfl)) (pv 2) set_list)) (ah (ar (pv 3)))) av) (ah (ar (uy (pv 3)))))))),?_⟩
  simp only[cxOf_K,cxOf_A,L2.start,List.map_cons,List.map_nil,List.length_cons,List.length_nil,Nat.reduceAdd,Nat.reduceSub,List.replicate,List.cons_append,List.nil_append]
  have hn:=G.L.dom
  have nd:=G.L.nd
  refine aX ?_
  refine dU (lD G.L (am rfl) hd (am rfl)) fun H1 s1=>?_
  walk_at "x"
  have G1:=G.same s1
  refine aX ?_
  refine BG G1.L (am rfl) hd (am rfl) (yU (rd_eqS (rd_var rfl (.str _)) rd_str) rfl) fun H2 L2=>?_
  dsimp only[tNext]
  have ws:Str.ofString "wake"≠Str.ofString "stop":=by decide+kernel
  rcases hw with ⟨rfl,rfl⟩ |⟨rfl,rfl⟩
  ·rw[show decide (Str.ofString "stop"=Str.ofString "wake")=false from decide_eq_false ws.symm] at L2
   rw[zj hD hd hn] at q
   refine aX ?_
   refine sA L2 (am rfl) (fun H1 i σ' H'=>∃adr' x4 x5 x6,σ'=[some (.ref (adr .y)),some (.str (Str.ofString "stop")),some (.int d),some (.bl (s.up d)),x4,x5,x6]/\adr' .y=adr .y/\Lw H1 H' adr' P p ns (walk {s with up:=set1 s.up d false} ns (pE d) i)) (fun H1 i σ' H' h=>?_) (fun H1 H' k L=>⟨adr,none,none,none,rfl,rfl,by rw[pY];exact L⟩) ?_ ?_
   ·obtain⟨adr',x4,x5,x6,_,_,L⟩:=h
    exact L.all
   ·rintro H3 i n σ' H4 D' hin ⟨adr',x4,x5,x6,rfl,ey,L⟩ _ nx
    obtain⟨t0,ht0⟩:=Option.isSome_iff_exists.mp ((hn n).mp (List.mem_of_getElem? hin))
    obtain⟨e1,e2⟩:=walk_at (s:={s with up:=set1 s.up d false}) (g:=pE d) nd hin ht0
    walk_at "x"
    rw[<-ey]
    refine aX ?_
    refine dU (mX L (am rfl) (List.mem_of_getElem? hin) (am rfl)) fun H5 s5=>?_
    walk_at "x"
    have L5:=L.same s5
    refine vG (fun σ' H'=>∃adr2,σ'=[some (.ref (adr' .y)),some (.str (Str.ofString "stop")),some (.int d),some (.bl (s.up d)),some (.str n),some (.ref (adr' (.td n))),x6]/\adr2 .y=adr' .y/\Lw H3 H' adr2 P p ns (walk {s with up:=set1 s.up d false} ns (pE d) (i+1))) (fun D2 nx2 _=>?_) ?_
    ·refine jp (RdT.to (fi (ay (rd_eqS (rd_var rfl (.str _)) rd_str)) fun _=>ay (rd_eq ((cq L5 e1 (am rfl)).rd (.int _)) (rd_var rfl (.int _)))) (b:=decide (t0.keeper=d)) (by simp)) (fun H6 hb s6=>?_) fun H6 hb s6=>?_
     ·have hb:t0.keeper=d:=of_decide_eq_true hb
      have L6:=L5.same s6
      refine aX ?_
      refine vo L6 e1 (am rfl) fun r H7 L7=>?_
      dsimp only[tNext]
      refine qQ (o:=none) L7 ai jG ?_ fun H8 L8=>nx2 _ _ ⟨set1 adr' (.ln n) r,rfl,?_,?_⟩
      ·rw[ao (show Pc.td n≠Pc.ln n from fun y=>nomatch y)];exact am rfl
      ·exact ao (show Pc.y≠Pc.ln n from fun y=>nomatch y)
      ·rw[e2,pE,if_pos hb]
       simp only[oa] at L8
       exact L8
     ·have hb:¬t0.keeper=d:=of_decide_eq_false hb
      refine nx2 _ _ ⟨adr',rfl,rfl,?_⟩
      rw[e2,pE,if_neg hb,lZ e1]
      exact L5.same s6
    rintro σ2 H6 ⟨adr2,rfl,ey2,L6⟩
    refine aW (RdT.to (fi (b:=false) (ay (rd_eqS (rd_var rfl (.str _)) rd_str)) fun z=>absurd (of_decide_eq_true z) ws.symm) (by simp)) fun H7 s7=>nx _ _ ⟨adr2,some (.str n),some (.ref (adr' (.td n))),x6,by rw[ey],by rw[ey2,ey],L6.same s7⟩
   ·rintro H3 σ' H4 k3 ⟨adr',x4,x5,x6,rfl,ey,L⟩
    dsimp only[tNext]
    have L4:=L.less k3
    rw[<-ey]
    refine aX ?_
    refine bh (RdT.to (ay (rd_eqS (rd_var rfl (.str _)) rd_str)) (by simp)) fun H5 s5=>?_
    refine aX ?_
    refine zZ (L4.same s5) (am rfl) hd (am rfl) fun H6 adr6 e6 L6=>?_
    dsimp only[tNext]
    refine kE (am rfl) fun H7 s7=>q H7 adr6 _ (L6.same s7) (e6.trans ey) (.bl _)
  ·rw[show decide (Str.ofString "wake"=Str.ofString "wake")=true from decide_eq_true rfl] at L2
   rw[zp hd hn] at q
   refine aX ?_
   refine sA L2 (am rfl) (fun H1 i σ' H'=>∃adr' x4 x5 x6,σ'=[some (.ref (adr .y)),some (.str (Str.ofString "wake")),some (.int d),some (.bl (s.up d)),x4,x5,x6]/\adr' .y=adr .y/\H1 P=some (.tup [.int p.count,.int p.length,.int p.bound])/\Lw H1 H' adr' P p ns (walk {s with up:=set1 s.up d true} ns (jI d (s.clock d+p.length+2*p.bound) (s.up d)) i)) (fun H1 i σ' H' h=>?_) (fun H1 H' k L=>⟨adr,none,none,none,rfl,rfl,k _ _ G.hP,by rw[pY];exact L⟩) ?_ ?_
   ·obtain⟨adr',x4,x5,x6,_,_,_,L⟩:=h
    exact L.all
   ·rintro H3 i n σ' H4 D' hin ⟨adr',x4,x5,x6,rfl,ey,hP3,L⟩ _ nx
    obtain⟨t0,ht0⟩:=Option.isSome_iff_exists.mp ((hn n).mp (List.mem_of_getElem? hin))
    obtain⟨e1,e2⟩:=walk_at (s:={s with up:=set1 s.up d true}) (g:=jI d (s.clock d+p.length+2*p.bound) (s.up d)) nd hin ht0
    walk_at "x"
    rw[<-ey]
    refine aX ?_
    refine dU (mX L (am rfl) (List.mem_of_getElem? hin) (am rfl)) fun H5 s5=>?_
    walk_at "x"
    have L5:=L.same s5
    refine iP (fun D2 nx2 _=>aW (RdT.to (fi (b:=false) (ay (rd_eqS (rd_var rfl (.str _)) rd_str)) fun z=>absurd (of_decide_eq_true z) ws) (by simp)) nx2) fun H6 s6=>?_
    have L6:=L5.same s6
    refine jp (RdT.to (fi (ay (rd_eqS (rd_var rfl (.str _)) rd_str)) fun _=>fi (ay (rd_eq ((cq L6 e1 (am rfl)).rd (.int _)) (rd_var rfl (.int _)))) fun _=>dC (nP (rd_var rfl (.bl _)))) (b:=decide (t0.keeper=d/\s.up d=false)) (by simp)) (fun H7 hb s7=>?_) fun H7 hb s7=>?_
    ·have hb:t0.keeper=d/\s.up d=false:=of_decide_eq_true hb
     have G7:Yl H7 adr' H3 P p ns _:=⟨L6.same s7,G.hp,G.hn,hP3⟩
     refine aX ?_
     refine dU (jP G7.L (am rfl) (am rfl) hd) fun H8 s8=>?_
     walk_at "x"
     have G8:=G7.same s8
     refine vq (o:=some (s.clock d+p.length+2*p.bound)) G8.L e1 (vb (fJ (rd_add (rd_add (rd_var rfl (.int _)) ((CB G8 (am rfl)).rd (.int _))) (rd_mul rd_int ((BF G8 (am rfl)).rd (.int _)) (cmul_2 _))))) (am rfl) fun H9 L9=>nx _ _ ⟨adr',some (.str n),some (.ref (adr' (.td n))),some (.int (s.clock d)),by rw[ey];rfl,ey,hP3,?_⟩
     rw[e2,jI,if_pos hb]
     exact L9
    ·have hb:¬(t0.keeper=d/\s.up d=false):=of_decide_eq_false hb
     refine nx _ _ ⟨adr',some (.str n),some (.ref (adr' (.td n))),x6,by rw[ey],ey,hP3,?_⟩
     rw[e2,jI,if_neg hb,lZ e1]
     exact L6.same s7
   ·rintro H3 σ' H4 k3 ⟨adr',x4,x5,x6,rfl,ey,_,L⟩
    dsimp only[tNext]
    have L4:=L.less k3
    rw[<-ey]
    refine iP (fun D2 nx2 _=>aW (RdT.to (ay (rd_eqS (rd_var rfl (.str _)) rd_str)) (decide_eq_false ws)) nx2) fun H5 s5=>?_
    refine bc (d:= .bool (!s.up d)) ?_ fun v H6 hv s6=>q H6 adr' v (L4.same (s5.trans s6)) ey hv
    exact AL (rd_var rfl (.bl _))
end
section
variable {P : Program} {w : World} {K : PySem.W.Frag} {mg : Str → Option Value} {base : Heap} {C : Addr}
open Y
variable {c : Cs}
theorem AZ(δ:Deed Str):be δ= .tuple (.str (cE δ)::Bf δ):=by cases δ<;>rfl
def oy:Sp:=fun vs H Q _=>∃(H0:Hp) (adr:Pc->Addr) (P:Addr) (p:Pl) (ns:List Str) (s:Y.S Str) (v:V) (δ:Deed Str),vs=[.ref (adr .y),v]/\Yl H adr H0 P p ns s/\Dh H v (be δ)/\((∃d n,isDesk p d=true/\(δ= .read d n∨(∃v,δ= .change d n v)∨δ= .back d n))∨∃n,δ= .tries n)/\tF H0 adr P p ns (Y.step p s δ) Q
def rN:Sp:=fun vs H Q _=>∃(H0:Hp) (adr:Pc->Addr) (P:Addr) (p:Pl) (ns:List Str) (s:Y.S Str) (v:V) (δ:Deed Str),vs=[.ref (adr .y),v]/\Yl H adr H0 P p ns s/\Down5 s/\Dh H v (be δ)/\tF H0 adr P p ns (Y.step p s δ) Q
theorem fW:FnScope ["_law_yard","_law_deed","_law_thing"] ["_law_yard","_law_deed"] (defScope (top 47)):=by walk_at "s"
theorem yz{f:Addr}{fd:FuncData}(bL:Def P w K mg base "_law_attempted" 2 ["_law_yard","_law_thing"] ma)(io:Def P w K mg base "_law_read" 2 ["_law_yard","_law_desk","_law_name"] oq)(fE:Def P w K mg base "_law_changed" 3 ["_law_yard","_law_desk","_law_name","_law_value"] ju)(dk:Def P w K mg base "_law_given_back" 1 ["_law_yard","_law_desk","_law_name"] oh)
  (F:Fun K "_law_with_thing" "_law_with_thing" (top 47) f fd):FnOk P w K mg base CX0 4 f fd ["_law_yard","_law_deed"] oy:=by
 refine F.ok fW (fun vs H Q E h=>?_) (fun cdv A outer s H vs Q E hr h=>?_)
 ·obtain⟨H0,adr,P,p,ns,s,v,δ,rfl,_⟩:=h
  rfl
 ·obtain⟨H0,adr,P,p,ns,s,v,δ,rfl,G,hv,hδ,q⟩:=h
  have hu:=cx hr
  refine⟨_,(ac (aH (aB bA (ax aA (pv 1) ae (fun _ _=>rfl)) al (aE _)) (ac (aH (fT (kQ hu (ax aA (pv 1) ae (fun _ _=>rfl)) (au hu (pv 0) al (fun _ _=>rfl)))) (ah (ar al)) av) (ac (aG (i:=2) fW.nd rfl (Or.inl rfl) (au hu (au hu (pv 0) al (fun _ _=>rfl)) (ax aA (pv 1) ae (fun _ _=>rfl)) (fun _ _=>rfl))) (ac (aH (bZ (bg (ax aI (au hu (pv 0) al (fun _ _=>rfl)) (au hu (pv 2) al (fun _ _=>rfl)) (fun _ _=>rfl)))) (ah (ar al)) av) (ah (ar (aL bL (hr.mono (by omega)) rfl (aa (pv 0) (aa (pv 2) af)))))))) av) (ac (aH (fT (kQ hu (ax aA (pv 1) ae (fun _ _=>rfl)) (au hu (pv 0) al (fun _ _=>rfl)))) (ah (ar al)) av) (ac (aH (bZ (bg (ax aI (au hu (pv 0) al (fun _ _=>rfl)) (ax aA (pv 1) ae (fun _ _=>rfl)) (fun _ _=>rfl)))) (ah (ar al)) av) (ac (aH (aB bA (ax aA (pv 1) ae (fun _ _=>rfl)) al (aE _)) (ah (ar (aL io (hr.mono (by omega)) rfl (aa (pv 0) (aa (ax aA (pv 1) ae (fun _ _=>rfl)) (aa (ax aA (pv 1) ae (fun _ _=>rfl)) af)))))) av) (ac (aH (aB bA (ax aA (pv 1) ae (fun _ _=>rfl)) al (aE _)) (ah (ar (aL fE (hr.mono (by omega)) rfl (aa (pv 0) (aa (ax aA (pv 1) ae (fun _ _=>rfl)) (aa (ax aA (pv 1) ae (fun _ _=>rfl)) (aa (ax aA (pv 1) ae (fun _ _=>rfl)) af))))))) av) (ah (ar (aL dk (hr.mono (by omega)) rfl (aa (pv 0) (aa (ax aA (pv 1) ae (fun _ _=>rfl)) (aa (ax aA (pv 1) ae (fun _ _=>rfl)) af))))))))))),?_⟩
  simp only[cxOf_K,cxOf_A,L2.start,List.map_cons,List.map_nil,List.length_cons,List.length_nil,Nat.reduceAdd,Nat.reduceSub,List.replicate,List.cons_append,List.nil_append]
  rw[AZ] at hv
  have w0:∀{H':Hp} {x2:Option V},Same H H'->Rd1 (tOp (eF K) (tVar 1) (tC (.int 0))) [some (.ref (adr .y)),some v,x2] H' (.str (cE δ)):=fun sm=>rd_it0 (rd_var rfl (hv.same sm.d))
  rcases hδ with ⟨d,n,hd,hδ⟩ |⟨n,rfl⟩
  ·have hn2:∀{H':Hp} {x2:Option V},Same H H'->Ev (tOp (eF K) (tVar 1) (tC (.int 2))) [some (.ref (adr .y)),some v,x2] H' (.str n):=fun sm=>by
    rcases hδ with rfl |⟨y,rfl⟩ |rfl<;>exact tU (rd_it2 (rd_var rfl (hv.same sm.d)))
   have hd1:∀{H':Hp} {x2:Option V},Same H H'->Ev (tOp (eF K) (tVar 1) (tC (.int 1))) [some (.ref (adr .y)),some v,x2] H' (.int d):=fun sm=>by
    rcases hδ with rfl |⟨y,rfl⟩ |rfl<;>exact fJ (rd_it1 (rd_var rfl (hv.same sm.d)))
   have hnt:cE δ≠Str.ofString "try":=by
    rcases hδ with rfl |⟨y,rfl⟩ |rfl<;>(simp only[cE];decide+kernel)
   refine iP (fun D' nx _=>aW (RdT.to (ay (rd_eqS (w0 (Same.refl H)) rd_str)) (decide_eq_false hnt)) nx) fun H1 s1=>?_
   have G1:=G.same s1
   refine aX ?_
   cases ht:s.th n with
   |none=>
    refine bh (RdT.to (iu (jQ G1.L (am rfl) (hn2 s1))) (by rw[ht];rfl)) fun H2 s2=>?_
    have e:Y.step p s δ=(.noThing,s):=by
     rcases hδ with rfl |⟨y,rfl⟩ |rfl<;>simp only[Y.step,named,hd,if_true,ht]
    rw[e] at q
    exact bc rd_str fun v H3 hv s3=>q H3 adr v (G1.L.same (s2.trans s3)) rfl hv
   |some x=>
    refine aW (RdT.to (iu (jQ G1.L (am rfl) (hn2 s1))) (by rw[ht];rfl)) fun H2 s2=>?_
    dsimp only[tNext]
    have G2:=G1.same s2
    have s02:=s1.trans s2
    refine aX ?_
    cases hup:s.up d with
    |false=>
     refine bh (RdT.to (dC (iu (lD G2.L (am rfl) hd (hd1 s02)))) (by rw[hup];rfl)) fun H3 s3=>?_
     have e:Y.step p s δ=(.stopped,s):=by
      rcases hδ with rfl |⟨y,rfl⟩ |rfl<;>simp only[Y.step,named,hd,if_true,ht,hup,Bool.false_eq_true,if_false]
     rw[e] at q
     exact bc rd_str fun v H3 hv s4=>q H3 adr v (G2.L.same (s3.trans s4)) rfl hv
    |true=>
     refine aW (RdT.to (dC (iu (lD G2.L (am rfl) hd (hd1 s02)))) (by rw[hup];rfl)) fun H3 s3=>?_
     dsimp only[tNext]
     have G3:=G2.same s3
     have s03:=s02.trans s3
     refine aX ?_
     rcases hδ with rfl |⟨y,rfl⟩ |rfl
     ·have e:Y.step p s (.read d n)=cg p s d n x:=by simp only[Y.step,named,hd,if_true,ht,hup]
      rw[e] at q
      refine bh (RdT.to (ay (rd_eqS (w0 s03) rd_str)) (decide_eq_true rfl)) fun H4 s4=>?_
      exact kU (am rfl) (hd1 (s03.trans s4)) (hn2 (s03.trans s4)) fun H5 s5=>⟨H0,adr,P,p,ns,s,d,n,x,rfl,G3.same (s4.trans s5),hd,ht,q⟩
     ·have e:Y.step p s (.change d n y)=bQ p s d n y x:=by simp only[Y.step,named,hd,if_true,ht,hup]
      rw[e] at q
      refine aW (RdT.to (ay (rd_eqS (w0 s03) rd_str)) (decide_eq_false (by simp only[cE];decide+kernel))) fun H4 s4=>?_
      dsimp only[tNext]
      refine aX ?_
      refine bh (RdT.to (ay (rd_eqS (w0 (s03.trans s4)) rd_str)) (decide_eq_true rfl)) fun H5 s5=>?_
      have s05:=s03.trans (s4.trans s5)
      exact wM (am rfl) (hd1 s05) (hn2 s05) (fJ (rd_it3 (rd_var rfl (hv.same s05.d)))) fun H6 s6=>⟨H0,adr,P,p,ns,s,d,n,y,x,rfl,G3.same (s4.trans (s5.trans s6)),hd,ht,q⟩
     ·have e:Y.step p s (.back d n)=ie s d n x:=by simp only[Y.step,named,hd,if_true,ht,hup]
      rw[e] at q
      refine aW (RdT.to (ay (rd_eqS (w0 s03) rd_str)) (decide_eq_false (by simp only[cE];decide+kernel))) fun H4 s4=>?_
      dsimp only[tNext]
      refine aX ?_
      refine aW (RdT.to (ay (rd_eqS (w0 (s03.trans s4)) rd_str)) (decide_eq_false (by simp only[cE];decide+kernel))) fun H5 s5=>?_
      dsimp only[tNext]
      have s05:=s03.trans (s4.trans s5)
      exact kU (am rfl) (hd1 s05) (hn2 s05) fun H6 s6=>⟨H0,adr,P,p,ns,s,d,n,x,rfl,G3.same (s4.trans (s5.trans s6)),hd,ht,q⟩
  ·have hn1:∀{H':Hp} {x2:Option V},Same H H'->Ev (tOp (eF K) (tVar 1) (tC (.int 1))) [some (.ref (adr .y)),some v,x2] H' (.str n):=fun sm=>tU (rd_it1 (rd_var rfl (hv.same sm.d)))
   refine aX ?_
   refine bh (RdT.to (ay (rd_eqS (w0 (Same.refl H)) rd_str)) (decide_eq_true rfl)) fun H1 s1=>?_
   have G1:=G.same s1
   refine aX ?_
   cases ht:s.th n with
   |none=>
    refine bh (RdT.to (iu (jQ G1.L (am rfl) (hn1 s1))) (by rw[ht];rfl)) fun H2 s2=>?_
    have e:Y.step p s (.tries n)=(.noThing,s):=by simp only[Y.step,ht]
    rw[e] at q
    exact bc rd_str fun v H3 hv s3=>q H3 adr v (G1.L.same (s2.trans s3)) rfl hv
   |some x=>
    refine aW (RdT.to (iu (jQ G1.L (am rfl) (hn1 s1))) (by rw[ht];rfl)) fun H2 s2=>?_
    dsimp only[tNext]
    have G2:=G1.same s2
    refine aX ?_
    refine dU (mX G2.L (am rfl) (G2.L.mem ht) (hn1 (s1.trans s2))) fun H3 s3=>?_
    walk_at "x"
    have G3:=G2.same s3
    have hkp:=G3.L.kp n x ht
    refine aX ?_
    cases hup:s.up x.keeper with
    |false=>
     refine bh (RdT.to (dC (iu (lD G3.L (am rfl) hkp (cq G3.L ht (am rfl))))) (by rw[hup];rfl)) fun H4 s4=>?_
     have e:Y.step p s (.tries n)=(.noAnswer,s):=by simp only[Y.step,ht,hup,Bool.false_eq_true,if_false]
     rw[e] at q
     exact bc rd_str fun v H5 hv s5=>q H5 adr v (G3.L.same (s4.trans s5)) rfl hv
    |true=>
     refine aW (RdT.to (dC (iu (lD G3.L (am rfl) hkp (cq G3.L ht (am rfl))))) (by rw[hup];rfl)) fun H4 s4=>?_
     dsimp only[tNext]
     have e:Y.step p s (.tries n)=((attempt p (s.clock x.keeper) x).1,{s with th:=set1 s.th n (some (attempt p (s.clock x.keeper) x).2)}):=by simp only[Y.step,ht,hup,if_true]
     rw[e] at q
     exact kT (am rfl) (am rfl) fun H5 s5=>⟨H0,adr,P,p,ns,s,n,x,rfl,G3.L.same (s4.trans s5),G.hp,ht,q⟩
end
section
variable {P : Program} {w : World} {K : PySem.W.Frag} {mg : Str → Option Value} {base : Heap} {C : Addr}
open Y
variable {c : Cs}
theorem sW:FnScope ["_law_yard","_law_deed"] ["_law_yard","_law_deed"] (defScope (top 48)):=by walk_at "s"
theorem Aj{f:Addr}{fd:FuncData}(BI:mg "abs"=none)(gi:Def P w K mg base "_law_turned" 2 ["_law_yard","_law_word","_law_desk"] ow)(dm:Def P w K mg base "_law_with_thing" 4 ["_law_yard","_law_deed"] oy)
  (F:Fun K "_law_due" "_law_due" (top 48) f fd):FnOk P w K mg base CX0 5 f fd ["_law_yard","_law_deed"] rN:=by
 refine F.ok sW (fun vs H Q E h=>?_) (fun cdv A outer s H vs Q E hr h=>?_)
 ·obtain⟨H0,adr,P,p,ns,s,v,δ,rfl,_⟩:=h
  rfl
 ·obtain⟨H0,adr,P,p,ns,s,v,δ,rfl,G,hD,hv,q⟩:=h
  have hu:=cx hr
  refine⟨_,(ac (aH (aB bA (ax aA (pv 1) ae (fun _ _=>rfl)) al (aE _)) (ac (bB hu (pv 0) al (aw bM (au hu (pv 0) al (fun _ _=>rfl)) (ax aA (pv 1) ae (fun _ _=>rfl))) rfl) (ah (ar (au hu (pv 0) al (fun _ _=>rfl))))) av) (ac (aH (PW.pt (kS (aB pM (ax aA (pv 1) ae (fun _ _=>rfl)) al (aE _)) (jU (PW.pt (jV (aB lE (ax aA (pv 1) ae (fun _ _=>rfl)) ae (aE _)) (jo (aB Bb (ax aA (pv 1) ae (fun _ _=>rfl)) (ax aA (au hu (pv 0) al (fun _ _=>rfl)) ae (fun _ _=>rfl)) (aE _)))))))) (ah (ar al)) av) (ac (aH (aB bA (ax aA (pv 1) ae (fun _ _=>rfl)) al (aE _)) (ac (aH (aB CL (aD xf rfl BI (by decide+kernel) (aa (ax aA (pv 1) ae (fun _ _=>rfl)) af)) (ax aA (au hu (pv 0) al (fun _ _=>rfl)) ae (fun _ _=>rfl)) (aE _)) (ah (ar al)) av) (ac (uB (ax aA (pv 1) ae (fun _ _=>rfl)) (uz (au hu (pv 0) al (fun _ _=>rfl)) (ax aA (pv 1) ae (fun _ _=>rfl)) set_list)) (ah (ar cb)))) av) (ac (aH (PW.pt (jV (aB bA (ax aA (pv 1) ae (fun _ _=>rfl)) al (aE _)) (jo (aB bA (ax aA (pv 1) ae (fun _ _=>rfl)) al (aE _))))) (ah (ar (aL gi (hr.mono (by omega)) rfl (aa (pv 0) (aa (ax aA (pv 1) ae (fun _ _=>rfl)) (aa (ax aA (pv 1) ae (fun _ _=>rfl)) af)))))) av) (ah (ar (aL dm (hr.mono (by omega)) rfl (aa (pv 0) (aa (pv 1) af))))))))),?_⟩
  simp only[cxOf_K,cxOf_A,L2.start,List.map_cons,List.map_nil,List.length_cons,List.length_nil,Nat.reduceAdd,Nat.reduceSub,List.replicate,List.cons_append,List.nil_append]
  have hv0:=hv
  rw[AZ] at hv
  have w0:∀{H':Hp},Same H H'->Rd1 (tOp (eF K) (tVar 1) (tC (.int 0))) [some (.ref (adr .y)),some v] H' (.str (cE δ)):=fun sm=>rd_it0 (rd_var rfl (hv.same sm.d))
  by_cases hps:∃m,δ= .pass m
  ·obtain⟨m,rfl⟩:=hps
   refine aX ?_
   refine bh (RdT.to (ay (rd_eqS (w0 (Same.refl H)) rd_str)) (decide_eq_true rfl)) fun H1 s1=>?_
   have G1:=G.same s1
   refine aX ?_
   refine Ab G1.L (am rfl) (fJ (rd_add ((qT G1.L (am rfl)).rd (.int _)) (rd_it1 (rd_var rfl (hv.same s1.d))))) fun H2 L2=>?_
   dsimp only[tNext]
   exact kE (qT L2 (am rfl)) fun H3 s3=>q H3 adr _ (L2.same s3) rfl (.int _)
  have hnp:cE δ≠Str.ofString "pass":=by
   cases δ with
   |pass m=>exact absurd ⟨m,rfl⟩ hps
   |_=>simp only[cE];decide+kernel
  refine iP (fun D' nx _=>aW (RdT.to (ay (rd_eqS (w0 (Same.refl H)) rd_str)) (decide_eq_false hnp)) nx) fun H1 s1=>?_
  have G1:=G.same s1
  by_cases htr:∃n,δ= .tries n
  ·obtain⟨n,rfl⟩:=htr
   refine iP (fun D' nx _=>aW (RdT.to (fi (b:=false) (ay (yZ (w0 s1) rd_str)) fun z=>absurd z (by simp[cE])) (by simp)) nx) fun H2 s2=>?_
   have s02:=s1.trans s2
   refine iP (fun D' nx _=>aW (RdT.to (ay (rd_eqS (w0 s02) rd_str)) (decide_eq_false (by simp only[cE];decide+kernel))) nx) fun H3 s3=>?_
   have s03:=s02.trans s3
   refine iP (fun D' nx _=>aW (RdT.to (rD (ay (rd_eqS (w0 s03) rd_str)) fun _=>ay (rd_eqS (w0 s03) rd_str)) (by rw[Bool.or_eq_false_iff];exact⟨decide_eq_false (by simp only[cE];decide+kernel),decide_eq_false (by simp only[cE];decide+kernel)⟩)) nx) fun H4 s4=>?_
   exact kT (am rfl) (am rfl) fun H5 s5=>⟨H0,adr,P,p,ns,s,v,_,rfl,G.same (s03.trans (s4.trans s5)),hv0.same (s03.trans (s4.trans s5)).d,Or.inr ⟨n,rfl⟩,q⟩
  obtain⟨d,hdd⟩:∃d r,Bf δ= .int d::r:=by
   cases δ with
   |pass m=>exact absurd ⟨m,rfl⟩ hps
   |tries n=>exact absurd ⟨n,rfl⟩ htr
   |_=>exact⟨_,_,rfl⟩
  obtain⟨rr,hdd⟩:=hdd
  have hd1:∀{H':Hp},Same H H'->Rd1 (tOp (eF K) (tVar 1) (tC (.int 1))) [some (.ref (adr .y)),some v] H' (.int d):=fun sm=>by
   have h:=hv.same sm.d
   rw[hdd] at h
   exact rd_it1 (rd_var rfl h)
  have hnt:cE δ≠Str.ofString "try":=by
   cases δ with
   |tries n=>exact absurd ⟨n,rfl⟩ htr
   |_=>simp only[cE];decide+kernel
  have tst:=fi (ay (yZ (w0 s1) (rd_str (x:=Str.ofString "try")))) fun _=>rD (ay (rd_lt (hd1 s1) (rd_int (i:=0)))) fun _=>ay (yV (hd1 s1) ((C7 (K:=K) (t:=tVar 0) G1 (am rfl)).rd (.int _)))
  refine aX ?_
  cases hd:isDesk p d with
  |false=>
   have hd':=mJ.mp hd
   refine bh (RdT.to tst (by
    rw[decide_eq_false hnt,Bool.not_false,Bool.true_and,Bool.or_eq_true,decide_eq_true_eq,decide_eq_true_eq]
    omega)) fun H2 s2=>?_
   have e:Y.step p s δ=(.noDesk,s):=by
    cases δ with
    |pass m=>exact absurd ⟨m,rfl⟩ hps
    |tries n=>exact absurd ⟨n,rfl⟩ htr
    |_=>cases hdd;simp[Y.step,named,hd]
   rw[e] at q
   exact bc rd_str fun v H3 hv s3=>q H3 adr v (G1.L.same (s2.trans s3)) rfl hv
  |true=>
   have hd':=Y.cS.mp hd
   refine aW (RdT.to tst (by
    rw[decide_eq_false hnt,Bool.not_false,Bool.true_and,Bool.or_eq_false_iff]
    exact⟨decide_eq_false (by omega),decide_eq_false (by omega)⟩)) fun H2 s2=>?_
   dsimp only[tNext]
   have G2:=G1.same s2
   have s02:=s1.trans s2
   clear tst
   refine aX ?_
   by_cases hsh:∃d o,δ= .shift d o
   ·obtain⟨d',o,rfl⟩:=hsh
    cases hdd
    refine bh (RdT.to (ay (rd_eqS (w0 s02) rd_str)) (decide_eq_true rfl)) fun H3 s3=>?_
    have G3:=G2.same s3
    have s03:=s02.trans s3
    have ho:∀{H':Hp},Same H H'->Rd1 (tOp (eF K) (tVar 1) (tC (.int 2))) [some (.ref (adr .y)),some v] H' (.int o):=fun sm=>rd_it2 (rd_var rfl (hv.same sm.d))
    have tst:=ay (Cb (BZ (ho s03)) ((BF (K:=K) (t:=tVar 0) G3 (am rfl)).rd (.int _)))
    refine aX ?_
    by_cases hb: -p.bound<=o/\o<=p.bound
    ·have e:Y.step p s (.shift d o)=(.bl true,{s with off:=set1 s.off d o}):=by simp only[Y.step,hd,if_true,if_pos hb]
     rw[e] at q
     refine aW (RdT.to tst (decide_eq_false (by split<;>omega))) fun H4 s4=>?_
     dsimp only[tNext]
     have s04:=s03.trans s4
     refine aX ?_
     refine BE (G3.L.same s4) (am rfl) hd (fJ (hd1 s04)) (fJ (ho s04)) fun H5 L5=>?_
     dsimp only[tNext]
     exact bc rd_bl fun v H6 hv s6=>q H6 adr v (L5.same s6) rfl hv
    ·have e:Y.step p s (.shift d o)=(.noClock,s):=by simp only[Y.step,hd,if_true,if_neg hb]
     rw[e] at q
     refine bh (RdT.to tst (decide_eq_true (by split<;>omega))) fun H4 s4=>?_
     exact bc rd_str fun v H5 hv s5=>q H5 adr v (G3.L.same (s4.trans s5)) rfl hv
   have hns:cE δ≠Str.ofString "shift":=by
    cases δ with
    |shift d o=>exact absurd ⟨d,o,rfl⟩ hsh
    |_=>simp only[cE];decide+kernel
   refine aW (RdT.to (ay (rd_eqS (w0 s02) rd_str)) (decide_eq_false hns)) fun H3 s3=>?_
   dsimp only[tNext]
   have G3:=G2.same s3
   have s03:=s02.trans s3
   have tst:=rD (ay (rd_eqS (w0 s03) (rd_str (x:=Str.ofString "stop")))) fun _=>ay (rd_eqS (w0 s03) (rd_str (x:=Str.ofString "wake")))
   refine aX ?_
   by_cases hsw:δ= .stop d∨δ= .wake d
   ·refine bh (RdT.to tst ?_) fun H4 s4=>?_
    ·rcases hsw with rfl |rfl
     ·rw[decide_eq_true (show cE (.stop d)=Str.ofString "stop" from rfl)];rfl
     ·rw[decide_eq_true (show cE (.wake d)=Str.ofString "wake" from rfl),Bool.or_true]
    ·refine kU (am rfl) (tU (w0 (s03.trans s4))) (fJ (hd1 (s03.trans s4))) fun H5 s5=>⟨H0,adr,P,p,ns,s,d,cE δ,δ,rfl,G3.same (s4.trans s5),hd,hD,?_,q⟩
     rcases hsw with rfl |rfl
     ·exact Or.inl ⟨rfl,rfl⟩
     ·exact Or.inr ⟨rfl,rfl⟩
   ·have hrest:∃d n,isDesk p d=true/\(δ= .read d n∨(∃v,δ= .change d n v)∨δ= .back d n):=by
     cases δ with
     |pass m=>exact absurd ⟨m,rfl⟩ hps
     |tries n=>exact absurd ⟨n,rfl⟩ htr
     |shift d o=>exact absurd ⟨d,o,rfl⟩ hsh
     |stop e=>cases hdd;exact absurd (Or.inl rfl) hsw
     |wake e=>cases hdd;exact absurd (Or.inr rfl) hsw
     |read e n=>cases hdd;exact⟨_,n,hd,Or.inl rfl⟩
     |change e n y=>cases hdd;exact⟨_,n,hd,Or.inr (Or.inl ⟨y,rfl⟩)⟩
     |back e n=>cases hdd;exact⟨_,n,hd,Or.inr (Or.inr rfl)⟩
    refine aW (RdT.to tst ?_) fun H4 s4=>?_
    ·obtain⟨d',n,_,h⟩:=hrest
     rw[Bool.or_eq_false_iff]
     rcases h with rfl |⟨y,rfl⟩ |rfl<;>exact⟨decide_eq_false (by simp only[cE];decide+kernel),decide_eq_false (by simp only[cE];decide+kernel)⟩
    ·dsimp only[tNext]
     exact kT (am rfl) (am rfl) fun H5 s5=>⟨H0,adr,P,p,ns,s,v,δ,rfl,G3.same (s4.trans s5),hv0.same (s03.trans (s4.trans s5)).d,Or.inl hrest,q⟩
end
section
variable {P : Program} {w : World} {K : PySem.W.Frag} {mg : Str → Option Value} {base : Heap} {C : Addr}
open Y
variable {c : Cs}
theorem eG:FnScope ["_law_plan","_law_things","_law_yard","_law_name","_law_keeper","_law_value"] ["_law_plan","_law_things"] (defScope (top 40)):=by walk_at "s"
theorem m3(a b c:V):gT [] [((Sum.inr (Str.ofString "plan"):Key),a),(Sum.inr (Str.ofString "time"),b),(Sum.inr (Str.ofString "offsets"),c)]=[((Sum.inr (Str.ofString "plan"):Key),a),(Sum.inr (Str.ofString "time"),b),(Sum.inr (Str.ofString "offsets"),c)]:=by kernel_rfl
theorem m4(a b c d:V):gT [] [((Sum.inr (Str.ofString "keeper"):Key),a),(Sum.inr (Str.ofString "value"),b),(Sum.inr (Str.ofString "version"),c),(Sum.inr (Str.ofString "lent"),d)]=[((Sum.inr (Str.ofString "keeper"):Key),a),(Sum.inr (Str.ofString "value"),b),(Sum.inr (Str.ofString "version"),c),(Sum.inr (Str.ofString "lent"),d)]:=by kernel_rfl
theorem Dc(a b c d:V):putK [((Sum.inr (Str.ofString "plan"):Key),a),(Sum.inr (Str.ofString "time"),b),(Sum.inr (Str.ofString "offsets"),c)] (Sum.inr (Str.ofString "up")) d=[((Sum.inr (Str.ofString "plan"):Key),a),(Sum.inr (Str.ofString "time"),b),(Sum.inr (Str.ofString "offsets"),c),(Sum.inr (Str.ofString "up"),d)]:=by kernel_rfl
theorem C9(a b c d e:V):putK [((Sum.inr (Str.ofString "plan"):Key),a),(Sum.inr (Str.ofString "time"),b),(Sum.inr (Str.ofString "offsets"),c),(Sum.inr (Str.ofString "up"),d)] (Sum.inr (Str.ofString "copies")) e=[((Sum.inr (Str.ofString "plan"):Key),a),(Sum.inr (Str.ofString "time"),b),(Sum.inr (Str.ofString "offsets"),c),(Sum.inr (Str.ofString "up"),d),(Sum.inr (Str.ofString "copies"),e)]:=by kernel_rfl
theorem Db(a b c d e f:V):putK [((Sum.inr (Str.ofString "plan"):Key),a),(Sum.inr (Str.ofString "time"),b),(Sum.inr (Str.ofString "offsets"),c),(Sum.inr (Str.ofString "up"),d),(Sum.inr (Str.ofString "copies"),e)] (Sum.inr (Str.ofString "things")) f=yv a b c d e f:=by kernel_rfl
theorem Dd(a b c d e:V):putK [((Sum.inr (Str.ofString "keeper"):Key),a),(Sum.inr (Str.ofString "value"),b),(Sum.inr (Str.ofString "version"),c),(Sum.inr (Str.ofString "lent"),d)] (Sum.inr (Str.ofString "waiting")) e=[((Sum.inr (Str.ofString "keeper"):Key),a),(Sum.inr (Str.ofString "value"),b),(Sum.inr (Str.ofString "version"),c),(Sum.inr (Str.ofString "lent"),d),(Sum.inr (Str.ofString "waiting"),e)]:=by kernel_rfl
theorem Da(a b c d e f:V):putK [((Sum.inr (Str.ofString "keeper"):Key),a),(Sum.inr (Str.ofString "value"),b),(Sum.inr (Str.ofString "version"),c),(Sum.inr (Str.ofString "lent"),d),(Sum.inr (Str.ofString "waiting"),e)] (Sum.inr (Str.ofString "quiet")) f=tv a b c d e f:=by kernel_rfl
theorem wH{σ:St}{H:Hp}{td tk:TE}{Dn:Ends}{ta:TA}{n k m:Nat}(hs:RdA ta σ H [.int (m:Int)])(hl:m<=900)(hk:σ.length<=k)
  (q:∀D H' (cds:Nat->Addr),H D=none->H' D=some (.lst ((List.range m).map fun i=>V.ref (cds i)))->(∀i,i<m->H (cds i)=none/\H' (cds i)=some (.dK []))->(∀i j,i<m->j<m->cds i=cds j->i=j)->Same H H'->td σ H' fun x H2=>tk σ H2 fun y H3=>∃a H4,x= .ref a/\lH H3 a y (.ref D) H4/\Dn.nx σ H4):sDPut td tk (tLc n (iRng1 ta) (gName k) tYes tDNewK) Dn σ H:=xN hs hl hk q
theorem Aq{f:Addr}{fd:FuncData}(cO:mg "range"=none)(F:Fun K "_law_new" "_law_new" (top 40) f fd):FnOk P w K mg base CX0 1 f fd ["_law_plan","_law_things"] rS:=by
 refine F.ok eG (fun vs H Q E h=>?_) (fun cdv A outer s H vs Q E hr h=>?_)
 ·obtain⟨P,p,v,es,rfl,_⟩:=h
  rfl
 ·obtain⟨P,p,v,es,rfl,hP,hp,hes,hv,nd,hkp,q⟩:=h
  have hu:=cx hr
  refine⟨_,(ac (aG (i:=2) eG.nd rfl (Or.inl rfl) (vD (fS al (pv 0) (fS al ae (fS al (aw yC (bi (aa ae af)) (ax aA (pv 0) ae (fun _ _=>rfl))) vH))) rfl rfl (by simp) (by decide))) (ac (bB hu (pv 2) al (aw yC (bi (aa cb af)) (ax aA (pv 0) ae (fun _ _=>rfl))) rfl) (ac (bB hu (pv 2) al (jf (own:=["_law_k"]) rfl (LcScope.of (by kernel_rfl)) (fA rfl cO (aa (ax aA (pv 0) ae (fun _ _=>rfl)) af)) (fun cl C s H fp=>⟨(aV (i:=6) (show List.Nodup (α:=Str) ["_law_plan","_law_things","_law_yard","_law_name","_law_keeper","_law_value","_law_k"] by decide+kernel) rfl (Or.inl rfl)),fe,ck⟩)) rfl) (ac (bB hu (pv 2) al ck rfl) (ac (cG PassesOwn.never rfl (bW (pv 1)) (yK rfl (gF (aV (i:=3) eG.nd rfl (Or.inl rfl)) (gF (aV (i:=4) eG.nd rfl (Or.inl rfl)) (gF (aV (i:=5) eG.nd rfl (Or.inl rfl)) vF)))) (ac (bB hu (au hu (pv 2) al (fun _ _=>rfl)) (pv 3) (vD (fS al (pv 4) (fS al (pv 5) (fS al ae (fS al ck vH)))) rfl rfl (by simp) (by decide)) rfl) (ac (bB hu (au hu (au hu (pv 2) al (fun _ _=>rfl)) (pv 3) (fun _ _=>rfl)) al (bi af) rfl) (ah (bB hu (au hu (au hu (pv 2) al (fun _ _=>rfl)) (pv 3) (fun _ _=>rfl)) al (bi af) rfl))))) (ah (ar (pv 2)))))))),?_⟩
  simp only[cxOf_K,cxOf_A,cxComp_K,cxComp_A,L2.start,List.map_cons,List.map_nil,List.length_cons,List.length_nil,Nat.reduceAdd,Nat.reduceSub,List.replicate,List.cons_append,List.nil_append]
  refine aX ?_
  refine Ct (Q:=fun v H'=>_) (am rfl) cr (vc cr (kD (am rfl) cr hP rfl) (by omega)) m3 fun y o H1 fy fo nyo hy ho s1=>?_
  walk_at "x"
  refine aX ?_
  refine gc (k:=Sum.inr (Str.ofString "up")) (vc cr (kD (am rfl) cr (s1 _ _ hP) rfl) (by omega)) (am rfl) cr hy (nle rfl) fun u H2 fu hu2 s2=>?_
  rw[Dc]
  have nuy:u≠y:=fun z=>by rw[z,hy] at fu;cases fu
  have nuo:u≠o:=fun z=>by rw[z,ho] at fu;cases fu
  obtain⟨H3,eH3,hy3,hu3,ho3,s3⟩:∃H3,H3=upd H2 y (.dK [((Sum.inr (Str.ofString "plan"):Key),.ref P),(Sum.inr (Str.ofString "time"),.int 0),(Sum.inr (Str.ofString "offsets"),.ref o),(Sum.inr (Str.ofString "up"),.ref u)])/\H3 y=some (.dK [((Sum.inr (Str.ofString "plan"):Key),.ref P),(Sum.inr (Str.ofString "time"),.int 0),(Sum.inr (Str.ofString "offsets"),.ref o),(Sum.inr (Str.ofString "up"),.ref u)])/\H3 u=some (.lst ((List.range p.count).map fun _=> .bl true))/\H3 o=some (.lst ((List.range p.count).map fun _=> .int 0))/\Same H H3:=
   ⟨_,rfl,upd_same,by rw[aj nuy];exact hu2,by rw[aj nyo.symm];exact s2 _ _ ho,fun b x e=>by rw[aj (aq e fy)];exact s2 _ _ (s1 _ _ e)⟩
  rw[<-eH3]
  have fu0:H u=none:=s1.free fu
  clear eH3 hu2 s2 H2 hy ho s1 fu
  refine aX ?_
  refine wH (m:=p.count) (rda_cons ((kD (K:=K) (ts:=tVar 0) (te:=tC (.int 0)) (am rfl) cr (s3 _ _ hP) rfl).rd (.int _)) rda_nil) (by omega) (Nat.le_refl _) fun C H4 cds fC hC hcd inj s4=>?_
  refine⟨_,rfl,y,_,rfl,lH.k (k:=Sum.inr (Str.ofString "copies")) (s4 _ _ hy3) (bu (nle rfl)),?_⟩
  rw[C9]
  have nCy:C≠y:=fun z=>by rw[z,hy3] at fC;cases fC
  have nCu:C≠u:=fun z=>by rw[z,hu3] at fC;cases fC
  have nCo:C≠o:=fun z=>by rw[z,ho3] at fC;cases fC
  have ncd:∀i,i<p.count->cds i∉[y,o,u,C]:=fun i hi h=>by
   obtain⟨h1,h2⟩:=hcd i hi
   simp only[List.mem_cons,List.not_mem_nil,or_false] at h
   rcases h with z |z |z |z
   ·rw[z,hy3] at h1;cases h1
   ·rw[z,ho3] at h1;cases h1
   ·rw[z,hu3] at h1;cases h1
   ·rw[z,hC] at h2;cases h2
  obtain⟨H5,eH5,hy5,hu5,ho5,hC5,hcd5,s5⟩:∃H5,H5=upd H4 y (.dK [((Sum.inr (Str.ofString "plan"):Key),.ref P),(Sum.inr (Str.ofString "time"),.int 0),(Sum.inr (Str.ofString "offsets"),.ref o),(Sum.inr (Str.ofString "up"),.ref u),(Sum.inr (Str.ofString "copies"),.ref C)])/\H5 y=some (.dK [((Sum.inr (Str.ofString "plan"):Key),.ref P),(Sum.inr (Str.ofString "time"),.int 0),(Sum.inr (Str.ofString "offsets"),.ref o),(Sum.inr (Str.ofString "up"),.ref u),(Sum.inr (Str.ofString "copies"),.ref C)])/\H5 u=some (.lst ((List.range p.count).map fun _=> .bl true))/\H5 o=some (.lst ((List.range p.count).map fun _=> .int 0))/\H5 C=some (.lst ((List.range p.count).map fun i=> .ref (cds i)))/\(∀i,i<p.count->H5 (cds i)=some (.dK []))/\Same H H5:=
   ⟨_,rfl,upd_same,by rw[aj nuy];exact s4 _ _ hu3,by rw[aj nyo.symm];exact s4 _ _ ho3,by rw[aj nCy];exact hC,fun i hi=>by rw[aj fun z=>ncd i hi (by rw[z];simp)];exact(hcd i hi).2,fun b x e=>by rw[aj (aq e fy)];exact s4 _ _ (s3 _ _ e)⟩
  rw[<-eH5]
  have fC0:H C=none:=s3.free fC
  have fcd0:∀i,i<p.count->H (cds i)=none:=fun i hi=>s3.free (hcd i hi).1
  clear eH5 hC hcd s4 H4 hy3 hu3 ho3 s3 fC
  refine aX ?_
  refine gc (k:=Sum.inr (Str.ofString "things")) jF (am rfl) cr hy5 (nle rfl) fun t H6 ft ht s6=>?_
  rw[Db]
  have nty:t≠y:=fun z=>by rw[z,hy5] at ft;cases ft
  have ntu:t≠u:=fun z=>by rw[z,hu5] at ft;cases ft
  have nto:t≠o:=fun z=>by rw[z,ho5] at ft;cases ft
  have ntC:t≠C:=fun z=>by rw[z,hC5] at ft;cases ft
  have L0:Lw H (upd H6 y (.dK (yv (.ref P) (.int 0) (.ref o) (.ref u) (.ref C) (.ref t)))) (vS y o u C t cds) P p [] mo:=by
   refine Lw.start (fun b x e=>by rw[aj (aq e fy)];exact s6 _ _ (s5 _ _ e)) ?_ fy fo fu0 fC0 (s5.free ft) fcd0 inj (fun i hi h=>?_) upd_same (by rw[aj nyo.symm];exact s6 _ _ ho5) (by rw[aj nuy];exact s6 _ _ hu5) (by rw[aj nCy];exact s6 _ _ hC5) (by rw[aj nty];exact ht) fun i hi=>by rw[aj fun z=>ncd i hi (by rw[z];simp)];exact s6 _ _ (hcd5 i hi)
   ·simp only[List.nodup_cons,List.mem_cons,List.not_mem_nil,or_false,not_or,List.nodup_nil,and_true,not_false_eq_true]
    exact⟨⟨nyo,nuy.symm,nCy.symm,nty.symm⟩,⟨nuo.symm,nCo.symm,nto.symm⟩,⟨nCu.symm,ntu.symm⟩,ntC.symm⟩
   ·simp only[List.mem_cons,List.not_mem_nil,or_false] at h
    rcases h with z |z |z |z |z
    ·exact ncd i hi (by rw[z];simp)
    ·exact ncd i hi (by rw[z];simp)
    ·exact ncd i hi (by rw[z];simp)
    ·exact ncd i hi (by rw[z];simp)
    ·have:=hcd5 i hi
     rw[z,ft] at this
     cases this
  generalize upd H6 y (.dK (yv (.ref P) (.int 0) (.ref o) (.ref u) (.ref C) (.ref t)))=H7 at*
  clear ht s6 hcd5 hC5 hu5 ho5 hy5 s5 ft ncd
  refine aX ?_
  refine C3 (fun i σ' H'=>∃adr x3 x4 x5,σ'=[some (.ref P),some v,some (.ref y),x3,x4,x5]/\adr .y=y/\Lw H H' adr P p ((es.take i).map (·.1)) (begin_ (look (es.take i)))) rfl hv rfl (fun i σ' H' h=>?_) ⟨vS y o u C t cds,none,none,none,rfl,rfl,by rw[xb];exact L0⟩ ?_ ?_
  ·obtain⟨adr,x3,x4,x5,_,_,L⟩:=h
   exact L.all
  ·rintro i e σ' H8 D' he ⟨adr,x3,x4,x5,rfl,rfl,L⟩ _ nx
   have hn:e.1∉(es.take i).map (·.1):=fun hm=>by
    obtain⟨x,hx,hxe⟩:=List.mem_map.mp hm
    obtain⟨j,hj⟩:=List.mem_iff_getElem?.mp hx
    rw[List.getElem?_take] at hj
    split at hj
    ·rename_i lt
     have h1:(es.map (·.1))[j]?=some e.1:=by rw[List.getElem?_map,hj,<-hxe];rfl
     have h2:(es.map (·.1))[i]?=some e.1:=by rw[List.getElem?_map,he];rfl
     have:=(List.getElem?_inj (List.getElem?_eq_some_iff.mp h1).1 nd).mp (h1.trans h2.symm)
     omega
    ·cases hj
   have ens:(es.take (i+1)).map (·.1)=(es.take i).map (·.1)++ [e.1]:=by rw[List.take_add_one,he,List.map_append];rfl
   have hlen:((es.take i).map (·.1)).length<=900:=by rw[List.length_map,List.length_take];omega
   have hd:=hkp e (List.mem_of_getElem? he)
   have nxx:=nx
   rw[ens,xa nd he] at nx
   generalize (es.take i).map (·.1)=ns at*
   generalize begin_ (look (es.take i))=s8 at*
   walk_at "x"
   refine aX ?_
   refine Cu (Q:=fun v H'=>_) (am rfl) (am rfl) cr jF m4 fun a l H9 fa fl nal ha hl s9=>?_
   refine qS (L.same s9) (am rfl) H9 _ (Same.refl _) fun H10 s10=>⟨_,rfl,adr .t,_,rfl,lH.k (k:=Sum.inr e.1) (s10 _ _ (s9 _ _ (L.at' .t trivial))) (bu (by rw[List.length_map];omega)),?_⟩
   have hput:putK (ns.map fun m=>((Sum.inr m:Key),V.ref (adr (.td m)))) (Sum.inr e.1) (.ref a)=(ns++ [e.1]).map fun m=>((Sum.inr m:Key),V.ref (set1 (set1 adr (.td e.1) a) (.ln e.1) l (.td m))):=by
    unfold putK
    rw[if_neg,List.map_append]
    ·congr 1
     ·refine List.map_congr_left fun m hm=>?_
      have:m≠e.1:=fun z=>hn (z▸hm)
      rw[ao (show Pc.td m≠Pc.ln e.1 from fun y=>nomatch y),ao fun y=>this (by cases y;rfl)]
     ·rw[List.map_cons,List.map_nil,ao (show Pc.td e.1≠Pc.ln e.1 from fun y=>nomatch y),ai]
    ·simp only[List.any_map,List.any_eq_true,Function.comp,decide_eq_true_eq,not_exists,not_and]
     intro m hm z
     exact hn (Sum.inr.inj z▸hm)
   rw[hput]
   have ntA:adr .t≠a:=L.ne_new fa .t trivial
   have ntL:adr .t≠l:=L.ne_new fl .t trivial
   have nyT:adr .y≠adr .t:=fun y=>nomatch L.inj .y .t trivial trivial y
   obtain⟨H11,eH,ht,ha1,hl1,k11⟩:∃H11,H11=upd H10 (adr .t) (.dK ((ns++ [e.1]).map fun m=>((Sum.inr m:Key),V.ref (set1 (set1 adr (.td e.1) a) (.ln e.1) l (.td m)))))/\H11 (adr .t)=some (.dK ((ns++ [e.1]).map fun m=>((Sum.inr m:Key),V.ref (set1 (set1 adr (.td e.1) a) (.ln e.1) l (.td m)))))/\H11 a=some (.dK [((Sum.inr (Str.ofString "keeper"):Key),.int e.2.1),(Sum.inr (Str.ofString "value"),.int e.2.2),(Sum.inr (Str.ofString "version"),.int 0),(Sum.inr (Str.ofString "lent"),.ref l)])/\H11 l=some (.dK [])/\∀b x,H8 b=some x->b≠adr .t->H11 b=some x:=
    ⟨_,rfl,upd_same,by rw[aj ntA.symm];exact s10 _ _ ha,by rw[aj ntL.symm];exact s10 _ _ hl,fun b x h n=>by rw[aj n];exact s10 _ _ (s9 _ _ h)⟩
   rw[<-eH]
   clear eH ha hl s9 s10 hput
   have val:valV ((ns++ [e.1]).map fun m=>((Sum.inr m:Key),V.ref (set1 (set1 adr (.td e.1) a) (.ln e.1) l (.td m)))) (Sum.inr e.1)=some (.ref a):=by
    rw[sg,if_pos (by simp),ao (show Pc.td e.1≠Pc.ln e.1 from fun y=>nomatch y),ai]
   have thA:∀{H':Hp},Same H11 H'->Ev (tDGet (tDGet (tVar 2) (tC (.str (Str.ofString "things")))) (tVar 3)) [some (.ref P),some v,some (.ref (adr .y)),some (.str e.1),some (.int e.2.1),some (.int e.2.2)] H' (.ref a):=fun sm=>
    bJ (k:=Sum.inr e.1) (bJ (am rfl) cr (sm _ _ (k11 _ _ (L.at' .y trivial) nyT)) (lu _ _ _ _ _ _)) (am rfl) (sm _ _ ht) val
   refine aX ?_
   refine gc (k:=Sum.inr (Str.ofString "waiting")) jG (thA (Same.refl _)) cr ha1 (nle rfl) fun w H12 fw hw s12=>?_
   rw[Dd]
   have naw:a≠w:=fun z=>by rw[<-z,ha1] at fw;cases fw
   have nlw:l≠w:=fun z=>by rw[<-z,hl1] at fw;cases fw
   have fw8:H8 w=none:=by
    cases h:H8 w with
    |none=>rfl
    |some x=>
     by_cases z:w=adr .t
     ·rw[z,ht] at fw;cases fw
     ·rw[k11 _ _ h z] at fw;cases fw
   obtain⟨H13,eH,ha13,hw13,hl13,ht13,k13⟩:∃H13,H13=upd H12 a (.dK [((Sum.inr (Str.ofString "keeper"):Key),.int e.2.1),(Sum.inr (Str.ofString "value"),.int e.2.2),(Sum.inr (Str.ofString "version"),.int 0),(Sum.inr (Str.ofString "lent"),.ref l),(Sum.inr (Str.ofString "waiting"),.ref w)])/\H13 a=some (.dK [((Sum.inr (Str.ofString "keeper"):Key),.int e.2.1),(Sum.inr (Str.ofString "value"),.int e.2.2),(Sum.inr (Str.ofString "version"),.int 0),(Sum.inr (Str.ofString "lent"),.ref l),(Sum.inr (Str.ofString "waiting"),.ref w)])/\H13 w=some (.lst [])/\H13 l=some (.dK [])/\H13 (adr .t)=some (.dK ((ns++ [e.1]).map fun m=>((Sum.inr m:Key),V.ref (set1 (set1 adr (.td e.1) a) (.ln e.1) l (.td m)))))/\∀b x,H8 b=some x->b≠adr .t->H13 b=some x:=
    ⟨_,rfl,upd_same,by rw[aj naw.symm];exact hw,by rw[aj nal.symm];exact s12 _ _ hl1,by rw[aj ntA];exact s12 _ _ ht,fun b x h n=>by rw[aj (aq h fa)];exact s12 _ _ (k11 _ _ h n)⟩
   rw[<-eH]
   clear eH hw s12 H12 thA ha1 hl1 ht k11 fw
   have thA:Ev (tDGet (tDGet (tVar 2) (tC (.str (Str.ofString "things")))) (tVar 3)) [some (.ref P),some v,some (.ref (adr .y)),some (.str e.1),some (.int e.2.1),some (.int e.2.2)] H13 (.ref a):=
    bJ (k:=Sum.inr e.1) (bJ (am rfl) cr (k13 _ _ (L.at' .y trivial) nyT) (lu _ _ _ _ _ _)) (am rfl) ht13 val
   refine gc (k:=Sum.inr (Str.ofString "quiet")) jG thA cr ha13 (nle rfl) fun u2 H14 fq hq s14=>?_
   rw[Da]
   have naq:a≠u2:=fun z=>by rw[<-z,ha13] at fq;cases fq
   have fq8:H8 u2=none:=by
    cases h:H8 u2 with
    |none=>rfl
    |some x=>
     by_cases z:u2=adr .t
     ·rw[z,ht13] at fq;cases fq
     ·rw[k13 _ _ h z] at fq;cases fq
   refine nx _ _ ⟨set1 (set1 adr (.td e.1) a) (.ln e.1) l,some (.str e.1),some (.int e.2.1),some (.int e.2.2),rfl,?_,?_⟩
   ·rw[ao (show Pc.y≠Pc.ln e.1 from fun y=>nomatch y),ao (show Pc.y≠Pc.td e.1 from fun y=>nomatch y)]
   ·exact L.add hn hd (fun b x h n=>by rw[aj (aq h fa)];exact s14 _ _ (k13 _ _ h n)) fa fl fw8 fq8 nal (by rw[aj ntA];exact s14 _ _ ht13) upd_same (by rw[aj nal.symm];exact s14 _ _ hl13) (by rw[aj naw.symm];exact s14 _ _ hw13) (by rw[aj naq.symm];exact hq)
  ·rintro σ' H8 ⟨adr,x3,x4,x5,rfl,rfl,L⟩
   dsimp only[tNext]
   rw[List.take_length] at L
   exact kE (am rfl) fun H9 s9=>q H9 adr (L.same s9)
end
section
variable {P : Program} {w : World} {K : PySem.W.Frag} {mg : Str → Option Value} {base : Heap} {C : Addr}
open Y
variable {c : Cs}
theorem BQ{p:Pl}{l:List (Str×Int×Int)}{ss:List Str}(L:Listed ss (fun n=>(look l n).isSome))(δs:List (Deed Str)):∃ord:Nat->List Str,∀i,Listed (ord i) (fun n=>((run p (begin_ (look l)) δs).2.cp i n).isSome):=by
 have ct:=gy.run (p:=p) δs (gy.begins (look l))
 have ex:∀i:Nat,∃o,Listed o (fun n=>((run p (begin_ (look l)) δs).2.cp i n).isSome):=fun i=>by
  refine kN (ks:=ss.filter fun n=>((run p (begin_ (look l)) δs).2.cp i n).isSome) (List.Pairwise.filter _ L.nd) fun n=>?_
  rw[List.mem_filter]
  refine⟨fun h=>h.2,fun h=>⟨(L.mem n).mpr ?_,h⟩⟩
  have h1:=jZ (p:=p) n δs (begin_ (look l))
  have h2:((begin_ (look l)).th n).isSome=(look l n).isSome:=Option.isSome_map
  rw[h2] at h1
  show(look l n).isSome=true
  rw[<-h1]
  exact ct i n h
 exact⟨fun i=>Classical.choose (ex i),fun i=>Classical.choose_spec (ex i)⟩
theorem AW{s:S Str}{n:Str}{t:Th}(h:s.th n=some t):hZ s n= .tuple [.str n,.int t.value,.int t.version]:=by unfold hZ;rw[h]
theorem zD{f:Str->Option Cp}{n:Str}{x:Cp}(h:f n=some x):gh f n= .tuple [.str n,.int x.value,.int x.version,.int x.till]:=by unfold gh;rw[h]
theorem mv(f:Str->Option Cp):∀l:List Str,PyData.depthAll (l.map (gh f))<=1
 | []=>Nat.zero_le 1
 |n::l=>by
  rw[List.map_cons]
  unfold PyData.depthAll
  refine Nat.max_le.mpr ⟨?_,mv f l⟩
  unfold gh
  cases f n<;>simp[PyData.depth,PyData.depthAll]
theorem pA(f:Str->Option Cp):∀l:List Str,lensOk (l.map (gh f))
 | []=>by simp[lensOk]
 |n::l=>by
  rw[List.map_cons]
  simp only[lensOk]
  refine⟨?_,pA f l⟩
  unfold gh
  cases f n<;>simp[lenOk,lensOk]
theorem oH(s:S Str):∀l:List Str,PyData.depthAll (l.map (hZ s))<=1
 | []=>Nat.zero_le 1
 |n::l=>by
  rw[List.map_cons]
  unfold PyData.depthAll
  refine Nat.max_le.mpr ⟨?_,oH s l⟩
  unfold hZ
  cases s.th n<;>simp[PyData.depth,PyData.depthAll]
theorem pX(s:S Str):∀l:List Str,lensOk (l.map (hZ s))
 | []=>by simp[lensOk]
 |n::l=>by
  rw[List.map_cons]
  simp only[lensOk]
  refine⟨?_,pX s l⟩
  unfold hZ
  cases s.th n<;>simp[lenOk,lensOk]
theorem oA:∀l:List (Str×Int×Int),(∀e∈l,PyData.strOk e.1=true)->PyData.canLayAll0 (l.map thD)=true
 | [],_=>rfl
 |e::l,h=>by
  have h1:=h e List.mem_cons_self
  have h2:=oA l fun x hx=>h x (List.mem_cons_of_mem _ hx)
  rw[List.map_cons]
  simp only[PyData.canLayAll0,thD,PyData.canLay0,h1,h2,Bool.and_self]
theorem kn:∀l:List (Str×Int×Int),PyData.depthAll (l.map thD)<=1
 | []=>Nat.zero_le 1
 |e::l=>by
  rw[List.map_cons]
  unfold PyData.depthAll
  exact Nat.max_le.mpr ⟨by simp[thD,PyData.depth,PyData.depthAll],kn l⟩
theorem yc(c:Int)(p:Pl):∀e∈bx c p,PyData.strOk e.1=true:=fun e he=>by
 have hm:e.1∈(bx c p).map (·.1):=List.mem_map_of_mem he
 rw[iR] at hm
 obtain⟨j,hj,e1⟩:=List.mem_map.mp hm
 rw[<-e1]
 have:=fb c
 exact pI p (by have:=List.mem_range.mp hj;omega)
theorem sy{f:Str->Option (Int×Int)}:Down5 (begin_ f):=⟨fun n t h hd=>(nomatch (show true=false from hd)),fun d n h=>rfl⟩
theorem pC{p:Pl}:∀(δs:List (Deed Str)) {s:Y.S Str},Down5 s->Down5 (run p s δs).2
 | [],_,h=>h
 |δ::r,s,h=>pC r (uL h)
theorem dG:FnScope ["_law_script","_law_plan","_law_things","_law_deeds","_law_handed","_law_told","_law_yard","_law_k","_law_found","_law_desk","_law_mine","_law_kept","_law_left","_law_name","_law_thing"] ["_law_script"] (defScope (top 49)):=by walk_at "s"
theorem BP{f:Addr}{fd:FuncData}(cO:mg "range"=none)(ci:mg "len"=none)(ce:mg "list"=none)(az:mg "isinstance"=none)(fz:mg "sorted"=none)
  (iT:Def P w K mg base "_law_at" 1 ["_law_script","_law_k"] (vN K))(fG:Def P w K mg base "_law_plan_by" 1 ["_law_cell"] (bC qg))(dR:Def P w K mg base "_law_things_by" 2 ["_law_cell","_law_plan"] (bC jy))(gL:Def P w K mg base "_law_drawn" 3 ["_law_cells","_law_plan"] (bC lT))
  (gM:Def P w K mg base "_law_equal" 1 ["_law_one","_law_other"] oi)(fm:Def P w K mg base "_law_so" 3 ["_law_found","_law_meant"] (sZ K 2))(ji:Def P w K mg base "_law_new" 1 ["_law_plan","_law_things"] rS)(jh:Def P w K mg base "_law_due" 5 ["_law_yard","_law_deed"] rN)
  (ky:Def P w K mg base "answers" 7 ["plan","things","deeds"] (hR c))(fI:Def P w K mg base "values_after" 8 ["plan","things","deeds"] (ja c))(fH:Def P w K mg base "copies_after" 8 ["plan","things","deeds"] (iZ c))(eQ:Def P w K mg base "_law_are_told" 3 ["_law_found","_law_deeds"] me)
  (F:Fun K "law" "law" (top 49) f fd):FnOk P w K mg base CX0 9 f fd ["_law_script"] (sp_law K):=by
 refine F.ok dG (fun vs H Q E h=>?_) (fun cdv A outer s H vs Q E hr h=>?_)
 ·obtain⟨a,ns,rfl,_⟩:=h
  rfl
 ·obtain⟨a,ns,rfl,hS,hl,q⟩:=h
  have hu:=cx hr
  refine⟨_,(ac (aG (i:=1) dG.nd rfl (Or.inl rfl) (aL fG (hr.mono (by omega)) rfl (aa (aL iT (hr.mono (by omega)) rfl (aa (pv 0) (aa ae af))) af))) (ac (aG (i:=2) dG.nd rfl (Or.inl rfl) (aL dR (hr.mono (by omega)) rfl (aa (aL iT (hr.mono (by omega)) rfl (aa (pv 0) (aa ae af))) (aa (pv 1) af)))) (ac (aG (i:=3) dG.nd rfl (Or.inl rfl) (aL gL (hr.mono (by omega)) rfl (aa (sQ AO (pv 0) (rq ae) (rq ae)) (aa (pv 1) af)))) (ac (aG (i:=4) dG.nd rfl (Or.inl rfl) (bi (aa (gD jB rfl ce (by decide+kernel) (aa (pv 2) af)) (aa (gD jB rfl ce (by decide+kernel) (aa (pv 3) af)) af)))) (ac (aG (i:=5) dG.nd rfl (Or.inl rfl) (aL ky (hr.mono (by omega)) rfl (aa (pv 1) (aa (ax aI (pv 4) ae (fun _ _=>rfl)) (aa (ax aI (pv 4) ae (fun _ _=>rfl)) af))))) (ac (aH (bZ (bg (aL eQ (hr.mono (by omega)) rfl (aa (pv 5) (aa (pv 3) af))))) (ah (ar cb)) av) (ac (aG (i:=6) dG.nd rfl (Or.inl rfl) (aL ji (hr.mono (by omega)) rfl (aa (pv 1) (aa (pv 2) af)))) (ac (cG PassesOwn.never rfl (fA rfl cO (aa (aD bb rfl ci (by decide+kernel) (aa (pv 3) af)) af)) (aV (i:=7) dG.nd rfl (Or.inl rfl)) (ah (aH (bZ (bg (aL gM (hr.mono (by omega)) rfl (aa (ax aI (pv 5) (pv 7) (fun _ _=>rfl)) (aa (aL jh (hr.mono (by omega)) rfl (aa (pv 6) (aa (ax aI (pv 3) (pv 7) (fun _ _=>rfl)) af))) af))))) (ah (ar cb)) av))) (ac (aG (i:=8) dG.nd rfl (Or.inl rfl) (aL fH (hr.mono (by omega)) rfl (aa (pv 1) (aa (ax aI (pv 4) ae (fun _ _=>rfl)) (aa (ax aI (pv 4) ae (fun _ _=>rfl)) af))))) (ac (aH (PW.pt (jV (bZ (bg (aD bd rfl az (by decide+kernel) (aa (pv 8) (aa (bn (v:= .ty "list") rfl ce (by decide+kernel) rfl) af))))) (jo (aB pM (aD bb rfl ci (by decide+kernel) (aa (pv 8) af)) (ax aA (pv 1) ae (fun _ _=>rfl)) (aE _))))) (ah (ar cb)) av) (ac (cG PassesOwn.never rfl (fA rfl cO (aa (ax aA (pv 1) ae (fun _ _=>rfl)) af)) (aV (i:=9) dG.nd rfl (Or.inl rfl)) (ac (aG (i:=10) dG.nd rfl (Or.inr rfl) (ax aI (au hu (pv 6) al (fun _ _=>rfl)) (pv 9) (fun _ _=>rfl))) (ac (BV 13 "#" (sS (own:=["_law_name"]) (i:=11) rfl (LcScope.of (by kernel_rfl)) (bW (aD mr rfl fz (by decide+kernel) (aa (gD (ik rfl) rfl ce (by decide+kernel) (aa (pv 10) af)) af))) (fun cl C s H fp=>⟨(aV (i:=15) (show List.Nodup (α:=Str) ["_law_script","_law_plan","_law_things","_law_deeds","_law_handed","_law_told","_law_yard","_law_k","_law_found","_law_desk","_law_mine","_law_kept","_law_left","#","_law_thing","_law_name"] by decide+kernel) rfl (Or.inl rfl)),fe,(aw (yB (K:=K) rfl) (br (aa (pv 15) af)) (au hu (pv 10) (pv 15) (fun _ _=>rfl)))⟩) (show List.Nodup (α:=Str) ["_law_script","_law_plan","_law_things","_law_deeds","_law_handed","_law_told","_law_yard","_law_k","_law_found","_law_desk","_law_mine","_law_kept","_law_left","#","_law_thing"] by decide+kernel) rfl (Or.inl rfl) rfl)) (ah (aH (bZ (bg (aL fm (hr.mono (by omega)) rfl (aa (ax aI (pv 8) (pv 9) (fun _ _=>rfl)) (aa (pv 11) af))))) (ah (ar cb)) av))))) (ac (aG (i:=12) dG.nd rfl (Or.inl rfl) (bi af)) (ac (cG PassesOwn.never rfl (bW (aD mr rfl fz (by decide+kernel) (aa (jf (own:=["_law_row"]) rfl (LcScope.of (by kernel_rfl)) (bW (pv 2)) (fun cl C s H fp=>⟨(aV (i:=15) (show List.Nodup (α:=Str) ["_law_script","_law_plan","_law_things","_law_deeds","_law_handed","_law_told","_law_yard","_law_k","_law_found","_law_desk","_law_mine","_law_kept","_law_left","_law_name","_law_thing","_law_row"] by decide+kernel) rfl (Or.inl rfl)),fe,(ax (zM (K:=K) rfl) (pv 15) ae (fun _ _=>rfl))⟩)) af))) (aV (i:=13) dG.nd rfl (Or.inl rfl)) (ac (aG (i:=14) dG.nd rfl (Or.inl rfl) (au hu (au hu (pv 6) al (fun _ _=>rfl)) (pv 13) (fun _ _=>rfl))) (ah (aY (pN PySem.F.plainAttrs_list PySem.F.slot_list_append PySem.F.type_list_append dX (pv 12) (aa (br (aa (pv 13) (aa (au hu (pv 14) al (fun _ _=>rfl)) (aa (au hu (pv 14) al (fun _ _=>rfl)) af)))) af)))))) (ac (aH (bZ (bg (aL fm (hr.mono (by omega)) rfl (aa (aL fI (hr.mono (by omega)) rfl (aa (pv 1) (aa (ax aI (pv 4) ae (fun _ _=>rfl)) (aa (ax aI (pv 4) ae (fun _ _=>rfl)) af)))) (aa (pv 12) af))))) (ah (ar cb)) av) (ah (ar (dB uu (pv 4) (bi (aa (pv 2) (aa (pv 3) af))) (aE _)))))))))))))))))),?_⟩
  simp only[cxOf_K,cxOf_A,cxComp_K,cxComp_A,L2.start,List.map_cons,List.map_nil,List.length_cons,List.length_nil,Nat.reduceAdd,Nat.reduceSub,List.replicate,List.cons_append,List.nil_append]
  refine aX ?_
  refine bH (iX (R:=qg) (rda_cons (Bc (k:=0) rfl hS) rda_nil) ⟨_,rfl,rfl⟩) fun v1 H1 hp1 s1=>?_
  walk_at "x"
  obtain⟨hc,hb0,hl0⟩:=wF (ns.getD 0 0)
  generalize gu (ns.getD 0 0)=p at*
  have S:=s1
  refine aX ?_
  refine bH (iX (R:=jy) (rda_cons (Bc (k:=1) rfl (S.seq hS)) (rda_cons (rd_var rfl hp1) rda_nil)) ⟨_,p,hc.1,rfl,rfl⟩) fun v2 H2 ht2 s2=>?_
  walk_at "x"
  have S:=S.trans s2
  have told:=AU (ns.getD 1 0) hc
  have hnok:=yc (ns.getD 1 0) p
  have hll:2<=(bx (ns.getD 1 0) p).length/\(bx (ns.getD 1 0) p).length<=4:=by rw[km];exact fb _
  generalize bx (ns.getD 1 0) p=l at*
  have hp2:=hp1.same s2.d
  refine aX ?_
  refine bH (iX (R:=lT) (rda_cons (Cf (lo:=some 2) (hi:=some 150) rfl (S.seq hS) (sU rd_int) (sU rd_int)) (rda_cons (rd_var rfl hp2) rda_nil)) ⟨kx ns (some 2) (some 150),p,hc.1,by have:=sr ns (some 2) (some 150);omega,rfl,rfl⟩) fun v3 H3 hd3 s3=>?_
  walk_at "x"
  have hdl:(drawn (kx ns (some 2) (some 150)) p).length<=63:=by rw[wc];have:=sr ns (some 2) (some 150);omega
  have hok:=xl (kx ns (some 2) (some 150)) hb0 (Int.le_of_lt hl0)
  have hstr:=wd (kx ns (some 2) (some 150)) p
  generalize drawn (kx ns (some 2) (some 150)) p=δs at*
  have hp3:=hp2.same s3.d
  have ht3:=ht2.same s3.d
  refine aX ?_
  refine bH (d:= .list [.list (l.map thD),.list (δs.map be)]) (rd_lst (rda_cons (vJ (rd_var rfl ht3)) (rda_cons (vJ (rd_var rfl hd3)) rda_nil)) (nle rfl)) fun v4 H4 hh4 s4=>?_
  walk_at "x"
  have hp4:=hp3.same s4.d
  refine aX ?_
  refine bH (uD (p:=p) (l:=l) (δs:=δs) (rda_cons (rd_var rfl hp4) (rda_cons (fh (k:=0) (rd_var rfl hh4) rd_int rfl) (rda_cons (fh (k:=1) (rd_var rfl hh4) rd_int rfl) rda_nil))) told (by omega)) fun v5 H5 ha5 s5=>?_
  walk_at "x"
  have hp5:=hp4.same s5.d
  have ht5:=ht3.same (s4.trans s5).d
  have hd5:=hd3.same (s4.trans s5).d
  have hh5:=hh4.same s5.d
  have hrl:=rE p δs (begin_ (look l))
  have hlay:(PyData.list [.list (l.map thD),.list (δs.map be)]).canLay0=true:=by
   simp only[PyData.canLay0,PyData.canLayAll0,oA l hnok,pB δs hstr,Bool.and_self]
  have hdep:(PyData.list [.list (l.map thD),.list (δs.map be)]).depth<=200:=by
   have h1:=kn l
   have h2:=lw δs
   simp only[PyData.depth,PyData.depthAll]
   omega
  refine iP (fun D' nx _=>aW (RdT.to (dC (nP (AM (rda_cons (rd_var rfl ha5) (rda_cons (rd_var rfl hd5) rda_nil)) (by rw[List.length_map,hrl]) (by rw[hrl];omega)))) rfl) nx) fun H6 s6=>?_
  have hp6:=hp5.same s6.d
  have ht6:=ht5.same s6.d
  have hd6:=hd5.same s6.d
  have ha6:=ha5.same s6.d
  have hh6:=hh5.same s6.d
  obtain⟨Pa,rfl,hPa⟩:=bp hp6 rfl
  refine aX ?_
  refine⟨_,rfl,_,rfl,Pa,p,v2,l,rfl,hPa,by omega,by omega,ht6,told.nd,?_,fun H7 adr L7=>?_⟩
  ·exact told.hk
  walk_at "x"
  refine aX ?_
  obtain⟨Ad,ds,rfl,hAd,hds⟩:=cc hd6
  obtain⟨At,ts,rfl,hAt,hts⟩:=cc ha6
  have hsm:=told.sm
  refine rK (m:=δs.length) (rda_cons (Rd1.to (uF (K:=K) (rd_var rfl (hd6.same L7.all.d))) (by rw[List.length_map])) rda_nil) (by omega) fun H8 s8=>?_
  refine vh (fun i σ' H'=>∃x7 adr',σ'=[some (.ref a),some (.ref Pa),some v2,some (.ref Ad),some v4,some (.ref At),some (.ref (adr' .y)),x7,none,none,none,none,none,none,none]/\Lw H6 H' adr' Pa p (l.map (·.1)) (run p (begin_ (look l)) (δs.take i)).2) ⟨none,adr,rfl,L7.same s8⟩ ?_ ?_
  ·rintro i σ' H9 D' hi ⟨x7,adr',rfl,L⟩ _ nx
   obtain⟨δ,hδ⟩:∃δ,δs[i]?=some δ:=⟨δs[i],List.getElem?_eq_getElem hi⟩
   have hrun:=run_get p δs (begin_ (look l)) i δ hδ
   have htk:(run p (begin_ (look l)) (δs.take (i+1))).2=(Y.step p (run p (begin_ (look l)) (δs.take i)).2 δ).2:=by
    rw[List.take_add_one,hδ,Option.toList_some,nU]
   have hD:=pC (p:=p) (δs.take i) (sy (f:=look l))
   obtain⟨vd,g1,g2⟩:=Dhs.at' (k:=i) (d:=be δ) hds (by rw[List.getElem?_map,hδ];rfl)
   obtain⟨vt,g3,g4⟩:=Dhs.at' (k:=i) (d:=anD (Y.step p (run p (begin_ (look l)) (δs.take i)).2 δ).1) hts (by rw[List.getElem?_map,hrun];rfl)
   rw[htk] at nx
   generalize (run p (begin_ (look l)) (δs.take i)).2=s9 at*
   walk_at "x"
   refine mD (K:=K) (v:=vt) (am rfl) (am rfl) (L.all _ _ hAt) (bP g3) H9 _ (Same.refl _) fun H10 s10=>⟨_,rfl,?_⟩
   have L10:=L.same s10
   refine mD (K:=K) (v:=vd) (am rfl) (am rfl) (L10.all _ _ hAd) (bP g1) H10 _ (Same.refl _) fun H11 s11=>?_
   have L11:=L10.same s11
   refine⟨H6,adr',Pa,p,_,s9,vd,δ,rfl,⟨L11,by omega,by rw[List.length_map];omega,hPa⟩,hD,g2.same L11.all.d,fun H12 adr12 v12 L12 e12 h12=>?_⟩
   refine⟨vt,v12,_,rfl,g4.same L12.all.d,h12,⟨true,rfl,?_⟩⟩
   dsimp only
   rw[if_neg (by decide)]
   exact nx _ _ ⟨some (.int (i:Int)),adr12,by rw[e12],L12⟩
  rintro σ' H9 ⟨x7,adr',rfl,L⟩
  rw[List.take_length] at L
  dsimp only[tNext]
  have hv':∀{H':Hp},Same H9 H'->Same H6 H':=fun sm=>L.all.trans sm
  obtain⟨ss,Ls,hsl⟩:=wt told.nd
  obtain⟨ord,hord⟩:=BQ (p:=p) Ls δs
  have s9:=L.all
  have hol:∀i,i<p.count->(ord i).length<=4:=fun i hi=>by
   obtain⟨kvs,_,hcl⟩:=L.at' (.cd i) hi
   have:=len_sub (m:=l.map (·.1)) (hord i).nd fun n hn=>by
    have h:((run p (begin_ (look l)) δs).2.cp (i:Int) n).isSome=true:=((hord i).mem n).mp hn
    rw[<-hcl.isSome] at h
    obtain⟨v,hv⟩:=Option.isSome_iff_exists.mp h
    obtain⟨m,e1,e2⟩:=hcl.ks _ (tu hv)
    have e1:(Sum.inr n:Key)=Sum.inr m:=e1
    cases e1
    exact e2
   rw[List.length_map] at this
   omega
  refine aX ?_
  refine bH (wI (p:=p) (l:=l) (δs:=δs) (ord:=ord) (rda_cons (rd_var rfl (hp6.same s9.d)) (rda_cons (fh (k:=0) (rd_var rfl (hh6.same s9.d)) rd_int rfl) (rda_cons (fh (k:=1) (rd_var rfl (hh6.same s9.d)) rd_int rfl) rda_nil))) told (by omega) (by omega) fun i _=>hord i) fun v8 H10 hc10 s10=>?_
  walk_at "x"
  have L10:=L.same s10
  refine iP (fun D' nx _=>aW (RdT.to (rD (dC (nP (Cc (n:="list") (rd_var rfl hc10) (by decide)))) fun _=>ay (CU (uF (rd_var rfl hc10)) (rd_it0 (rd_var rfl (hp6.same L10.all.d))))) (by simp[mt,AS,bv])) nx) fun H11 s11=>?_
  have L11:=L10.same s11
  have hc11:=hc10.same s11.d
  refine vG (fun σ' H'=>∃x9 x10 x11 x13,σ'=[some (.ref a),some (.ref Pa),some v2,some (.ref Ad),some v4,some (.ref At),some (.ref (adr' .y)),x7,some v8,x9,x10,x11,none,x13,none]/\Same H11 H') (fun D' nx rt=>?_) ?_
  ·refine C4 (m:=p.count) (fun i σ' H'=>∃x9 x10 x11 x13,σ'=[some (.ref a),some (.ref Pa),some v2,some (.ref Ad),some v4,some (.ref At),some (.ref (adr' .y)),x7,some v8,x9,x10,x11,none,x13,none]) (rda_cons (rd_it0 (rd_var rfl (hp6.same L11.all.d))) rda_nil) (by omega) (fun H12 s12=>⟨none,none,none,none,rfl⟩) ?_ ?_
   ·rintro i σ' H12 D2 hi s12 ⟨x9,x10,x11,x13,rfl⟩ _ nx2
    walk_at "x"
    have L12:=L11.same s12
    refine aX ?_
    refine dU (mW L12 (am rfl) hi (am rfl)) fun H13 s13=>?_
    walk_at "x"
    have L13:=L12.same s13
    obtain⟨kvs,hcd,hcl⟩:=L13.at' (.cd i) hi
    refine vG (fun σ' H'=>∃v11,σ'=[some (.ref a),some (.ref Pa),some v2,some (.ref Ad),some v4,some (.ref At),some (.ref (adr' .y)),x7,some v8,some (.int (i:Int)),some (.ref (adr' (.cd i))),some v11,none,none,none]/\Same H13 H'/\Dh H' v11 (.list ((ord i).map (gh ((run p (begin_ (look l)) δs).2.cp (i:Int)))))) (fun D3 nx3 _=>?_) ?_
    ·simp only[CW,List.set_cons_zero,List.set_cons_succ]
     obtain⟨ks,hks⟩:∃ks:List Str,kvs.map (·.1)=ks.map (fun x=>(Sum.inr x:Key)):=by
      have:=hcl.ks
      clear hcl hcd
      induction kvs with
      |nil=>exact⟨[],rfl⟩
      |cons kv r ih=>
       obtain⟨n,e,_⟩:=this kv List.mem_cons_self
       obtain⟨ks,h⟩:=ih fun x hx=>this x (List.mem_cons_of_mem _ hx)
       exact⟨n::ks,by rw[List.map_cons,List.map_cons,h,e]⟩
     have hmem:∀n,n∈ks↔((run p (begin_ (look l)) δs).2.cp (i:Int) n).isSome=true:=fun n=>by
      rw[<-hcl.isSome]
      constructor
      ·intro h
       have:(Sum.inr n:Key)∈kvs.map (·.1):=by rw[hks];exact List.mem_map.mpr ⟨n,h,rfl⟩
       cases e:valV kvs (Sum.inr n) with
       |none=>exact absurd this (lp e)
       |some v=>rfl
      ·intro h
       obtain⟨v,hv⟩:=Option.isSome_iff_exists.mp h
       have:=pV hv
       rw[hks] at this
       obtain⟨m,hm,e⟩:=List.mem_map.mp this
       cases e
       exact hm
     have hkn:ks.Nodup:=by
      have:=hcl.nd
      rw[hks] at this
      exact(List.pairwise_map.mp this).imp fun h e=>h (by rw[e])
     have hkl:ks.length<=900:=by
      have h1:=hcl.len
      have h2:=congrArg List.length hks
      rw[List.length_map,List.length_map] at h2
      rw[List.length_map] at h1
      omega
     refine zc (K:=K) (ds:=(ord i).map .str) (fun j=>gh ((run p (begin_ (look l)) δs).2.cp (i:Int)) ((ord i).getD j "")) ?_ (Nat.le_refl _) (by rw[List.length_map];have:=hol i hi;omega) (fun j=>sq _ _) (fun j d v H' hj sm hv=>?_) fun v11 H14 hv14 s14=>nx3 _ _ ⟨v11,rfl,s14,?_⟩
     ·exact ze (xs:=ks) (yY (am rfl) hcd hks) (by have h1:=hcl.len;have h2:=congrArg List.length hks;rw[List.length_map,List.length_map] at h2;rw[List.length_map] at h1;omega) fun ss' hp so=>(Listed.of hkn hmem hp so).uniq (hord i)
     ·rw[List.getElem?_map] at hj
      obtain⟨n,hn,rfl⟩:=Option.map_eq_some_iff.mp hj
      obtain rfl:=gA hv
      rw[List.getD_eq_getElem?_getD,hn]
      have hs:((run p (begin_ (look l)) δs).2.cp (i:Int) n).isSome=true:=((hord i).mem n).mp (List.mem_of_getElem? hn)
      obtain⟨x,hx⟩:=Option.isSome_iff_exists.mp hs
      obtain⟨b,hb1,hb2⟩:=hcl.so n x hx
      show Rd1 _ _ _ (gh _ n)
      rw[zD hx]
      exact AI (ds:=[.str n]) (es:=[.int x.value,.int x.version,.int x.till]) (rd_tup (rda_cons (rd_var rfl (.str _)) rda_nil) (nle rfl)) ((bJ (k:=Sum.inr n) (am rfl) (am rfl) (sm _ _ hcd) hb1).rd (.tup (sm _ _ hb2) (.cons (.int _) (.cons (.int _) (.cons (.int _) .nil))))) (by simp) (by simp) (nle rfl)
     ·rw[List.length_map] at hv14
      have e:(List.range (ord i).length).map (fun j=>gh ((run p (begin_ (look l)) δs).2.cp (i:Int)) ((ord i).getD j ""))=(ord i).map (gh ((run p (begin_ (look l)) δs).2.cp (i:Int))):=by
       apply List.ext_getElem
       ·simp
       ·intro j h1 h2
        have:j<(ord i).length:=by simpa using h2
        simp[this]
      rw[e] at hv14
      exact hv14
    rintro σ3 H14 ⟨v11,rfl,s14,hk14⟩
    have hc14:=hc11.same (s12.trans (s13.trans s14)).d
    refine aW (RdT.to (dC (nP (Be (n:=2) (d:= .list ((ord i).map (gh ((run p (begin_ (look l)) δs).2.cp (i:Int))))) (rda_cons (fh (k:=i) (rd_var rfl hc14) (rd_var rfl (.int _)) (by rw[List.getElem?_map,List.getElem?_range hi];rfl)) (rda_cons (rd_var rfl hk14) rda_nil)) (by unfold PyData.depth;exact Nat.succ_le_succ (mv _ _)) (by simp only[lenOk];exact⟨by rw[List.length_map];have:=hol i hi;omega,pA _ _⟩)))) rfl) fun H15 s15=>nx2 _ _ ⟨_,_,_,_,rfl⟩ (s13.trans (s14.trans s15))
   ·rintro σ' H12 ⟨x9,x10,x11,x13,rfl⟩ s12
    exact nx _ _ ⟨x9,x10,x11,x13,rfl,s12⟩
  rintro σ' H12 ⟨x9,x10,x11,x13,rfl,s12⟩
  have L12:=L11.same s12
  refine aX ?_
  refine rC [] rda_nil (nle rfl) fun A12 ys12 H13 hA0 hA1 hx1 s13=>?_
  walk_at "x"
  have T:One H12 H13 A12 []:=⟨⟨ys12,hA1,hx1⟩,rfl,hA0,s13⟩
  have ht13:=ht6.same (L12.same s13).all.d
  refine vG (fun σ' H'=>∃x13 x14,σ'=[some (.ref a),some (.ref Pa),some v2,some (.ref Ad),some v4,some (.ref At),some (.ref (adr' .y)),x7,some v8,x9,x10,x11,some (.ref A12),x13,x14]/\One H12 H' A12 (ss.map (hZ (run p (begin_ (look l)) δs).2))) (fun D' nx rt=>?_) ?_
  ·refine Cw (ss:=ss) (A:=A12) (fun i σ' H'=>∃x13 x14,σ'=[some (.ref a),some (.ref Pa),some v2,some (.ref Ad),some v4,some (.ref At),some (.ref (adr' .y)),x7,some v8,x9,x10,x11,some (.ref A12),x13,x14]/\One H12 H' A12 ((ss.take i).map (hZ (run p (begin_ (look l)) δs).2))) hA1 (wL (xs:=l.map (·.1)) (Rd1.to (yW (f:=fun i=> .str ((l.map (·.1)).getD i "")) (rd_var rfl ht13) (Nat.le_refl 15) (by rw[List.length_map];omega) (fun _=>rfl) fun i d v H' hd _ hv=>?_) (by rw[List.length_map,show l.length=(l.map (·.1)).length from(List.length_map _).symm,range_getD])) (by rw[List.length_map];omega) fun ss' hp so=>(Listed.of told.nd iz hp so).uniq Ls) (fun H14 s14=>⟨_,_,rfl,T.same s14⟩) ?_ ?_
   ·rw[List.getElem?_map] at hd
    obtain⟨e,he,rfl⟩:=Option.map_eq_some_iff.mp hd
    rw[List.getD_eq_getElem?_getD,List.getElem?_map,he]
    exact rd_it0 (rd_var rfl hv)
   ·rintro i n σ' H14 D2 hn ⟨x13',x14',rfl,T14⟩ _ nx2
    have hnm:n∈l.map (·.1):=(iz n).mpr ((Ls.mem n).mp (List.mem_of_getElem? hn))
    obtain⟨t,ht⟩:=Cg (p:=p) δs hnm
    have L14:=L12.same T14.all
    walk_at "x"
    refine aX ?_
    refine dU (mX L14 (am rfl) hnm (am rfl)) fun H15 s15=>?_
    walk_at "x"
    have T15:=T14.same s15
    have L15:=L14.same s15
    refine T15.app (hZ (run p (begin_ (look l)) δs).2 n) rfl (by rw[List.length_map,List.length_take];omega) (Rd1.to (rd_tup (rda_cons (rd_var rfl (.str _)) (rda_cons ((jO L15 ht (am rfl)).rd (.int _)) (rda_cons ((dW L15 ht (am rfl)).rd (.int _)) rda_nil))) (nle rfl)) (AW ht).symm) (zo _ _) fun H16 T16 kp=>nx2 _ _ ⟨_,_,rfl,?_⟩ fun b o e nb=>kp b o (s15 _ _ e) nb
    rw[List.take_add_one,hn,List.map_append]
    exact T16
   ·rintro σ' H14 ⟨x13',x14',rfl,T14⟩
    rw[List.take_length] at T14
    exact nx _ _ ⟨x13',x14',rfl,T14⟩
  rintro σ' H14 ⟨x13',x14',rfl,T14⟩
  have S14:Same H6 H14:=L12.all.trans T14.all
  refine iP (fun D' nx _=>aW (RdT.to (dC (nP (Be (n:=2) (d:= .list (ss.map (hZ (run p (begin_ (look l)) δs).2))) (rda_cons (wK (p:=p) (l:=l) (δs:=δs) (ss:=ss) (rda_cons (rd_var rfl (hp6.same S14.d)) (rda_cons (fh (k:=0) (rd_var rfl (hh6.same S14.d)) rd_int rfl) (rda_cons (fh (k:=1) (rd_var rfl (hh6.same S14.d)) rd_int rfl) rda_nil))) told (by omega) (by omega) Ls) (rda_cons (rd_var rfl T14.dh) rda_nil)) (by unfold PyData.depth;exact Nat.succ_le_succ (oH _ _)) (by simp only[lenOk];exact⟨by rw[List.length_map,hsl];omega,pX _ _⟩)))) rfl) nx) fun H15 s15=>?_
  have S15:=S14.trans s15
  exact bc (Rd1.to (yT (rd_var rfl (hh6.same S15.d)) (rd_lst (rda_cons (rd_var rfl (ht6.same S15.d)) (rda_cons (rd_var rfl (hd6.same S15.d)) rda_nil)) (nle rfl)) hlay hlay (jY hr (Nat.le_trans (Nat.min_le_left _ _) hdep))) (by rw[PySem.SeqAt.eqv_refl _ hlay])) fun v H16 hv _=>by
   obtain rfl:=A0 hv
   exact q H16
end
section
variable {P : Program} {w : World} {K : PySem.W.Frag} {mg : Str → Option Value} {base : Heap} {C : Addr}
open Y
theorem all_mk{l:PySem.W.OpenLaw}{h:Heap}{fa f58 f57 f56 f60 f62 f2 f6 f9 f4 f5 f8 f3 f7 f10 f0 f1 f11 f24 f26 f25 f23 f14 f28 f21 f18 f27 f29 f19 f20 f15 f16 f17 f22 f13 f12 f54 f52 f61 f53 f63 f51 f55 f45 f49 f31 f43 f41 f46 f47 f35 f36 f40 f30 f38 f42 f34 f32 f44 f33 f39 f48 f50 f37 f59 C_Thing C_Copy C_Desk C_Yard C_NoDesk C_NoThing C_Stopped C_NoClock C_NoAnswer:Addr}(X:K.In h)(G:h.Ns mainGlobals mg)(hfa:mg "law"=some (.ref fa))
  {od58 an58 od57 an57 od56 an56 od60 an60 od62 an62 od2 an2 od6 an6 od9 an9 od4 an4 od5 an5 od8 an8 od3 an3 od7 an7 od10 an10 od0 an0 od1 an1 od11 an11 od24 an24 od26 an26 od25 an25 od23 an23 od14 an14 od28 an28 od21 an21 od18 an18 od27 an27 od29 an29 od19 an19 od20 an20 od15 an15 od16 an16 od17 an17 od22 an22 od13 an13 od12 an12 od54 an54 od52 an52 od61 an61 od53 an53 od63 an63 od51 an51 od55 an55 od45 an45 od49 an49 od31 an31 od43 an43 od41 an41 od46 an46 od47 an47 od35 an35 od36 an36 od40 an40 od30 an30 od38 an38 od42 an42 od34 an34 od32 an32 od44 an44 od33 an33 od39 an39 od48 an48 od50 an50 od37 an37 od59 an59:Option Addr}{sl58 sl57 sl56 sl60 sl62 sl2 sl6 sl9 sl4 sl5 sl8 sl3 sl7 sl10 sl0 sl1 sl11 sl24 sl26 sl25 sl23 sl14 sl28 sl21 sl18 sl27 sl29 sl19 sl20 sl15 sl16 sl17 sl22 sl13 sl12 sl54 sl52 sl61 sl53 sl63 sl51 sl55 sl45 sl49 sl31 sl43 sl41 sl46 sl47 sl35 sl36 sl40 sl30 sl38 sl42 sl34 sl32 sl44 sl33 sl39 sl48 sl50 sl37 sl59:Array (Option Value)}{oc58 kV58 dc58 pm58 cd58 ct58 oc57 kV57 dc57 pm57 cd57 ct57 oc56 kV56 dc56 pm56 cd56 ct56 oc60 kV60 dc60 pm60 cd60 ct60 oc62 kV62 dc62 pm62 cd62 ct62 oc2 kV2 dc2 pm2 cd2 ct2 oc6 kV6 dc6 pm6 cd6 ct6 oc9 kV9 dc9 pm9 cd9 ct9 oc4 kV4 dc4 pm4 cd4 ct4 oc5 kV5 dc5 pm5 cd5 ct5 oc8 kV8 dc8 pm8 cd8 ct8 oc3 kV3 dc3 pm3 cd3 ct3 oc7 kV7 dc7 pm7 cd7 ct7 oc10 kV10 dc10 pm10 cd10 ct10 oc0 kV0 dc0 pm0 cd0 ct0 oc1 kV1 dc1 pm1 cd1 ct1 oc11 kV11 dc11 pm11 cd11 ct11 oc24 kV24 dc24 pm24 cd24 ct24 oc26 kV26 dc26 pm26 cd26 ct26 oc25 kV25 dc25 pm25 cd25 ct25 oc23 kV23 dc23 pm23 cd23 ct23 oc14 kV14 dc14 pm14 cd14 ct14 oc28 kV28 dc28 pm28 cd28 ct28 oc21 kV21 dc21 pm21 cd21 ct21 oc18 kV18 dc18 pm18 cd18 ct18 oc27 kV27 dc27 pm27 cd27 ct27 oc29 kV29 dc29 pm29 cd29 ct29 oc19 kV19 dc19 pm19 cd19 ct19 oc20 kV20 dc20 pm20 cd20 ct20 oc15 kV15 dc15 pm15 cd15 ct15 oc16 kV16 dc16 pm16 cd16 ct16 oc17 kV17 dc17 pm17 cd17 ct17 oc22 kV22 dc22 pm22 cd22 ct22 oc13 kV13 dc13 pm13 cd13 ct13 oc12 kV12 dc12 pm12 cd12 ct12 oc54 kV54 dc54 pm54 cd54 ct54 oc52 kV52 dc52 pm52 cd52 ct52 oc61 kV61 dc61 pm61 cd61 ct61 oc53 kV53 dc53 pm53 cd53 ct53 oc63 kV63 dc63 pm63 cd63 ct63 oc51 kV51 dc51 pm51 cd51 ct51 oc55 kV55 dc55 pm55 cd55 ct55 oc45 kV45 dc45 pm45 cd45 ct45 oc49 kV49 dc49 pm49 cd49 ct49 oc31 kV31 dc31 pm31 cd31 ct31 oc43 kV43 dc43 pm43 cd43 ct43 oc41 kV41 dc41 pm41 cd41 ct41 oc46 kV46 dc46 pm46 cd46 ct46 oc47 kV47 dc47 pm47 cd47 ct47 oc35 kV35 dc35 pm35 cd35 ct35 oc36 kV36 dc36 pm36 cd36 ct36 oc40 kV40 dc40 pm40 cd40 ct40 oc30 kV30 dc30 pm30 cd30 ct30 oc38 kV38 dc38 pm38 cd38 ct38 oc42 kV42 dc42 pm42 cd42 ct42 oc34 kV34 dc34 pm34 cd34 ct34 oc32 kV32 dc32 pm32 cd32 ct32 oc44 kV44 dc44 pm44 cd44 ct44 oc33 kV33 dc33 pm33 cd33 ct33 oc39 kV39 dc39 pm39 cd39 ct39 oc48 kV48 dc48 pm48 cd48 ct48 oc50 kV50 dc50 pm50 cd50 ct50 oc37 kV37 dc37 pm37 cd37 ct37 oc59 kV59 dc59 pm59 cd59 ct59:Value}
  (qi:PySem.W.nsIn K mainGlobals "Thing"=some (some (.ref C_Thing)))
  (nK:PySem.W.plainGet K C_Thing Str.empty=true)
  (mG:PySem.W.hasDictIn K C_Thing=true)
  (nN:PySem.W.plainOver K C_Thing=true)
  (nV:PySem.W.findIn K (.ref C_Thing) "__setattr__"=some (some (.builtin "object.__setattr__")))
  (mk_Thing:PySem.W.makesIn K C_Thing=true)
  (kc_Thing:PySem.W.keepIn K (.ref C_Thing)=true)
  (eU:PySem.W.findIn K (.ref C_Thing) "keeper"=some none)
  (fP:PySem.W.findIn K (.ref C_Thing) "value"=some none)
  (dY:PySem.W.findIn K (.ref C_Thing) "version"=some none)
  (fN:PySem.W.findIn K (.ref C_Thing) "notes"=some none)
  (fO:PySem.W.findIn K (.ref C_Thing) "quiet"=some none)
  (dZ:PySem.W.findIn K (.ref C_Thing) "waiting"=some none)
  (tG:PySem.W.nsIn K mainGlobals "Copy"=some (some (.ref C_Copy)))
  (rh:PySem.W.plainGet K C_Copy Str.empty=true)
  (qx:PySem.W.hasDictIn K C_Copy=true)
  (rm:PySem.W.plainOver K C_Copy=true)
  (rF:PySem.W.findIn K (.ref C_Copy) "__setattr__"=some (some (.builtin "object.__setattr__")))
  (mk_Copy:PySem.W.makesIn K C_Copy=true)
  (kc_Copy:PySem.W.keepIn K (.ref C_Copy)=true)
  (gn:PySem.W.findIn K (.ref C_Copy) "value"=some none)
  (eR:PySem.W.findIn K (.ref C_Copy) "version"=some none)
  (gm:PySem.W.findIn K (.ref C_Copy) "until"=some none)
  (tH:PySem.W.nsIn K mainGlobals "Desk"=some (some (.ref C_Desk)))
  (rj:PySem.W.plainGet K C_Desk Str.empty=true)
  (qy:PySem.W.hasDictIn K C_Desk=true)
  (rn:PySem.W.plainOver K C_Desk=true)
  (rG:PySem.W.findIn K (.ref C_Desk) "__setattr__"=some (some (.builtin "object.__setattr__")))
  (mk_Desk:PySem.W.makesIn K C_Desk=true)
  (kc_Desk:PySem.W.keepIn K (.ref C_Desk)=true)
  (fM:PySem.W.findIn K (.ref C_Desk) "offset"=some none)
  (eS:PySem.W.findIn K (.ref C_Desk) "stopped"=some none)
  (fL:PySem.W.findIn K (.ref C_Desk) "copies"=some none)
  (tJ:PySem.W.nsIn K mainGlobals "Yard"=some (some (.ref C_Yard)))
  (rl:PySem.W.plainGet K C_Yard Str.empty=true)
  (qz:PySem.W.hasDictIn K C_Yard=true)
  (rp:PySem.W.plainOver K C_Yard=true)
  (rH:PySem.W.findIn K (.ref C_Yard) "__setattr__"=some (some (.builtin "object.__setattr__")))
  (mk_Yard:PySem.W.makesIn K C_Yard=true)
  (kc_Yard:PySem.W.keepIn K (.ref C_Yard)=true)
  (fQ:PySem.W.findIn K (.ref C_Yard) "length"=some none)
  (gp:PySem.W.findIn K (.ref C_Yard) "bound"=some none)
  (du:PySem.W.findIn K (.ref C_Yard) "true_time"=some none)
  (gq:PySem.W.findIn K (.ref C_Yard) "desks"=some none)
  (fR:PySem.W.findIn K (.ref C_Yard) "things"=some none)
  (mm:PySem.W.nsIn K mainGlobals "NoDesk"=some (some (.ref C_NoDesk)))
  (oI:PySem.W.excIn K C_NoDesk valMro "ValueError.__new__"=true)
  (xm_11:PySem.W.exmOne K (.ref C_NoDesk) (.ref C_NoDesk)=some true)
  (kq:PySem.W.nsIn K mainGlobals "NoThing"=some (some (.ref C_NoThing)))
  (lr:PySem.W.excIn K C_NoThing valMro "ValueError.__new__"=true)
  (xm_21:PySem.W.exmOne K (.ref C_NoThing) (.ref C_NoDesk)=some false)
  (xm_22:PySem.W.exmOne K (.ref C_NoThing) (.ref C_NoThing)=some true)
  (kr:PySem.W.nsIn K mainGlobals "Stopped"=some (some (.ref C_Stopped)))
  (ls:PySem.W.excIn K C_Stopped valMro "ValueError.__new__"=true)
  (xm_31:PySem.W.exmOne K (.ref C_Stopped) (.ref C_NoDesk)=some false)
  (xm_32:PySem.W.exmOne K (.ref C_Stopped) (.ref C_NoThing)=some false)
  (xm_33:PySem.W.exmOne K (.ref C_Stopped) (.ref C_Stopped)=some true)
  (ko:PySem.W.nsIn K mainGlobals "NoClock"=some (some (.ref C_NoClock)))
  (lq:PySem.W.excIn K C_NoClock valMro "ValueError.__new__"=true)
  (xm_41:PySem.W.exmOne K (.ref C_NoClock) (.ref C_NoDesk)=some false)
  (xm_42:PySem.W.exmOne K (.ref C_NoClock) (.ref C_NoThing)=some false)
  (xm_43:PySem.W.exmOne K (.ref C_NoClock) (.ref C_Stopped)=some false)
  (xm_44:PySem.W.exmOne K (.ref C_NoClock) (.ref C_NoClock)=some true)
  (jg:PySem.W.nsIn K mainGlobals "NoAnswer"=some (some (.ref C_NoAnswer)))
  (jx:PySem.W.excIn K C_NoAnswer valMro "ValueError.__new__"=true)
  (xm_51:PySem.W.exmOne K (.ref C_NoAnswer) (.ref C_NoDesk)=some false)
  (xm_52:PySem.W.exmOne K (.ref C_NoAnswer) (.ref C_NoThing)=some false)
  (xm_53:PySem.W.exmOne K (.ref C_NoAnswer) (.ref C_Stopped)=some false)
  (xm_54:PySem.W.exmOne K (.ref C_NoAnswer) (.ref C_NoClock)=some false)
  (xm_55:PySem.W.exmOne K (.ref C_NoAnswer) (.ref C_NoAnswer)=some true)
  (a58:PySem.W.nsIn K mainGlobals "last_fresh"=some (some (.ref f58)))
  (l58:K.lookup f58=some ⟨oc58,od58,.func (PySem.W.fnOf "last_fresh" "last_fresh" (defArgs (top 8)) (defBody (top 8)) (defScope (top 8)) .none kV58 dc58 pm58 an58 cd58 ct58),sl58⟩)
  (c58:PySem.W.codeIn K cd58 "last_fresh"=true)
  (k58:PySem.W.keepIn K (.ref f58)=true)
  (a57:PySem.W.nsIn K mainGlobals "is_fresh"=some (some (.ref f57)))
  (l57:K.lookup f57=some ⟨oc57,od57,.func (PySem.W.fnOf "is_fresh" "is_fresh" (defArgs (top 9)) (defBody (top 9)) (defScope (top 9)) .none kV57 dc57 pm57 an57 cd57 ct57),sl57⟩)
  (c57:PySem.W.codeIn K cd57 "is_fresh"=true)
  (k57:PySem.W.keepIn K (.ref f57)=true)
  (a56:PySem.W.nsIn K mainGlobals "held_until"=some (some (.ref f56)))
  (l56:K.lookup f56=some ⟨oc56,od56,.func (PySem.W.fnOf "held_until" "held_until" (defArgs (top 10)) (defBody (top 10)) (defScope (top 10)) .none kV56 dc56 pm56 an56 cd56 ct56),sl56⟩)
  (c56:PySem.W.codeIn K cd56 "held_until"=true)
  (k56:PySem.W.keepIn K (.ref f56)=true)
  (a60:PySem.W.nsIn K mainGlobals "quiet_until"=some (some (.ref f60)))
  (l60:K.lookup f60=some ⟨oc60,od60,.func (PySem.W.fnOf "quiet_until" "quiet_until" (defArgs (top 11)) (defBody (top 11)) (defScope (top 11)) .none kV60 dc60 pm60 an60 cd60 ct60),sl60⟩)
  (c60:PySem.W.codeIn K cd60 "quiet_until"=true)
  (k60:PySem.W.keepIn K (.ref f60)=true)
  (a62:PySem.W.nsIn K mainGlobals "within"=some (some (.ref f62)))
  (l62:K.lookup f62=some ⟨oc62,od62,.func (PySem.W.fnOf "within" "within" (defArgs (top 12)) (defBody (top 12)) (defScope (top 12)) .none kV62 dc62 pm62 an62 cd62 ct62),sl62⟩)
  (c62:PySem.W.codeIn K cd62 "within"=true)
  (k62:PySem.W.keepIn K (.ref f62)=true)
  (a2:PySem.W.findIn K (.ref C_Thing) "__init__"=some (some (.ref f2)))
  (i2:PySem.W.isFn K (.ref f2)=true)
  (l2:K.lookup f2=some ⟨oc2,od2,.func (PySem.W.fnOf "__init__" "Thing.__init__" (defArgs (inClass (top 14) 0)) (defBody (inClass (top 14) 0)) (defScope (inClass (top 14) 0)) .none kV2 dc2 pm2 an2 cd2 ct2),sl2⟩)
  (c2:PySem.W.codeIn K cd2 "Thing.__init__"=true)
  (k2:PySem.W.keepIn K (.ref f2)=true)
  (a6:PySem.W.findIn K (.ref C_Thing) "lend"=some (some (.ref f6)))
  (i6:PySem.W.isFn K (.ref f6)=true)
  (l6:K.lookup f6=some ⟨oc6,od6,.func (PySem.W.fnOf "lend" "Thing.lend" (defArgs (inClass (top 14) 1)) (defBody (inClass (top 14) 1)) (defScope (inClass (top 14) 1)) .none kV6 dc6 pm6 an6 cd6 ct6),sl6⟩)
  (c6:PySem.W.codeIn K cd6 "Thing.lend"=true)
  (k6:PySem.W.keepIn K (.ref f6)=true)
  (a9:PySem.W.findIn K (.ref C_Thing) "take_back"=some (some (.ref f9)))
  (i9:PySem.W.isFn K (.ref f9)=true)
  (l9:K.lookup f9=some ⟨oc9,od9,.func (PySem.W.fnOf "take_back" "Thing.take_back" (defArgs (inClass (top 14) 2)) (defBody (inClass (top 14) 2)) (defScope (inClass (top 14) 2)) .none kV9 dc9 pm9 an9 cd9 ct9),sl9⟩)
  (c9:PySem.W.codeIn K cd9 "Thing.take_back"=true)
  (k9:PySem.W.keepIn K (.ref f9)=true)
  (a4:PySem.W.findIn K (.ref C_Thing) "come_up"=some (some (.ref f4)))
  (i4:PySem.W.isFn K (.ref f4)=true)
  (l4:K.lookup f4=some ⟨oc4,od4,.func (PySem.W.fnOf "come_up" "Thing.come_up" (defArgs (inClass (top 14) 3)) (defBody (inClass (top 14) 3)) (defScope (inClass (top 14) 3)) .none kV4 dc4 pm4 an4 cd4 ct4),sl4⟩)
  (c4:PySem.W.codeIn K cd4 "Thing.come_up"=true)
  (k4:PySem.W.keepIn K (.ref f4)=true)
  (a5:PySem.W.findIn K (.ref C_Thing) "go_down"=some (some (.ref f5)))
  (i5:PySem.W.isFn K (.ref f5)=true)
  (l5:K.lookup f5=some ⟨oc5,od5,.func (PySem.W.fnOf "go_down" "Thing.go_down" (defArgs (inClass (top 14) 4)) (defBody (inClass (top 14) 4)) (defScope (inClass (top 14) 4)) .none kV5 dc5 pm5 an5 cd5 ct5),sl5⟩)
  (c5:PySem.W.codeIn K cd5 "Thing.go_down"=true)
  (k5:PySem.W.keepIn K (.ref f5)=true)
  (a8:PySem.W.findIn K (.ref C_Thing) "put_up"=some (some (.ref f8)))
  (i8:PySem.W.isFn K (.ref f8)=true)
  (l8:K.lookup f8=some ⟨oc8,od8,.func (PySem.W.fnOf "put_up" "Thing.put_up" (defArgs (inClass (top 14) 5)) (defBody (inClass (top 14) 5)) (defScope (inClass (top 14) 5)) .none kV8 dc8 pm8 an8 cd8 ct8),sl8⟩)
  (c8:PySem.W.codeIn K cd8 "Thing.put_up"=true)
  (k8:PySem.W.keepIn K (.ref f8)=true)
  (a3:PySem.W.findIn K (.ref C_Thing) "attempt"=some (some (.ref f3)))
  (i3:PySem.W.isFn K (.ref f3)=true)
  (l3:K.lookup f3=some ⟨oc3,od3,.func (PySem.W.fnOf "attempt" "Thing.attempt" (defArgs (inClass (top 14) 6)) (defBody (inClass (top 14) 6)) (defScope (inClass (top 14) 6)) .none kV3 dc3 pm3 an3 cd3 ct3),sl3⟩)
  (c3:PySem.W.codeIn K cd3 "Thing.attempt"=true)
  (k3:PySem.W.keepIn K (.ref f3)=true)
  (a7:PySem.W.findIn K (.ref C_Thing) "noted_untils"=some (some (.ref f7)))
  (i7:PySem.W.isFn K (.ref f7)=true)
  (l7:K.lookup f7=some ⟨oc7,od7,.func (PySem.W.fnOf "noted_untils" "Thing.noted_untils" (defArgs (inClass (top 14) 7)) (defBody (inClass (top 14) 7)) (defScope (inClass (top 14) 7)) .none kV7 dc7 pm7 an7 cd7 ct7),sl7⟩)
  (c7:PySem.W.codeIn K cd7 "Thing.noted_untils"=true)
  (k7:PySem.W.keepIn K (.ref f7)=true)
  (a10:PySem.W.findIn K (.ref C_Thing) "take_change"=some (some (.ref f10)))
  (i10:PySem.W.isFn K (.ref f10)=true)
  (l10:K.lookup f10=some ⟨oc10,od10,.func (PySem.W.fnOf "take_change" "Thing.take_change" (defArgs (inClass (top 14) 8)) (defBody (inClass (top 14) 8)) (defScope (inClass (top 14) 8)) .none kV10 dc10 pm10 an10 cd10 ct10),sl10⟩)
  (c10:PySem.W.codeIn K cd10 "Thing.take_change"=true)
  (k10:PySem.W.keepIn K (.ref f10)=true)
  (a0:PySem.W.findIn K (.ref C_Copy) "__init__"=some (some (.ref f0)))
  (i0:PySem.W.isFn K (.ref f0)=true)
  (l0:K.lookup f0=some ⟨oc0,od0,.func (PySem.W.fnOf "__init__" "Copy.__init__" (defArgs (inClass (top 16) 0)) (defBody (inClass (top 16) 0)) (defScope (inClass (top 16) 0)) .none kV0 dc0 pm0 an0 cd0 ct0),sl0⟩)
  (c0:PySem.W.codeIn K cd0 "Copy.__init__"=true)
  (k0:PySem.W.keepIn K (.ref f0)=true)
  (a1:PySem.W.findIn K (.ref C_Desk) "__init__"=some (some (.ref f1)))
  (i1:PySem.W.isFn K (.ref f1)=true)
  (l1:K.lookup f1=some ⟨oc1,od1,.func (PySem.W.fnOf "__init__" "Desk.__init__" (defArgs (inClass (top 17) 0)) (defBody (inClass (top 17) 0)) (defScope (inClass (top 17) 0)) .none kV1 dc1 pm1 an1 cd1 ct1),sl1⟩)
  (c1:PySem.W.codeIn K cd1 "Desk.__init__"=true)
  (k1:PySem.W.keepIn K (.ref f1)=true)
  (a11:PySem.W.findIn K (.ref C_Yard) "__init__"=some (some (.ref f11)))
  (i11:PySem.W.isFn K (.ref f11)=true)
  (l11:K.lookup f11=some ⟨oc11,od11,.func (PySem.W.fnOf "__init__" "Yard.__init__" (defArgs (inClass (top 18) 0)) (defBody (inClass (top 18) 0)) (defScope (inClass (top 18) 0)) .none kV11 dc11 pm11 an11 cd11 ct11),sl11⟩)
  (c11:PySem.W.codeIn K cd11 "Yard.__init__"=true)
  (k11:PySem.W.keepIn K (.ref f11)=true)
  (a24:PySem.W.findIn K (.ref C_Yard) "pass_time"=some (some (.ref f24)))
  (i24:PySem.W.isFn K (.ref f24)=true)
  (l24:K.lookup f24=some ⟨oc24,od24,.func (PySem.W.fnOf "pass_time" "Yard.pass_time" (defArgs (inClass (top 18) 1)) (defBody (inClass (top 18) 1)) (defScope (inClass (top 18) 1)) .none kV24 dc24 pm24 an24 cd24 ct24),sl24⟩)
  (c24:PySem.W.codeIn K cd24 "Yard.pass_time"=true)
  (k24:PySem.W.keepIn K (.ref f24)=true)
  (a26:PySem.W.findIn K (.ref C_Yard) "shift_clock"=some (some (.ref f26)))
  (i26:PySem.W.isFn K (.ref f26)=true)
  (l26:K.lookup f26=some ⟨oc26,od26,.func (PySem.W.fnOf "shift_clock" "Yard.shift_clock" (defArgs (inClass (top 18) 2)) (defBody (inClass (top 18) 2)) (defScope (inClass (top 18) 2)) .none kV26 dc26 pm26 an26 cd26 ct26),sl26⟩)
  (c26:PySem.W.codeIn K cd26 "Yard.shift_clock"=true)
  (k26:PySem.W.keepIn K (.ref f26)=true)
  (a25:PySem.W.findIn K (.ref C_Yard) "read_thing"=some (some (.ref f25)))
  (i25:PySem.W.isFn K (.ref f25)=true)
  (l25:K.lookup f25=some ⟨oc25,od25,.func (PySem.W.fnOf "read_thing" "Yard.read_thing" (defArgs (inClass (top 18) 3)) (defBody (inClass (top 18) 3)) (defScope (inClass (top 18) 3)) .none kV25 dc25 pm25 an25 cd25 ct25),sl25⟩)
  (c25:PySem.W.codeIn K cd25 "Yard.read_thing"=true)
  (k25:PySem.W.keepIn K (.ref f25)=true)
  (a23:PySem.W.findIn K (.ref C_Yard) "lend_copy"=some (some (.ref f23)))
  (i23:PySem.W.isFn K (.ref f23)=true)
  (l23:K.lookup f23=some ⟨oc23,od23,.func (PySem.W.fnOf "lend_copy" "Yard.lend_copy" (defArgs (inClass (top 18) 4)) (defBody (inClass (top 18) 4)) (defScope (inClass (top 18) 4)) .none kV23 dc23 pm23 an23 cd23 ct23),sl23⟩)
  (c23:PySem.W.codeIn K cd23 "Yard.lend_copy"=true)
  (k23:PySem.W.keepIn K (.ref f23)=true)
  (a14:PySem.W.findIn K (.ref C_Yard) "ask_change"=some (some (.ref f14)))
  (i14:PySem.W.isFn K (.ref f14)=true)
  (l14:K.lookup f14=some ⟨oc14,od14,.func (PySem.W.fnOf "ask_change" "Yard.ask_change" (defArgs (inClass (top 18) 5)) (defBody (inClass (top 18) 5)) (defScope (inClass (top 18) 5)) .none kV14 dc14 pm14 an14 cd14 ct14),sl14⟩)
  (c14:PySem.W.codeIn K cd14 "Yard.ask_change"=true)
  (k14:PySem.W.keepIn K (.ref f14)=true)
  (a28:PySem.W.findIn K (.ref C_Yard) "try_change"=some (some (.ref f28)))
  (i28:PySem.W.isFn K (.ref f28)=true)
  (l28:K.lookup f28=some ⟨oc28,od28,.func (PySem.W.fnOf "try_change" "Yard.try_change" (defArgs (inClass (top 18) 6)) (defBody (inClass (top 18) 6)) (defScope (inClass (top 18) 6)) .none kV28 dc28 pm28 an28 cd28 ct28),sl28⟩)
  (c28:PySem.W.codeIn K cd28 "Yard.try_change"=true)
  (k28:PySem.W.keepIn K (.ref f28)=true)
  (a21:PySem.W.findIn K (.ref C_Yard) "give_back"=some (some (.ref f21)))
  (i21:PySem.W.isFn K (.ref f21)=true)
  (l21:K.lookup f21=some ⟨oc21,od21,.func (PySem.W.fnOf "give_back" "Yard.give_back" (defArgs (inClass (top 18) 7)) (defBody (inClass (top 18) 7)) (defScope (inClass (top 18) 7)) .none kV21 dc21 pm21 an21 cd21 ct21),sl21⟩)
  (c21:PySem.W.codeIn K cd21 "Yard.give_back"=true)
  (k21:PySem.W.keepIn K (.ref f21)=true)
  (a18:PySem.W.findIn K (.ref C_Yard) "drop_copy"=some (some (.ref f18)))
  (i18:PySem.W.isFn K (.ref f18)=true)
  (l18:K.lookup f18=some ⟨oc18,od18,.func (PySem.W.fnOf "drop_copy" "Yard.drop_copy" (defArgs (inClass (top 18) 8)) (defBody (inClass (top 18) 8)) (defScope (inClass (top 18) 8)) .none kV18 dc18 pm18 an18 cd18 ct18),sl18⟩)
  (c18:PySem.W.codeIn K cd18 "Yard.drop_copy"=true)
  (k18:PySem.W.keepIn K (.ref f18)=true)
  (a27:PySem.W.findIn K (.ref C_Yard) "stop_desk"=some (some (.ref f27)))
  (i27:PySem.W.isFn K (.ref f27)=true)
  (l27:K.lookup f27=some ⟨oc27,od27,.func (PySem.W.fnOf "stop_desk" "Yard.stop_desk" (defArgs (inClass (top 18) 9)) (defBody (inClass (top 18) 9)) (defScope (inClass (top 18) 9)) .none kV27 dc27 pm27 an27 cd27 ct27),sl27⟩)
  (c27:PySem.W.codeIn K cd27 "Yard.stop_desk"=true)
  (k27:PySem.W.keepIn K (.ref f27)=true)
  (a29:PySem.W.findIn K (.ref C_Yard) "wake_desk"=some (some (.ref f29)))
  (i29:PySem.W.isFn K (.ref f29)=true)
  (l29:K.lookup f29=some ⟨oc29,od29,.func (PySem.W.fnOf "wake_desk" "Yard.wake_desk" (defArgs (inClass (top 18) 10)) (defBody (inClass (top 18) 10)) (defScope (inClass (top 18) 10)) .none kV29 dc29 pm29 an29 cd29 ct29),sl29⟩)
  (c29:PySem.W.codeIn K cd29 "Yard.wake_desk"=true)
  (k29:PySem.W.keepIn K (.ref f29)=true)
  (a19:PySem.W.findIn K (.ref C_Yard) "find_desk"=some (some (.ref f19)))
  (i19:PySem.W.isFn K (.ref f19)=true)
  (l19:K.lookup f19=some ⟨oc19,od19,.func (PySem.W.fnOf "find_desk" "Yard.find_desk" (defArgs (inClass (top 18) 11)) (defBody (inClass (top 18) 11)) (defScope (inClass (top 18) 11)) .none kV19 dc19 pm19 an19 cd19 ct19),sl19⟩)
  (c19:PySem.W.codeIn K cd19 "Yard.find_desk"=true)
  (k19:PySem.W.keepIn K (.ref f19)=true)
  (a20:PySem.W.findIn K (.ref C_Yard) "find_thing"=some (some (.ref f20)))
  (i20:PySem.W.isFn K (.ref f20)=true)
  (l20:K.lookup f20=some ⟨oc20,od20,.func (PySem.W.fnOf "find_thing" "Yard.find_thing" (defArgs (inClass (top 18) 12)) (defBody (inClass (top 18) 12)) (defScope (inClass (top 18) 12)) .none kV20 dc20 pm20 an20 cd20 ct20),sl20⟩)
  (c20:PySem.W.codeIn K cd20 "Yard.find_thing"=true)
  (k20:PySem.W.keepIn K (.ref f20)=true)
  (a15:PySem.W.findIn K (.ref C_Yard) "check_asker"=some (some (.ref f15)))
  (i15:PySem.W.isFn K (.ref f15)=true)
  (l15:K.lookup f15=some ⟨oc15,od15,.func (PySem.W.fnOf "check_asker" "Yard.check_asker" (defArgs (inClass (top 18) 13)) (defBody (inClass (top 18) 13)) (defScope (inClass (top 18) 13)) .none kV15 dc15 pm15 an15 cd15 ct15),sl15⟩)
  (c15:PySem.W.codeIn K cd15 "Yard.check_asker"=true)
  (k15:PySem.W.keepIn K (.ref f15)=true)
  (a16:PySem.W.findIn K (.ref C_Yard) "check_keeper"=some (some (.ref f16)))
  (i16:PySem.W.isFn K (.ref f16)=true)
  (l16:K.lookup f16=some ⟨oc16,od16,.func (PySem.W.fnOf "check_keeper" "Yard.check_keeper" (defArgs (inClass (top 18) 14)) (defBody (inClass (top 18) 14)) (defScope (inClass (top 18) 14)) .none kV16 dc16 pm16 an16 cd16 ct16),sl16⟩)
  (c16:PySem.W.codeIn K cd16 "Yard.check_keeper"=true)
  (k16:PySem.W.keepIn K (.ref f16)=true)
  (a17:PySem.W.findIn K (.ref C_Yard) "clock_of"=some (some (.ref f17)))
  (i17:PySem.W.isFn K (.ref f17)=true)
  (l17:K.lookup f17=some ⟨oc17,od17,.func (PySem.W.fnOf "clock_of" "Yard.clock_of" (defArgs (inClass (top 18) 15)) (defBody (inClass (top 18) 15)) (defScope (inClass (top 18) 15)) .none kV17 dc17 pm17 an17 cd17 ct17),sl17⟩)
  (c17:PySem.W.codeIn K cd17 "Yard.clock_of"=true)
  (k17:PySem.W.keepIn K (.ref f17)=true)
  (a22:PySem.W.findIn K (.ref C_Yard) "kept_by"=some (some (.ref f22)))
  (i22:PySem.W.isFn K (.ref f22)=true)
  (l22:K.lookup f22=some ⟨oc22,od22,.func (PySem.W.fnOf "kept_by" "Yard.kept_by" (defArgs (inClass (top 18) 16)) (defBody (inClass (top 18) 16)) (defScope (inClass (top 18) 16)) .none kV22 dc22 pm22 an22 cd22 ct22),sl22⟩)
  (c22:PySem.W.codeIn K cd22 "Yard.kept_by"=true)
  (k22:PySem.W.keepIn K (.ref f22)=true)
  (a13:PySem.W.findIn K (.ref C_Yard) "all_values"=some (some (.ref f13)))
  (i13:PySem.W.isFn K (.ref f13)=true)
  (l13:K.lookup f13=some ⟨oc13,od13,.func (PySem.W.fnOf "all_values" "Yard.all_values" (defArgs (inClass (top 18) 17)) (defBody (inClass (top 18) 17)) (defScope (inClass (top 18) 17)) .none kV13 dc13 pm13 an13 cd13 ct13),sl13⟩)
  (c13:PySem.W.codeIn K cd13 "Yard.all_values"=true)
  (k13:PySem.W.keepIn K (.ref f13)=true)
  (a12:PySem.W.findIn K (.ref C_Yard) "all_copies"=some (some (.ref f12)))
  (i12:PySem.W.isFn K (.ref f12)=true)
  (l12:K.lookup f12=some ⟨oc12,od12,.func (PySem.W.fnOf "all_copies" "Yard.all_copies" (defArgs (inClass (top 18) 18)) (defBody (inClass (top 18) 18)) (defScope (inClass (top 18) 18)) .none kV12 dc12 pm12 an12 cd12 ct12),sl12⟩)
  (c12:PySem.W.codeIn K cd12 "Yard.all_copies"=true)
  (k12:PySem.W.keepIn K (.ref f12)=true)
  (a54:PySem.W.nsIn K mainGlobals "copies_by_name"=some (some (.ref f54)))
  (l54:K.lookup f54=some ⟨oc54,od54,.func (PySem.W.fnOf "copies_by_name" "copies_by_name" (defArgs (top 19)) (defBody (top 19)) (defScope (top 19)) .none kV54 dc54 pm54 an54 cd54 ct54),sl54⟩)
  (c54:PySem.W.codeIn K cd54 "copies_by_name"=true)
  (k54:PySem.W.keepIn K (.ref f54)=true)
  (a52:PySem.W.nsIn K mainGlobals "answers"=some (some (.ref f52)))
  (l52:K.lookup f52=some ⟨oc52,od52,.func (PySem.W.fnOf "answers" "answers" (defArgs (top 21)) (defBody (top 21)) (defScope (top 21)) .none kV52 dc52 pm52 an52 cd52 ct52),sl52⟩)
  (c52:PySem.W.codeIn K cd52 "answers"=true)
  (k52:PySem.W.keepIn K (.ref f52)=true)
  (a61:PySem.W.nsIn K mainGlobals "values_after"=some (some (.ref f61)))
  (l61:K.lookup f61=some ⟨oc61,od61,.func (PySem.W.fnOf "values_after" "values_after" (defArgs (top 22)) (defBody (top 22)) (defScope (top 22)) .none kV61 dc61 pm61 an61 cd61 ct61),sl61⟩)
  (c61:PySem.W.codeIn K cd61 "values_after"=true)
  (k61:PySem.W.keepIn K (.ref f61)=true)
  (a53:PySem.W.nsIn K mainGlobals "copies_after"=some (some (.ref f53)))
  (l53:K.lookup f53=some ⟨oc53,od53,.func (PySem.W.fnOf "copies_after" "copies_after" (defArgs (top 23)) (defBody (top 23)) (defScope (top 23)) .none kV53 dc53 pm53 an53 cd53 ct53),sl53⟩)
  (c53:PySem.W.codeIn K cd53 "copies_after"=true)
  (k53:PySem.W.keepIn K (.ref f53)=true)
  (a63:PySem.W.nsIn K mainGlobals "yard_after"=some (some (.ref f63)))
  (l63:K.lookup f63=some ⟨oc63,od63,.func (PySem.W.fnOf "yard_after" "yard_after" (defArgs (top 24)) (defBody (top 24)) (defScope (top 24)) .none kV63 dc63 pm63 an63 cd63 ct63),sl63⟩)
  (c63:PySem.W.codeIn K cd63 "yard_after"=true)
  (k63:PySem.W.keepIn K (.ref f63)=true)
  (a51:PySem.W.nsIn K mainGlobals "answer_to"=some (some (.ref f51)))
  (l51:K.lookup f51=some ⟨oc51,od51,.func (PySem.W.fnOf "answer_to" "answer_to" (defArgs (top 25)) (defBody (top 25)) (defScope (top 25)) .none kV51 dc51 pm51 an51 cd51 ct51),sl51⟩)
  (c51:PySem.W.codeIn K cd51 "answer_to"=true)
  (k51:PySem.W.keepIn K (.ref f51)=true)
  (a55:PySem.W.nsIn K mainGlobals "do_deed"=some (some (.ref f55)))
  (l55:K.lookup f55=some ⟨oc55,od55,.func (PySem.W.fnOf "do_deed" "do_deed" (defArgs (top 26)) (defBody (top 26)) (defScope (top 26)) .none kV55 dc55 pm55 an55 cd55 ct55),sl55⟩)
  (c55:PySem.W.codeIn K cd55 "do_deed"=true)
  (k55:PySem.W.keepIn K (.ref f55)=true)
  (a45:PySem.W.nsIn K mainGlobals "_law_so"=some (some (.ref f45)))
  (l45:K.lookup f45=some ⟨oc45,od45,.func (PySem.W.fnOf "_law_so" "_law_so" (defArgs (top 28)) (defBody (top 28)) (defScope (top 28)) .none kV45 dc45 pm45 an45 cd45 ct45),sl45⟩)
  (c45:PySem.W.codeIn K cd45 "_law_so"=true)
  (k45:PySem.W.keepIn K (.ref f45)=true)
  (a49:PySem.W.nsIn K mainGlobals "_law_whole"=some (some (.ref f49)))
  (l49:K.lookup f49=some ⟨oc49,od49,.func (PySem.W.fnOf "_law_whole" "_law_whole" (defArgs (top 29)) (defBody (top 29)) (defScope (top 29)) .none kV49 dc49 pm49 an49 cd49 ct49),sl49⟩)
  (c49:PySem.W.codeIn K cd49 "_law_whole"=true)
  (k49:PySem.W.keepIn K (.ref f49)=true)
  (a31:PySem.W.nsIn K mainGlobals "_law_at"=some (some (.ref f31)))
  (l31:K.lookup f31=some ⟨oc31,od31,.func (PySem.W.fnOf "_law_at" "_law_at" (defArgs (top 30)) (defBody (top 30)) (defScope (top 30)) .none kV31 dc31 pm31 an31 cd31 ct31),sl31⟩)
  (c31:PySem.W.codeIn K cd31 "_law_at"=true)
  (k31:PySem.W.keepIn K (.ref f31)=true)
  (a43:PySem.W.nsIn K mainGlobals "_law_plan_by"=some (some (.ref f43)))
  (l43:K.lookup f43=some ⟨oc43,od43,.func (PySem.W.fnOf "_law_plan_by" "_law_plan_by" (defArgs (top 31)) (defBody (top 31)) (defScope (top 31)) .none kV43 dc43 pm43 an43 cd43 ct43),sl43⟩)
  (c43:PySem.W.codeIn K cd43 "_law_plan_by"=true)
  (k43:PySem.W.keepIn K (.ref f43)=true)
  (a41:PySem.W.nsIn K mainGlobals "_law_name_called"=some (some (.ref f41)))
  (l41:K.lookup f41=some ⟨oc41,od41,.func (PySem.W.fnOf "_law_name_called" "_law_name_called" (defArgs (top 32)) (defBody (top 32)) (defScope (top 32)) .none kV41 dc41 pm41 an41 cd41 ct41),sl41⟩)
  (c41:PySem.W.codeIn K cd41 "_law_name_called"=true)
  (k41:PySem.W.keepIn K (.ref f41)=true)
  (a46:PySem.W.nsIn K mainGlobals "_law_things_by"=some (some (.ref f46)))
  (l46:K.lookup f46=some ⟨oc46,od46,.func (PySem.W.fnOf "_law_things_by" "_law_things_by" (defArgs (top 33)) (defBody (top 33)) (defScope (top 33)) .none kV46 dc46 pm46 an46 cd46 ct46),sl46⟩)
  (c46:PySem.W.codeIn K cd46 "_law_things_by"=true)
  (k46:PySem.W.keepIn K (.ref f46)=true)
  (a47:PySem.W.nsIn K mainGlobals "_law_time"=some (some (.ref f47)))
  (l47:K.lookup f47=some ⟨oc47,od47,.func (PySem.W.fnOf "_law_time" "_law_time" (defArgs (top 34)) (defBody (top 34)) (defScope (top 34)) .none kV47 dc47 pm47 an47 cd47 ct47),sl47⟩)
  (c47:PySem.W.codeIn K cd47 "_law_time"=true)
  (k47:PySem.W.keepIn K (.ref f47)=true)
  (a35:PySem.W.nsIn K mainGlobals "_law_deed_of"=some (some (.ref f35)))
  (l35:K.lookup f35=some ⟨oc35,od35,.func (PySem.W.fnOf "_law_deed_of" "_law_deed_of" (defArgs (top 35)) (defBody (top 35)) (defScope (top 35)) .none kV35 dc35 pm35 an35 cd35 ct35),sl35⟩)
  (c35:PySem.W.codeIn K cd35 "_law_deed_of"=true)
  (k35:PySem.W.keepIn K (.ref f35)=true)
  (a36:PySem.W.nsIn K mainGlobals "_law_drawn"=some (some (.ref f36)))
  (l36:K.lookup f36=some ⟨oc36,od36,.func (PySem.W.fnOf "_law_drawn" "_law_drawn" (defArgs (top 36)) (defBody (top 36)) (defScope (top 36)) .none kV36 dc36 pm36 an36 cd36 ct36),sl36⟩)
  (c36:PySem.W.codeIn K cd36 "_law_drawn"=true)
  (k36:PySem.W.keepIn K (.ref f36)=true)
  (a40:PySem.W.nsIn K mainGlobals "_law_kind"=some (some (.ref f40)))
  (l40:K.lookup f40=some ⟨oc40,od40,.func (PySem.W.fnOf "_law_kind" "_law_kind" (defArgs (top 37)) (defBody (top 37)) (defScope (top 37)) .none kV40 dc40 pm40 an40 cd40 ct40),sl40⟩)
  (c40:PySem.W.codeIn K cd40 "_law_kind"=true)
  (k40:PySem.W.keepIn K (.ref f40)=true)
  (a30:PySem.W.nsIn K mainGlobals "_law_are_told"=some (some (.ref f30)))
  (l30:K.lookup f30=some ⟨oc30,od30,.func (PySem.W.fnOf "_law_are_told" "_law_are_told" (defArgs (top 38)) (defBody (top 38)) (defScope (top 38)) .none kV30 dc30 pm30 an30 cd30 ct30),sl30⟩)
  (c30:PySem.W.codeIn K cd30 "_law_are_told"=true)
  (k30:PySem.W.keepIn K (.ref f30)=true)
  (a38:PySem.W.nsIn K mainGlobals "_law_equal"=some (some (.ref f38)))
  (l38:K.lookup f38=some ⟨oc38,od38,.func (PySem.W.fnOf "_law_equal" "_law_equal" (defArgs (top 39)) (defBody (top 39)) (defScope (top 39)) .none kV38 dc38 pm38 an38 cd38 ct38),sl38⟩)
  (c38:PySem.W.codeIn K cd38 "_law_equal"=true)
  (k38:PySem.W.keepIn K (.ref f38)=true)
  (a42:PySem.W.nsIn K mainGlobals "_law_new"=some (some (.ref f42)))
  (l42:K.lookup f42=some ⟨oc42,od42,.func (PySem.W.fnOf "_law_new" "_law_new" (defArgs (top 40)) (defBody (top 40)) (defScope (top 40)) .none kV42 dc42 pm42 an42 cd42 ct42),sl42⟩)
  (c42:PySem.W.codeIn K cd42 "_law_new"=true)
  (k42:PySem.W.keepIn K (.ref f42)=true)
  (a34:PySem.W.nsIn K mainGlobals "_law_clock_of"=some (some (.ref f34)))
  (l34:K.lookup f34=some ⟨oc34,od34,.func (PySem.W.fnOf "_law_clock_of" "_law_clock_of" (defArgs (top 41)) (defBody (top 41)) (defScope (top 41)) .none kV34 dc34 pm34 an34 cd34 ct34),sl34⟩)
  (c34:PySem.W.codeIn K cd34 "_law_clock_of"=true)
  (k34:PySem.W.keepIn K (.ref f34)=true)
  (a32:PySem.W.nsIn K mainGlobals "_law_attempted"=some (some (.ref f32)))
  (l32:K.lookup f32=some ⟨oc32,od32,.func (PySem.W.fnOf "_law_attempted" "_law_attempted" (defArgs (top 42)) (defBody (top 42)) (defScope (top 42)) .none kV32 dc32 pm32 an32 cd32 ct32),sl32⟩)
  (c32:PySem.W.codeIn K cd32 "_law_attempted"=true)
  (k32:PySem.W.keepIn K (.ref f32)=true)
  (a44:PySem.W.nsIn K mainGlobals "_law_read"=some (some (.ref f44)))
  (l44:K.lookup f44=some ⟨oc44,od44,.func (PySem.W.fnOf "_law_read" "_law_read" (defArgs (top 43)) (defBody (top 43)) (defScope (top 43)) .none kV44 dc44 pm44 an44 cd44 ct44),sl44⟩)
  (c44:PySem.W.codeIn K cd44 "_law_read"=true)
  (k44:PySem.W.keepIn K (.ref f44)=true)
  (a33:PySem.W.nsIn K mainGlobals "_law_changed"=some (some (.ref f33)))
  (l33:K.lookup f33=some ⟨oc33,od33,.func (PySem.W.fnOf "_law_changed" "_law_changed" (defArgs (top 44)) (defBody (top 44)) (defScope (top 44)) .none kV33 dc33 pm33 an33 cd33 ct33),sl33⟩)
  (c33:PySem.W.codeIn K cd33 "_law_changed"=true)
  (k33:PySem.W.keepIn K (.ref f33)=true)
  (a39:PySem.W.nsIn K mainGlobals "_law_given_back"=some (some (.ref f39)))
  (l39:K.lookup f39=some ⟨oc39,od39,.func (PySem.W.fnOf "_law_given_back" "_law_given_back" (defArgs (top 45)) (defBody (top 45)) (defScope (top 45)) .none kV39 dc39 pm39 an39 cd39 ct39),sl39⟩)
  (c39:PySem.W.codeIn K cd39 "_law_given_back"=true)
  (k39:PySem.W.keepIn K (.ref f39)=true)
  (a48:PySem.W.nsIn K mainGlobals "_law_turned"=some (some (.ref f48)))
  (l48:K.lookup f48=some ⟨oc48,od48,.func (PySem.W.fnOf "_law_turned" "_law_turned" (defArgs (top 46)) (defBody (top 46)) (defScope (top 46)) .none kV48 dc48 pm48 an48 cd48 ct48),sl48⟩)
  (c48:PySem.W.codeIn K cd48 "_law_turned"=true)
  (k48:PySem.W.keepIn K (.ref f48)=true)
  (a50:PySem.W.nsIn K mainGlobals "_law_with_thing"=some (some (.ref f50)))
  (l50:K.lookup f50=some ⟨oc50,od50,.func (PySem.W.fnOf "_law_with_thing" "_law_with_thing" (defArgs (top 47)) (defBody (top 47)) (defScope (top 47)) .none kV50 dc50 pm50 an50 cd50 ct50),sl50⟩)
  (c50:PySem.W.codeIn K cd50 "_law_with_thing"=true)
  (k50:PySem.W.keepIn K (.ref f50)=true)
  (a37:PySem.W.nsIn K mainGlobals "_law_due"=some (some (.ref f37)))
  (l37:K.lookup f37=some ⟨oc37,od37,.func (PySem.W.fnOf "_law_due" "_law_due" (defArgs (top 48)) (defBody (top 48)) (defScope (top 48)) .none kV37 dc37 pm37 an37 cd37 ct37),sl37⟩)
  (c37:PySem.W.codeIn K cd37 "_law_due"=true)
  (k37:PySem.W.keepIn K (.ref f37)=true)
  (a59:PySem.W.nsIn K mainGlobals "law"=some (some (.ref f59)))
  (l59:K.lookup f59=some ⟨oc59,od59,.func (PySem.W.fnOf "law" "law" (defArgs (top 49)) (defBody (top 49)) (defScope (top 49)) .none kV59 dc59 pm59 an59 cd59 ct59),sl59⟩)
  (c59:PySem.W.codeIn K cd59 "law"=true)
  (k59:PySem.W.keepIn K (.ref f59)=true)
  (xX:PySem.W.nsIn K mainGlobals "abs"=some none)
  (uf:PySem.W.nsIn K mainGlobals "bool"=some none)
  (ug:PySem.W.nsIn K mainGlobals "dict"=some none)
  (xY:PySem.W.nsIn K mainGlobals "int"=some none)
  (gU:PySem.W.nsIn K mainGlobals "isinstance"=some none)
  (xZ:PySem.W.nsIn K mainGlobals "len"=some none)
  (uh:PySem.W.nsIn K mainGlobals "list"=some none)
  (ya:PySem.W.nsIn K mainGlobals "max"=some none)
  (qU:PySem.W.nsIn K mainGlobals "range"=some none)
  (nq:PySem.W.nsIn K mainGlobals "sorted"=some none)
  (yb:PySem.W.nsIn K mainGlobals "str"=some none)
  (qV:PySem.W.nsIn K mainGlobals "tuple"=some none):
  ∃fd:FuncData,(∀(s:Shared) (v:Value),BindsTo s fd ⟨[v],[]⟩ [("_law_script",v)])/\∀base:Heap,K.In base->base.Ns mainGlobals mg->FnOk l.prog w K mg base CX0 9 fa fd ["_law_script"] (sp_law K):=by
 have e:=hfa.symm.trans (PySem.W.mg_of X G a59)
 cases e
 obtain⟨c,cT,cC,cD,cY,c1,c2,c3,c4,c5⟩:∃c:Cs,C_Thing=c.T/\C_Copy=c.C/\C_Desk=c.D/\C_Yard=c.Y/\C_NoDesk=c.er .noDesk/\C_NoThing=c.er .noThing/\C_Stopped=c.er .stopped/\C_NoClock=c.er .noClock/\C_NoAnswer=c.er .noAnswer:=
  ⟨⟨C_Thing,C_Copy,C_Desk,C_Yard,fun e=>match e with | .noDesk=>C_NoDesk | .noThing=>C_NoThing | .stopped=>C_Stopped | .noClock=>C_NoClock | .noAnswer=>C_NoAnswer⟩,rfl,rfl,rfl,rfl,rfl,rfl,rfl,rfl,rfl⟩
 subst cT cC cD cY c1 c2 c3 c4 c5
 have F58:=aC (st:=top 8) l58 c58 k58
 have B58:=F58.binds (ps:=["until","bound"]) fun _ _ _ _ _ _ us hl=>match us,hl with | [_,_],_=>rfl
 have F57:=aC (st:=top 9) l57 c57 k57
 have B57:=F57.binds (ps:=["clock","until","bound"]) fun _ _ _ _ _ _ us hl=>match us,hl with | [_,_,_],_=>rfl
 have F56:=aC (st:=top 10) l56 c56 k56
 have B56:=F56.binds (ps:=["clock","untils"]) fun _ _ _ _ _ _ us hl=>match us,hl with | [_,_],_=>rfl
 have F60:=aC (st:=top 11) l60 c60 k60
 have B60:=F60.binds (ps:=["clock","length","bound"]) fun _ _ _ _ _ _ us hl=>match us,hl with | [_,_,_],_=>rfl
 have F62:=aC (st:=top 12) l62 c62 k62
 have B62:=F62.binds (ps:=["offset","bound"]) fun _ _ _ _ _ _ us hl=>match us,hl with | [_,_],_=>rfl
 have F2:=aC (st:=inClass (top 14) 0) l2 c2 k2
 have B2:=F2.binds (ps:=["self","keeper","value"]) fun _ _ _ _ _ _ us hl=>match us,hl with | [_,_,_],_=>rfl
 have F6:=aC (st:=inClass (top 14) 1) l6 c6 k6
 have B6:=F6.binds (ps:=["self","desk","until"]) fun _ _ _ _ _ _ us hl=>match us,hl with | [_,_,_],_=>rfl
 have F9:=aC (st:=inClass (top 14) 2) l9 c9 k9
 have B9:=F9.binds (ps:=["self","desk"]) fun _ _ _ _ _ _ us hl=>match us,hl with | [_,_],_=>rfl
 have F4:=aC (st:=inClass (top 14) 3) l4 c4 k4
 have B4:=F4.binds (ps:=["self","clock","length","bound"]) fun _ _ _ _ _ _ us hl=>match us,hl with | [_,_,_,_],_=>rfl
 have F5:=aC (st:=inClass (top 14) 4) l5 c5 k5
 have B5:=F5.binds (ps:=["self"]) fun _ _ _ _ _ _ us hl=>match us,hl with | [_],_=>rfl
 have F8:=aC (st:=inClass (top 14) 5) l8 c8 k8
 have B8:=F8.binds (ps:=["self","value"]) fun _ _ _ _ _ _ us hl=>match us,hl with | [_,_],_=>rfl
 have F3:=aC (st:=inClass (top 14) 6) l3 c3 k3
 have B3:=F3.binds (ps:=["self","clock"]) fun _ _ _ _ _ _ us hl=>match us,hl with | [_,_],_=>rfl
 have F7:=aC (st:=inClass (top 14) 7) l7 c7 k7
 have B7:=F7.binds (ps:=["self"]) fun _ _ _ _ _ _ us hl=>match us,hl with | [_],_=>rfl
 have F10:=aC (st:=inClass (top 14) 8) l10 c10 k10
 have B10:=F10.binds (ps:=["self"]) fun _ _ _ _ _ _ us hl=>match us,hl with | [_],_=>rfl
 have F0:=aC (st:=inClass (top 16) 0) l0 c0 k0
 have B0:=F0.binds (ps:=["self","value","version","until"]) fun _ _ _ _ _ _ us hl=>match us,hl with | [_,_,_,_],_=>rfl
 have F1:=aC (st:=inClass (top 17) 0) l1 c1 k1
 have B1:=F1.binds (ps:=["self"]) fun _ _ _ _ _ _ us hl=>match us,hl with | [_],_=>rfl
 have F11:=aC (st:=inClass (top 18) 0) l11 c11 k11
 have B11:=F11.binds (ps:=["self","plan","told"]) fun _ _ _ _ _ _ us hl=>match us,hl with | [_,_,_],_=>rfl
 have F24:=aC (st:=inClass (top 18) 1) l24 c24 k24
 have B24:=F24.binds (ps:=["self","many"]) fun _ _ _ _ _ _ us hl=>match us,hl with | [_,_],_=>rfl
 have F26:=aC (st:=inClass (top 18) 2) l26 c26 k26
 have B26:=F26.binds (ps:=["self","number","offset"]) fun _ _ _ _ _ _ us hl=>match us,hl with | [_,_,_],_=>rfl
 have F25:=aC (st:=inClass (top 18) 3) l25 c25 k25
 have B25:=F25.binds (ps:=["self","number","name"]) fun _ _ _ _ _ _ us hl=>match us,hl with | [_,_,_],_=>rfl
 have F23:=aC (st:=inClass (top 18) 4) l23 c23 k23
 have B23:=F23.binds (ps:=["self","number","name"]) fun _ _ _ _ _ _ us hl=>match us,hl with | [_,_,_],_=>rfl
 have F14:=aC (st:=inClass (top 18) 5) l14 c14 k14
 have B14:=F14.binds (ps:=["self","number","name","value"]) fun _ _ _ _ _ _ us hl=>match us,hl with | [_,_,_,_],_=>rfl
 have F28:=aC (st:=inClass (top 18) 6) l28 c28 k28
 have B28:=F28.binds (ps:=["self","name"]) fun _ _ _ _ _ _ us hl=>match us,hl with | [_,_],_=>rfl
 have F21:=aC (st:=inClass (top 18) 7) l21 c21 k21
 have B21:=F21.binds (ps:=["self","number","name"]) fun _ _ _ _ _ _ us hl=>match us,hl with | [_,_,_],_=>rfl
 have F18:=aC (st:=inClass (top 18) 8) l18 c18 k18
 have B18:=F18.binds (ps:=["self","number","name"]) fun _ _ _ _ _ _ us hl=>match us,hl with | [_,_,_],_=>rfl
 have F27:=aC (st:=inClass (top 18) 9) l27 c27 k27
 have B27:=F27.binds (ps:=["self","number"]) fun _ _ _ _ _ _ us hl=>match us,hl with | [_,_],_=>rfl
 have F29:=aC (st:=inClass (top 18) 10) l29 c29 k29
 have B29:=F29.binds (ps:=["self","number"]) fun _ _ _ _ _ _ us hl=>match us,hl with | [_,_],_=>rfl
 have F19:=aC (st:=inClass (top 18) 11) l19 c19 k19
 have B19:=F19.binds (ps:=["self","number"]) fun _ _ _ _ _ _ us hl=>match us,hl with | [_,_],_=>rfl
 have F20:=aC (st:=inClass (top 18) 12) l20 c20 k20
 have B20:=F20.binds (ps:=["self","name"]) fun _ _ _ _ _ _ us hl=>match us,hl with | [_,_],_=>rfl
 have F15:=aC (st:=inClass (top 18) 13) l15 c15 k15
 have B15:=F15.binds (ps:=["self","number","name"]) fun _ _ _ _ _ _ us hl=>match us,hl with | [_,_,_],_=>rfl
 have F16:=aC (st:=inClass (top 18) 14) l16 c16 k16
 have B16:=F16.binds (ps:=["self","thing"]) fun _ _ _ _ _ _ us hl=>match us,hl with | [_,_],_=>rfl
 have F17:=aC (st:=inClass (top 18) 15) l17 c17 k17
 have B17:=F17.binds (ps:=["self","number"]) fun _ _ _ _ _ _ us hl=>match us,hl with | [_,_],_=>rfl
 have F22:=aC (st:=inClass (top 18) 16) l22 c22 k22
 have B22:=F22.binds (ps:=["self","number"]) fun _ _ _ _ _ _ us hl=>match us,hl with | [_,_],_=>rfl
 have F13:=aC (st:=inClass (top 18) 17) l13 c13 k13
 have B13:=F13.binds (ps:=["self"]) fun _ _ _ _ _ _ us hl=>match us,hl with | [_],_=>rfl
 have F12:=aC (st:=inClass (top 18) 18) l12 c12 k12
 have B12:=F12.binds (ps:=["self"]) fun _ _ _ _ _ _ us hl=>match us,hl with | [_],_=>rfl
 have F54:=aC (st:=top 19) l54 c54 k54
 have B54:=F54.binds (ps:=["copies"]) fun _ _ _ _ _ _ us hl=>match us,hl with | [_],_=>rfl
 have F52:=aC (st:=top 21) l52 c52 k52
 have B52:=F52.binds (ps:=["plan","things","deeds"]) fun _ _ _ _ _ _ us hl=>match us,hl with | [_,_,_],_=>rfl
 have F61:=aC (st:=top 22) l61 c61 k61
 have B61:=F61.binds (ps:=["plan","things","deeds"]) fun _ _ _ _ _ _ us hl=>match us,hl with | [_,_,_],_=>rfl
 have F53:=aC (st:=top 23) l53 c53 k53
 have B53:=F53.binds (ps:=["plan","things","deeds"]) fun _ _ _ _ _ _ us hl=>match us,hl with | [_,_,_],_=>rfl
 have F63:=aC (st:=top 24) l63 c63 k63
 have B63:=F63.binds (ps:=["plan","things","deeds"]) fun _ _ _ _ _ _ us hl=>match us,hl with | [_,_,_],_=>rfl
 have F51:=aC (st:=top 25) l51 c51 k51
 have B51:=F51.binds (ps:=["yard","deed"]) fun _ _ _ _ _ _ us hl=>match us,hl with | [_,_],_=>rfl
 have F55:=aC (st:=top 26) l55 c55 k55
 have B55:=F55.binds (ps:=["yard","deed"]) fun _ _ _ _ _ _ us hl=>match us,hl with | [_,_],_=>rfl
 have F45:=aC (st:=top 28) l45 c45 k45
 have B45:=F45.binds (ps:=["_law_found","_law_meant"]) fun _ _ _ _ _ _ us hl=>match us,hl with | [_,_],_=>rfl
 have F49:=aC (st:=top 29) l49 c49 k49
 have B49:=F49.binds (ps:=["_law_found"]) fun _ _ _ _ _ _ us hl=>match us,hl with | [_],_=>rfl
 have F31:=aC (st:=top 30) l31 c31 k31
 have B31:=F31.binds (ps:=["_law_script","_law_k"]) fun _ _ _ _ _ _ us hl=>match us,hl with | [_,_],_=>rfl
 have F43:=aC (st:=top 31) l43 c43 k43
 have B43:=F43.binds (ps:=["_law_cell"]) fun _ _ _ _ _ _ us hl=>match us,hl with | [_],_=>rfl
 have F41:=aC (st:=top 32) l41 c41 k41
 have B41:=F41.binds (ps:=["_law_j","_law_plan"]) fun _ _ _ _ _ _ us hl=>match us,hl with | [_,_],_=>rfl
 have F46:=aC (st:=top 33) l46 c46 k46
 have B46:=F46.binds (ps:=["_law_cell","_law_plan"]) fun _ _ _ _ _ _ us hl=>match us,hl with | [_,_],_=>rfl
 have F47:=aC (st:=top 34) l47 c47 k47
 have B47:=F47.binds (ps:=["_law_cell","_law_plan"]) fun _ _ _ _ _ _ us hl=>match us,hl with | [_,_],_=>rfl
 have F35:=aC (st:=top 35) l35 c35 k35
 have B35:=F35.binds (ps:=["_law_cell","_law_k","_law_plan"]) fun _ _ _ _ _ _ us hl=>match us,hl with | [_,_,_],_=>rfl
 have F36:=aC (st:=top 36) l36 c36 k36
 have B36:=F36.binds (ps:=["_law_cells","_law_plan"]) fun _ _ _ _ _ _ us hl=>match us,hl with | [_,_],_=>rfl
 have F40:=aC (st:=top 37) l40 c40 k40
 have B40:=F40.binds (ps:=["_law_found"]) fun _ _ _ _ _ _ us hl=>match us,hl with | [_],_=>rfl
 have F30:=aC (st:=top 38) l30 c30 k30
 have B30:=F30.binds (ps:=["_law_found","_law_deeds"]) fun _ _ _ _ _ _ us hl=>match us,hl with | [_,_],_=>rfl
 have F38:=aC (st:=top 39) l38 c38 k38
 have B38:=F38.binds (ps:=["_law_one","_law_other"]) fun _ _ _ _ _ _ us hl=>match us,hl with | [_,_],_=>rfl
 have F42:=aC (st:=top 40) l42 c42 k42
 have B42:=F42.binds (ps:=["_law_plan","_law_things"]) fun _ _ _ _ _ _ us hl=>match us,hl with | [_,_],_=>rfl
 have F34:=aC (st:=top 41) l34 c34 k34
 have B34:=F34.binds (ps:=["_law_yard","_law_desk"]) fun _ _ _ _ _ _ us hl=>match us,hl with | [_,_],_=>rfl
 have F32:=aC (st:=top 42) l32 c32 k32
 have B32:=F32.binds (ps:=["_law_yard","_law_thing"]) fun _ _ _ _ _ _ us hl=>match us,hl with | [_,_],_=>rfl
 have F44:=aC (st:=top 43) l44 c44 k44
 have B44:=F44.binds (ps:=["_law_yard","_law_desk","_law_name"]) fun _ _ _ _ _ _ us hl=>match us,hl with | [_,_,_],_=>rfl
 have F33:=aC (st:=top 44) l33 c33 k33
 have B33:=F33.binds (ps:=["_law_yard","_law_desk","_law_name","_law_value"]) fun _ _ _ _ _ _ us hl=>match us,hl with | [_,_,_,_],_=>rfl
 have F39:=aC (st:=top 45) l39 c39 k39
 have B39:=F39.binds (ps:=["_law_yard","_law_desk","_law_name"]) fun _ _ _ _ _ _ us hl=>match us,hl with | [_,_,_],_=>rfl
 have F48:=aC (st:=top 46) l48 c48 k48
 have B48:=F48.binds (ps:=["_law_yard","_law_word","_law_desk"]) fun _ _ _ _ _ _ us hl=>match us,hl with | [_,_,_],_=>rfl
 have F50:=aC (st:=top 47) l50 c50 k50
 have B50:=F50.binds (ps:=["_law_yard","_law_deed"]) fun _ _ _ _ _ _ us hl=>match us,hl with | [_,_],_=>rfl
 have F37:=aC (st:=top 48) l37 c37 k37
 have B37:=F37.binds (ps:=["_law_yard","_law_deed"]) fun _ _ _ _ _ _ us hl=>match us,hl with | [_,_],_=>rfl
 have F59:=aC (st:=top 49) l59 c59 k59
 have B59:=F59.binds (ps:=["_law_script"]) fun _ _ _ _ _ _ us hl=>match us,hl with | [_],_=>rfl
 refine⟨PySem.W.fnOf "law" "law" (defArgs (top 49)) (defBody (top 49)) (defScope (top 49)) .none kV59 dc59 pm59 an59 cd59 ct59,fun s v=> .of_eq rfl,fun base _ _=>?_⟩
 have jR:=PySem.W.mg_none_of X G xZ
 have gR:=PySem.W.mg_none_of X G qU
 have iA:=PySem.W.mg_none_of X G uh
 have Ba:=PySem.W.mg_none_of X G ya
 have CC:=PySem.W.mg_none_of X G xX
 have bU:=PySem.W.mg_none_of X G gU
 have sG:=PySem.W.mg_none_of X G xY
 have kO:=PySem.W.mg_none_of X G uf
 have vx:=PySem.W.mg_none_of X G yb
 have lY:=PySem.W.mg_none_of X G qV
 have ua:=PySem.W.mg_none_of X G ug
 have mY:=PySem.W.mg_none_of X G nq
 have TT:Txt K c.T:=⟨⟨nK,mG,nN,nV⟩,eU,fP,dY,fN,fO,dZ⟩
 have TC:TxtC K c.C:=⟨⟨rh,qx,rm,rF⟩,gn,eR,gm⟩
 have TD:TxtD K c.D:=⟨⟨rj,qy,rn,rG⟩,fM,eS,fL⟩
 have TY:TxtY K c.Y:=⟨⟨rl,qz,rp,rH⟩,fQ,gp,du,gq,fR⟩
 have XE:Ers K mg c:=⟨⟨PySem.W.mg_of X G mm,oI⟩,⟨PySem.W.mg_of X G kq,lr⟩,⟨PySem.W.mg_of X G kr,ls⟩,⟨PySem.W.mg_of X G ko,lq⟩,⟨PySem.W.mg_of X G jg,jx⟩,xm_11,xm_21,xm_22,xm_31,xm_32,xm_33,xm_41,xm_42,xm_43,xm_44,xm_51,xm_52,xm_53,xm_54,xm_55⟩
 have so0:Def l.prog w K mg base "_law_so" 0 ["_law_found","_law_meant"] (rW K 0):=⟨_,_,PySem.W.mg_of X G a45,k45,B45,⟨fun _ _ _ _ z=>z.elim,fun _ _ _ _ _ _ _ _ _ _ _ _ _ z=>z.elim⟩⟩
 have so1:Def l.prog w K mg base "_law_so" 1 ["_law_found","_law_meant"] (rW K 1):=⟨_,_,PySem.W.mg_of X G a45,k45,B45,yw bU sG kO vx ua lY iA jR gR so0 F45⟩
 have so2:Def l.prog w K mg base "_law_so" 2 ["_law_found","_law_meant"] (rW K 2):=⟨_,_,PySem.W.mg_of X G a45,k45,B45,yw bU sG kO vx ua lY iA jR gR so1 F45⟩
 have fm:Def l.prog w K mg base "_law_so" 3 ["_law_found","_law_meant"] (sZ K 2):=⟨_,_,PySem.W.mg_of X G a45,k45,B45,yw bU sG kO vx ua lY iA jR gR so2 F45⟩
 have gO:Def l.prog w K mg base "last_fresh" 1 ["until","bound"] gx:=⟨_,_,PySem.W.mg_of X G a58,k58,B58,pd F58⟩
 have jj:Def l.prog w K mg base "is_fresh" 2 ["clock","until","bound"] iO:=⟨_,_,PySem.W.mg_of X G a57,k57,B57,sO gO F57⟩
 have gN:Def l.prog w K mg base "held_until" 1 ["clock","untils"] (rO K):=⟨_,_,PySem.W.mg_of X G a56,k56,B56,pc Ba F56⟩
 have gj:Def l.prog w K mg base "quiet_until" 1 ["clock","length","bound"] fX:=⟨_,_,PySem.W.mg_of X G a60,k60,B60,nv F60⟩
 have mw:Def l.prog w K mg base "within" 1 ["offset","bound"] lm:=⟨_,_,PySem.W.mg_of X G a62,k62,B62,wE F62⟩
 have qq:CDef l.prog w K mg base "Thing" c.T 1 ["self","keeper","value"] (rP c.T):=⟨PySem.W.mg_of X G qi,_,_,⟨mk_Thing,a2,i2,kc_Thing⟩,B2,Ak TT F2⟩
 have gK:MDef l.prog w K mg base c.T "lend" 1 ["self","desk","until"] (rR c.T):=⟨TT.cl,_,_,⟨a6,i6,k6⟩,B6,Ao TT F6⟩
 have cZ:MDef l.prog w K mg base c.T "take_back" 1 ["self","desk"] (hW c.T):=⟨TT.cl,_,_,⟨a9,i9,k9⟩,B9,re TT F9⟩
 have eN:MDef l.prog w K mg base c.T "come_up" 2 ["self","clock","length","bound"] (jv c.T):=⟨TT.cl,_,_,⟨a4,i4,k4⟩,B4,uo TT gj F4⟩
 have eP:MDef l.prog w K mg base c.T "go_down" 1 ["self"] (jw c.T):=⟨TT.cl,_,_,⟨a5,i5,k5⟩,B5,ur TT F5⟩
 have fD:MDef l.prog w K mg base c.T "put_up" 1 ["self","value"] (lj c.T):=⟨TT.cl,_,_,⟨a8,i8,k8⟩,B8,wA TT F8⟩
 have cw:MDef l.prog w K mg base c.T "noted_untils" 1 ["self"] (om c.T):=⟨TT.cl,_,_,⟨a7,i7,k7⟩,B7,yr TT iA F7⟩
 have cM:MDef l.prog w K mg base c.T "take_change" 1 ["self"] (fY c.T):=⟨TT.cl,_,_,⟨a10,i10,k10⟩,B10,nC TT F10⟩
 have bO:MDef l.prog w K mg base c.T "attempt" 2 ["self","clock"] (hU c.T):=⟨TT.cl,_,_,⟨a3,i3,k3⟩,B3,ul TT gN cw cM F3⟩
 have tL:CDef l.prog w K mg base "Copy" c.C 1 ["self","value","version","until"] (oj c.C):=⟨PySem.W.mg_of X G tG,_,_,⟨mk_Copy,a0,i0,kc_Copy⟩,B0,yn TC F0⟩
 have tM:CDef l.prog w K mg base "Desk" c.D 1 ["self"] (ol c.D):=⟨PySem.W.mg_of X G tH,_,_,⟨mk_Desk,a1,i1,kc_Desk⟩,B1,yp TD F1⟩
 have dN:MDef l.prog w K mg base c.Y "pass_time" 1 ["self","many"] (rT c):=⟨TY.cl,_,_,⟨a24,i24,k24⟩,B24,Ar TY F24⟩
 have aO:MDef1 l.prog w K mg base c.Y "find_desk" 1 ["self","number"] (cJ c):=⟨TY.cl,_,_,⟨a19,i19,k19⟩,B19,qX TY jR XE.nd F19⟩
 have bF:MDef1 l.prog w K mg base c.Y "find_thing" 1 ["self","name"] (eB c):=⟨TY.cl,_,_,⟨a20,i20,k20⟩,B20,pb TY XE.nt F20⟩
 have aS:MDef1 l.prog w K mg base c.Y "check_asker" 2 ["self","number","name"] (cz c):=⟨TY.cl,_,_,⟨a15,i15,k15⟩,B15,nr TY TD XE.st aO bF F15⟩
 have aP:MDef1 l.prog w K mg base c.Y "check_keeper" 1 ["self","thing"] (cm c):=⟨TY.cl,_,_,⟨a16,i16,k16⟩,B16,lO TY TD TT XE.na F16⟩
 have aJ:MDef l.prog w K mg base c.Y "clock_of" 1 ["self","number"] (cA c):=⟨TY.cl,_,_,⟨a17,i17,k17⟩,B17,sN TY TD F17⟩
 have cR:MDef1 l.prog w K mg base c.Y "shift_clock" 2 ["self","number","offset"] (ot c):=⟨TY.cl,_,_,⟨a26,i26,k26⟩,B26,yu TY TD XE.nc aO mw F26⟩
 have dM:MDef l.prog w K mg base c.Y "lend_copy" 3 ["self","number","name"] (hV c):=⟨TY.cl,_,_,⟨a23,i23,k23⟩,B23,qZ TY TD TT aJ gK tL F23⟩
 have bK:MDef l.prog w K mg base c.Y "drop_copy" 2 ["self","number","name"] (fk c):=⟨TY.cl,_,_,⟨a18,i18,k18⟩,B18,qW TY TD TT cZ F18⟩
 have dg:MDef1 l.prog w K mg base c.Y "read_thing" 4 ["self","number","name"] (rV c):=⟨TY.cl,_,_,⟨a25,i25,k25⟩,B25,As TY TD TT TC aS aP aJ jj dM F25⟩
 have df:MDef1 l.prog w K mg base c.Y "ask_change" 3 ["self","number","name","value"] (lg c):=⟨TY.cl,_,_,⟨a14,i14,k14⟩,B14,wy TY TT aS aP bK fD bO aJ F14⟩
 have dj:MDef1 l.prog w K mg base c.Y "try_change" 3 ["self","name"] (ou c):=⟨TY.cl,_,_,⟨a28,i28,k28⟩,B28,yx TY TT bF aP bO aJ F28⟩
 have dL:MDef1 l.prog w K mg base c.Y "give_back" 3 ["self","number","name"] (rM c):=⟨TY.cl,_,_,⟨a21,i21,k21⟩,B21,Ai TY TD aS bK F21⟩
 have cf:MDef l.prog w K mg base c.Y "kept_by" 1 ["self","number"] (md c):=⟨TY.cl,_,_,⟨a22,i22,k22⟩,B22,Al TY TT F22⟩
 have dP:MDef1 l.prog w K mg base c.Y "stop_desk" 2 ["self","number"] (rX c):=⟨TY.cl,_,_,⟨a27,i27,k27⟩,B27,Au TY TD TT aO cf eP F27⟩
 have dQ:MDef1 l.prog w K mg base c.Y "wake_desk" 3 ["self","number"] (rY c):=⟨TY.cl,_,_,⟨a29,i29,k29⟩,B29,Ax TY TD TT aO cf eN aJ F29⟩
 have kz:Def1 l.prog w K mg base "do_deed" 5 ["yard","deed"] (zg c):=⟨_,_,PySem.W.mg_of X G a55,k55,B55,CJ TY dN cR dg df dj dL dP dQ F55⟩
 have cX:Def l.prog w K mg base "answer_to" 6 ["yard","deed"] (iY c):=⟨_,_,PySem.W.mg_of X G a51,k51,B51,ww XE kz F51⟩
 have ku:CDef l.prog w K mg base "Yard" c.Y 3 ["self","plan","told"] (kl c):=⟨PySem.W.mg_of X G tJ,_,_,⟨mk_Yard,a11,i11,kc_Yard⟩,B11,yq TY gR tM qq F11⟩
 have ky:Def l.prog w K mg base "answers" 7 ["plan","things","deeds"] (hR c):=⟨_,_,PySem.W.mg_of X G a52,k52,B52,uk ku cX F52⟩
 have de:MDef l.prog w K mg base c.Y "all_values" 1 ["self"] (ll c):=⟨TY.cl,_,_,⟨a13,i13,k13⟩,B13,wD TY TT mY F13⟩
 have dS:Def l.prog w K mg base "copies_by_name" 1 ["copies"] (uK c):=⟨_,_,PySem.W.mg_of X G a54,k54,B54,BO TC mY F54⟩
 have db:MDef l.prog w K mg base c.Y "all_copies" 2 ["self"] (lh c):=⟨TY.cl,_,_,⟨a12,i12,k12⟩,B12,wz TY TD dS F12⟩
 have cF:Def l.prog w K mg base "yard_after" 7 ["plan","things","deeds"] (kj c):=⟨_,_,PySem.W.mg_of X G a63,k63,B63,yi ku cX F63⟩
 have fI:Def l.prog w K mg base "values_after" 8 ["plan","things","deeds"] (ja c):=⟨_,_,PySem.W.mg_of X G a61,k61,B61,wC TY cF de F61⟩
 have fH:Def l.prog w K mg base "copies_after" 8 ["plan","things","deeds"] (iZ c):=⟨_,_,PySem.W.mg_of X G a53,k53,B53,wx TY cF db F53⟩
 have eY:Def l.prog w K mg base "_law_whole" 1 ["_law_found"] ox:=⟨_,_,PySem.W.mg_of X G a49,k49,B49,qY bU sG kO F49⟩
 have iT:Def l.prog w K mg base "_law_at" 1 ["_law_script","_law_k"] (vN K):=⟨_,_,PySem.W.mg_of X G a31,k31,B31,CI jR F31⟩
 have il:Def l.prog w K mg base "_law_kind" 2 ["_law_found"] rQ:=⟨_,_,PySem.W.mg_of X G a40,k40,B40,Am bU sG kO vx lY jR eY F40⟩
 have eQ:Def l.prog w K mg base "_law_are_told" 3 ["_law_found","_law_deeds"] me:=⟨_,_,PySem.W.mg_of X G a30,k30,B30,Aw bU iA jR il F30⟩
 have gM:Def l.prog w K mg base "_law_equal" 1 ["_law_one","_law_other"] oi:=⟨_,_,PySem.W.mg_of X G a38,k38,B38,ym bU kO F38⟩
 have fG:Def l.prog w K mg base "_law_plan_by" 1 ["_law_cell"] (bC qg):=⟨_,_,PySem.W.mg_of X G a43,k43,B43,ut F43⟩
 have aM:Def l.prog w K mg base "_law_name_called" 1 ["_law_j","_law_plan"] (bC ml):=⟨_,_,PySem.W.mg_of X G a41,k41,B41,Ap F41⟩
 have dR:Def l.prog w K mg base "_law_things_by" 2 ["_law_cell","_law_plan"] (bC jy):=⟨_,_,PySem.W.mg_of X G a46,k46,B46,rf aM F46⟩
 have ip:Def l.prog w K mg base "_law_time" 1 ["_law_cell","_law_plan"] (bC qh):=⟨_,_,PySem.W.mg_of X G a47,k47,B47,Av F47⟩
 have fF:Def l.prog w K mg base "_law_deed_of" 2 ["_law_cell","_law_k","_law_plan"] (bC pZ):=⟨_,_,PySem.W.mg_of X G a35,k35,B35,uq aM ip F35⟩
 have gL:Def l.prog w K mg base "_law_drawn" 3 ["_law_cells","_law_plan"] (bC lT):=⟨_,_,PySem.W.mg_of X G a36,k36,B36,yl gR jR fF F36⟩
 have aZ:Def l.prog w K mg base "_law_clock_of" 1 ["_law_yard","_law_desk"] fB:=⟨_,_,PySem.W.mg_of X G a34,k34,B34,yk F34⟩
 have bL:Def l.prog w K mg base "_law_attempted" 2 ["_law_yard","_law_thing"] ma:=⟨_,_,PySem.W.mg_of X G a32,k32,B32,Ah iA Ba aZ F32⟩
 have dk:Def l.prog w K mg base "_law_given_back" 1 ["_law_yard","_law_desk","_law_name"] oh:=⟨_,_,PySem.W.mg_of X G a39,k39,B39,yj F39⟩
 have io:Def l.prog w K mg base "_law_read" 2 ["_law_yard","_law_desk","_law_name"] oq:=⟨_,_,PySem.W.mg_of X G a44,k44,B44,yt aZ F44⟩
 have fE:Def l.prog w K mg base "_law_changed" 3 ["_law_yard","_law_desk","_law_name","_law_value"] ju:=⟨_,_,PySem.W.mg_of X G a33,k33,B33,um bL F33⟩
 have gi:Def l.prog w K mg base "_law_turned" 2 ["_law_yard","_law_word","_law_desk"] ow:=⟨_,_,PySem.W.mg_of X G a48,k48,B48,yy iA aZ F48⟩
 have dm:Def l.prog w K mg base "_law_with_thing" 4 ["_law_yard","_law_deed"] oy:=⟨_,_,PySem.W.mg_of X G a50,k50,B50,yz bL io fE dk F50⟩
 have jh:Def l.prog w K mg base "_law_due" 5 ["_law_yard","_law_deed"] rN:=⟨_,_,PySem.W.mg_of X G a37,k37,B37,Aj CC gi dm F37⟩
 have ji:Def l.prog w K mg base "_law_new" 1 ["_law_plan","_law_things"] rS:=⟨_,_,PySem.W.mg_of X G a42,k42,B42,Aq gR F42⟩
 exact BP gR jR iA bU mY iT fG dR gL gM fm ji jh ky fI fH eQ F59
theorem CY{l:PySem.W.OpenLaw}{q:Program}{loose:List Str}{XP:(Str->Option Value)->Heap->Prop}{YP:World->Heap->Prop}{d:DefRec}{K:Params->PySem.W.Frag}(hn:l.most=some 63)(hdf:d.params.defaults=[])
  (hY:∀(w:World) (h:Heap),YP w h->(K w.params).In h)
  (F:∀(w:World) (mg:Str->Option Value) (fa:Addr) (h:Heap),(K w.params).In h->h.Ns mainGlobals mg->mg d.name=some (.ref fa)->
   ∃fd:FuncData,(∀(s:Shared) (u:Value),BindsTo s fd ⟨[u],[]⟩ [("_law_script",u)])/\∀base:Heap,(K w.params).In base->base.Ns mainGlobals mg->FnOk l.prog w (K w.params) mg base CX0 9 fa fd ["_law_script"] (sp_law (K w.params))):
  PySem.W.WalkO q loose XP YP l.row.toRowW d [] (fun f vs=>PySem.call f vs):=
 L2.vR (n:=63) (k:=9) (x:="_law_script") (CX:=fun _=>CX0) (sp:=fun w=>sp_law (K w.params)) hn (by decide) hdf ⟨rfl,by decide,by decide⟩ hY F (fun _ _ a ns hl _ hS=>⟨a,ns,rfl,hS,hl,fun _=>rfl⟩) fun _ _ _ _ _ z=>z
end
end Fb
open PySem PySem.W PyProof.Rows
set_option maxRecDepth 100000 in
set_option maxHeartbeats 0 in
theorem PySem.Challenge.cw_freshbook_k05_plain_yard_holds : PySem.Challenge.rw_freshbook_k05_plain_yard.Holds := by
  w_on; o_law; k_head; (case hw => w_witness2)
  k_fill
  refine Fb.CY (l := PySem.Challenge.rw_freshbook_k05_plain_yard) rfl rfl (fun w h Y => PySem.W.kIn_of Y) ?F
  case F =>
    intro w mg fa h KX G hmg
    refine' Fb.all_mk KX G hmg ?qi ?nK ?mG ?nN ?nV ?mk_Thing ?kc_Thing ?eU ?fP ?dY ?fN ?fO ?dZ ?tG ?rh ?qx ?rm ?rF ?mk_Copy ?kc_Copy ?gn ?eR ?gm ?tH ?rj ?qy ?rn ?rG ?mk_Desk ?kc_Desk ?fM ?eS ?fL ?tJ ?rl ?qz ?rp ?rH ?mk_Yard ?kc_Yard ?fQ ?gp ?du ?gq ?fR ?mm ?oI ?xm_11 ?kq ?lr ?xm_21 ?xm_22 ?kr ?ls ?xm_31 ?xm_32 ?xm_33 ?ko ?lq ?xm_41 ?xm_42 ?xm_43 ?xm_44 ?jg ?jx ?xm_51 ?xm_52 ?xm_53 ?xm_54 ?xm_55 ?a58 ?l58 ?c58 ?k58 ?a57 ?l57 ?c57 ?k57 ?a56 ?l56 ?c56 ?k56 ?a60 ?l60 ?c60 ?k60 ?a62 ?l62 ?c62 ?k62 ?a2 ?i2 ?l2 ?c2 ?k2 ?a6 ?i6 ?l6 ?c6 ?k6 ?a9 ?i9 ?l9 ?c9 ?k9 ?a4 ?i4 ?l4 ?c4 ?k4 ?a5 ?i5 ?l5 ?c5 ?k5 ?a8 ?i8 ?l8 ?c8 ?k8 ?a3 ?i3 ?l3 ?c3 ?k3 ?a7 ?i7 ?l7 ?c7 ?k7 ?a10 ?i10 ?l10 ?c10 ?k10 ?a0 ?i0 ?l0 ?c0 ?k0 ?a1 ?i1 ?l1 ?c1 ?k1 ?a11 ?i11 ?l11 ?c11 ?k11 ?a24 ?i24 ?l24 ?c24 ?k24 ?a26 ?i26 ?l26 ?c26 ?k26 ?a25 ?i25 ?l25 ?c25 ?k25 ?a23 ?i23 ?l23 ?c23 ?k23 ?a14 ?i14 ?l14 ?c14 ?k14 ?a28 ?i28 ?l28 ?c28 ?k28 ?a21 ?i21 ?l21 ?c21 ?k21 ?a18 ?i18 ?l18 ?c18 ?k18 ?a27 ?i27 ?l27 ?c27 ?k27 ?a29 ?i29 ?l29 ?c29 ?k29 ?a19 ?i19 ?l19 ?c19 ?k19 ?a20 ?i20 ?l20 ?c20 ?k20 ?a15 ?i15 ?l15 ?c15 ?k15 ?a16 ?i16 ?l16 ?c16 ?k16 ?a17 ?i17 ?l17 ?c17 ?k17 ?a22 ?i22 ?l22 ?c22 ?k22 ?a13 ?i13 ?l13 ?c13 ?k13 ?a12 ?i12 ?l12 ?c12 ?k12 ?a54 ?l54 ?c54 ?k54 ?a52 ?l52 ?c52 ?k52 ?a61 ?l61 ?c61 ?k61 ?a53 ?l53 ?c53 ?k53 ?a63 ?l63 ?c63 ?k63 ?a51 ?l51 ?c51 ?k51 ?a55 ?l55 ?c55 ?k55 ?a45 ?l45 ?c45 ?k45 ?a49 ?l49 ?c49 ?k49 ?a31 ?l31 ?c31 ?k31 ?a43 ?l43 ?c43 ?k43 ?a41 ?l41 ?c41 ?k41 ?a46 ?l46 ?c46 ?k46 ?a47 ?l47 ?c47 ?k47 ?a35 ?l35 ?c35 ?k35 ?a36 ?l36 ?c36 ?k36 ?a40 ?l40 ?c40 ?k40 ?a30 ?l30 ?c30 ?k30 ?a38 ?l38 ?c38 ?k38 ?a42 ?l42 ?c42 ?k42 ?a34 ?l34 ?c34 ?k34 ?a32 ?l32 ?c32 ?k32 ?a44 ?l44 ?c44 ?k44 ?a33 ?l33 ?c33 ?k33 ?a39 ?l39 ?c39 ?k39 ?a48 ?l48 ?c48 ?k48 ?a50 ?l50 ?c50 ?k50 ?a37 ?l37 ?c37 ?k37 ?a59 ?l59 ?c59 ?k59 ?xX ?uf ?ug ?xY ?gU ?xZ ?uh ?ya ?qU ?nq ?yb ?qV
    case qi|nK|mG|nN|nV|mk_Thing|kc_Thing|eU|fP|dY|fN|fO|dZ|tG|rh|qx|rm|rF|mk_Copy|kc_Copy|gn|eR|gm|tH|rj|qy|rn|rG|mk_Desk|kc_Desk|fM|eS|fL|tJ|rl|qz|rp|rH|mk_Yard|kc_Yard|fQ|gp|du|gq|fR|mm|kq|kr|ko|jg|a58|l58|c58|k58|a57|l57|c57|k57|a56|l56 => k_is
    case c56|k56|a60|l60|c60|k60|a62|l62|c62|k62|a2|i2|l2|c2|k2|a6|i6|l6|c6|k6|a9|i9|l9|c9|k9|a4|i4|l4|c4|k4|a5|i5|l5|c5|k5|a8|i8|l8|c8|k8|a3|i3|l3|c3|k3|a7|i7|l7|c7|k7|a10|i10|l10|c10|k10|a0|i0|l0|c0|k0 => k_is
    case a1|i1|l1|c1|k1|a11|i11|l11|c11|k11|a24|i24|l24|c24|k24|a26|i26|l26|c26|k26|a25|i25|l25|c25|k25|a23|i23|l23|c23|k23|a14|i14|l14|c14|k14|a28|i28|l28|c28|k28|a21|i21|l21|c21|k21|a18|i18|l18|c18|k18|a27|i27|l27|c27|k27|a29|i29|l29|c29|k29 => k_is
    case a19|i19|l19|c19|k19|a20|i20|l20|c20|k20|a15|i15|l15|c15|k15|a16|i16|l16|c16|k16|a17|i17|l17|c17|k17|a22|i22|l22|c22|k22|a13|i13|l13|c13|k13|a12|i12|l12|c12|k12|a54|l54|c54|k54|a52|l52|c52|k52|a61|l61|c61|k61|a53|l53|c53|k53|a63|l63|c63|k63 => k_is
    case a51|l51|c51|k51|a55|l55|c55|k55|a45|l45|c45|k45|a49|l49|c49|k49|a31|l31|c31|k31|a43|l43|c43|k43|a41|l41|c41|k41|a46|l46|c46|k46|a47|l47|c47|k47|a35|l35|c35|k35|a36|l36|c36|k36|a40|l40|c40|k40|a30|l30|c30|k30|a38|l38|c38|k38|a42|l42|c42|k42 => k_is
    case a34|l34|c34|k34|a32|l32|c32|k32|a44|l44|c44|k44|a33|l33|c33|k33|a39|l39|c39|k39|a48|l48|c48|k48|a50|l50|c50|k50|a37|l37|c37|k37|a59|l59|c59|k59|xX|uf|ug|xY|gU|xZ|uh|ya|qU|nq|yb|qV => k_is
    case oI|lr|ls|lq|jx => k_exc
    case xm_11|xm_21|xm_22|xm_31|xm_32|xm_33|xm_41|xm_42|xm_43|xm_44|xm_51|xm_52|xm_53|xm_54|xm_55 => kts_exm

