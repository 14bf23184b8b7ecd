import PyProof.Rows.All
import Wide.All
import OpenK.AllK
import Wide.FinOn
import PyProof.EqAt
import PyProof.EqKinds
import PyProof.TupleCall
import Open.SpecLaws
import KE.OsHead
import KE.OsGo
import PyProof.Rows.SortShellAny
import KE.KSortTupG
import PySem.Challenge.RW_arraydesk_s01_answers
set_option Elab.async false
set_option linter.all false
set_option maxRecDepth 100000
set_option maxHeartbeats 2000000
abbrev Fg := PySem.W.Frag
namespace L2
open PySem PySem.Spec PyProof.Rows
abbrev j5 := Sum Int Str
def iW : j5 -> Value -> Bool
 | .inl k,v => Value.isInt k v
 | .inr x,v => Value.isStrOf x v
def aeq (w : World) : j5 -> Int
 | .inl k => hashInt k
 | .inr x => hashStr w x
theorem cZ : ∀ {k : j5} {v : Value},iW k v = true -> (∃ i t,k = Sum.inl i /\ v = Value.int i t) \/ (∃ x t,k = Sum.inr x /\ v = Value.str x t)
 | .inl i,v,h => by
  obtain ⟨t,e⟩ := Value.isInt_shape (k := i) (v := v) h; exact .inl ⟨i,t,rfl,e⟩
 | .inr x,v,h => by
  obtain ⟨t,e⟩ := Value.isStrOf_shape (x := x) (v := v) h; exact .inr ⟨x,t,rfl,e⟩
theorem vm (i : Int) (t : Tok) : iW (.inl i) (.int i t) = true := by simp [iW,Value.isInt]
theorem acU (a b : Int) : decide ((Sum.inl a : j5) = Sum.inl b) = (a == b) := by
 by_cases e : a = b
 ·subst e; simp
 ·have h : ¬ (Sum.inl a : j5) = Sum.inl b := fun q => e (Sum.inl.inj q)
  rw [decide_eq_false h]; exact (beq_eq_false_iff_ne.mpr e).symm
theorem acY (a b : Str) : decide ((Sum.inr a : j5) = Sum.inr b) = decide (a = b) := by
 by_cases e : a = b
 ·subst e; simp
 ·have h : ¬ (Sum.inr a : j5) = Sum.inr b := fun q => e (Sum.inr.inj q)
  rw [decide_eq_false h,decide_eq_false e]
theorem acu (a : Int) (b : Str) : decide ((Sum.inl a : j5) = Sum.inr b) = false := decide_eq_false (fun q => nomatch q)
theorem acA (a : Str) (b : Int) : decide ((Sum.inr a : j5) = Sum.inl b) = false := decide_eq_false (fun q => nomatch q)
def gp (prog : Program) (w : World) : PySem.KeyKind prog w j5 where
 is := iW
 hash := aeq w
 inj := fun v a b ha hb => by
  rcases cZ ha with ⟨i,t,rfl,rfl⟩ | ⟨x,t,rfl,rfl⟩
  ·rcases cZ hb with ⟨j,u,rfl,e⟩ | ⟨y,u,rfl,e⟩
   ·injection e with e1 _; rw [e1]
   ·exact nomatch e
  ·rcases cZ hb with ⟨j,u,rfl,e⟩ | ⟨y,u,rfl,e⟩
   ·exact nomatch e
   ·injection e with e1 _; rw [e1]
 byValue := fun k v h => by
  rcases cZ h with ⟨i,t,rfl,rfl⟩ | ⟨x,t,rfl,rfl⟩ <;> rfl
 pyHash := fun hv h => by
  rcases cZ hv with ⟨i,t,rfl,rfl⟩ | ⟨x,t,rfl,rfl⟩
  ·exact wpAny_pyHash_int h
  ·exact wpAny_pyHash_str h
 eqBool := fun hu hv h => by
  rcases cZ hu with ⟨i,t,rfl,rfl⟩ | ⟨x,t,rfl,rfl⟩
  ·rcases cZ hv with ⟨j,u,rfl,rfl⟩ | ⟨y,u,rfl,rfl⟩
   ·rw [acU] at h; exact wpAny_eqBool_int h
   ·rw [acu] at h; exact SeqAt.EqAt.int_str i t y u _ _ _ _ h
  ·rcases cZ hv with ⟨j,u,rfl,rfl⟩ | ⟨y,u,rfl,rfl⟩
   ·rw [acA] at h; exact SeqAt.EqAt.str_int x t j u _ _ _ _ h
   ·rw [acY] at h; exact wpAny_eqBool_str h
 «strs» := fun k x t v h => by
  rcases cZ h with ⟨i,u,rfl,e⟩ | ⟨y,u,rfl,e⟩
  ·exact nomatch e
  ·injection e with e1 _
   subst e1; cases v <;> rfl
theorem yT (prog : Program) (w : World) (k : j5) (v : Value) : (gp prog w).is k v = iW k v := rfl
theorem r9 (prog : Program) (w : World) (i : Int) (t : Tok) : (gp prog w).is (.inl i) (.int i t) = true := vm i t
inductive V where
 | non | bl (b : Bool) | int (i : Int) | str (x : Str) | byt (b : Array UInt8) | flt (b : UInt64) | ref (a : Addr) | ty (n : String)
 deriving DecidableEq
def bw : V -> Value -> Prop
 | .non,u => u = Value.none
 | .bl b,u => u = Value.bool b
 | .int i,u => ∃ t,u = Value.int i t
 | .str x,u => ∃ t,u = Value.str x t
 | .byt b,u => ∃ t,u = Value.bytes b t
 | .flt b,u => ∃ t,u = Value.float b t
 | .ref a,u => u = Value.ref a
 | .ty n,u => u = Value.type n
abbrev aL : List V -> List Value -> Prop := Paired bw
theorem aL.length {xs : List V} {us : List Value} (r : aL xs us) : xs.length = us.length := Paired.length r
theorem aL.get : ∀ {xs : List V} {us : List Value} {i : Nat} {x : V},aL xs us -> xs[i]? = some x -> ∃ u,us[i]? = some u /\ bw x u
 | _,_,_,_,.nil,e => by simp at e
 | _,_,0,_,.cons r _,e => by simp at e; subst e; exact ⟨_,rfl,r⟩
 | _,_,i + 1,x,.cons _ t,e => by
  obtain ⟨u,h1,h2⟩ := aL.get (i := i) (x := x) t (by simpa using e); exact ⟨u,by simpa using h1,h2⟩
theorem aL.set {x : V} {u : Value} (r : bw x u) : ∀ {xs : List V} {us : List Value} (i : Nat),aL xs us -> aL (xs.set i x) (us.set i u)
 | _,_,_,.nil => .nil
 | _,_,0,.cons _ t => .cons r t
 | _,_,i + 1,.cons q t => .cons q (aL.set r i t)
theorem aL.append : ∀ {xs ys : List V} {us ws : List Value},aL xs us -> aL ys ws -> aL (xs ++ ys) (us ++ ws)
 | _,_,_,_,.nil,s => s
 | _,_,_,_,.cons r t,s => .cons r (aL.append t s)
theorem aL.take : ∀ {xs : List V} {us : List Value} (n : Nat),aL xs us -> aL (xs.take n) (us.take n)
 | _,_,0,_ => .nil
 | _,_,_ + 1,.nil => .nil
 | _,_,n + 1,.cons r t => .cons r (aL.take n t)
theorem aL.drop : ∀ {xs : List V} {us : List Value} (n : Nat),aL xs us -> aL (xs.drop n) (us.drop n)
 | _,_,0,r => r
 | _,_,_ + 1,.nil => .nil
 | _,_,n + 1,.cons _ t => aL.drop n t
def oa : Option V -> Option Value -> Prop
 | some v,some u => bw v u
 | none,none => True
 | _,_ => False
def KV {κ : Type} : List (κ × V) -> List (κ × Value) -> Prop := Paired fun (p : κ × V) (q : κ × Value) => p.1 = q.1 /\ bw p.2 q.2
def kV : j5 -> V
 | .inl i => .int i
 | .inr x => .str x
inductive HO where
 /-- a list -/
 | lst (xs : List V)
 /-- a tuple (never changes) -/
 | tup (xs : List V)
 /-- a dict whose keys are ints and texts; one whose keys are tuples of ints and texts (the empty one is both) -/
 | dK (kvs : List (j5 × V)) | dT (kvs : List (List j5 × V))
 /-- a set of ints: its members,its size -/
 | set (S : Int -> Bool) (n : Nat)
 /-- an instance of the class at C,its dict at dx,its attributes -/
 | ins (C dx : Addr) (fs : List (Str × V))
 /-- the dict of the instance at x -/
 | own (x : Addr)
 /-- the dict of an exception -/
 | xd (fs : List (Str × V))
 /-- a bound method,f of x -/
 | met (f x : Addr)
 /-- a range object lo,lo + 1,.. below hi -/
 | rng (lo hi : Int)
 /-- a thing that is known to the object (the script; a dict while a loop walks it): read,never written while it is so -/
 | frz (o : Obj) (u : HO)
 /-- a code object's table -/
 | tbl (ps : Array Value)
 /-- any other thing,by what is true of its one object (a def of one's own: SetO a S n := HO.ext fun h => ..) -/
 | ext (φ : Heap -> Prop)
abbrev Hp := Addr -> Option HO
def upd (H : Hp) (a : Addr) (o : HO) : Hp := fun b => if b = a then some o else H b
theorem am {H : Hp} {a : Addr} {o : HO} : upd H a o a = some o := by unfold upd; rw [if_pos rfl]
theorem aK {H : Hp} {a b : Addr} {o : HO} (h : b ≠ a) : upd H a o b = H b := by unfold upd; rw [if_neg h]
theorem mq {H : Hp} {a b : Addr} {o u : HO} (h : H a = some o) (h' : H b = some u) (d : o ≠ u) : a ≠ b := by
 intro e; subst e; rw [h] at h'; exact d (Option.some.inj h')
theorem aJ {H : Hp} {a b : Addr} {o : HO} (h : H a = some o) (h' : H b = none) : a ≠ b := by
 intro e; subst e; rw [h] at h'; cases h'
section
variable (P : Program) (w : World)
def df (H : Hp) (h : Heap) (a : Addr) : HO -> Prop
 | .lst xs => xs.length <= sizeLine /\ ∃ (its : List Value) (n : Nat),aL xs its /\ h.get? a = some { cls := .type "list",data := .seq its.toArray n }
 | .tup xs => xs.length <= sizeLine /\ ∃ its : List Value,aL xs its /\ IsTup h a its.toArray
 | .dK kvs => kvs.length <= sizeLine /\ (a == sysModules) = false /\ ∃ vs,KV kvs vs /\ h.DictOf (gp P w) a vs
 | .dT kvs => kvs.length <= sizeLine /\ (a == sysModules) = false /\ ∃ xs : List (List j5 × Addr × Value),
   Paired (fun (p : List j5 × V) (q : List j5 × Addr × Value) => p.1 = q.1 /\ H q.2.1 = some (.tup (p.1.map kV)) /\ bw p.2 q.2.2) kvs xs ∧
   ∃ o es ep,h.get? a = some o /\ o.ExactDict /\ o.data = .dict es ep /\ es.toList = xs.map (entryOfKey (tupleKind (gp P w))) /\ (xs.map (·.1)).Nodup
 | .set S n => h.SetOf (intKind P w) a S n
 | .ins C dx fs => H dx = some (.own a) /\ fs.length <= 1000 /\ dx ≠ a /\ h.get? a = some (PySem.W.instObj C dx) ∧
   ∃ mA,h.Ns1 dx mA /\ (∀ f,oa (fs.lookup f) (mA f)) /\ PySem.Within mA (fs.map (·.1))
 | .own _ => ∃ o,h.get? a = some o
 | .xd fs => ∃ mA,h.Ns1 a mA /\ ∀ f,oa (fs.lookup f) (mA f)
 | .rng lo hi => ∃ t u v,h.get? a = some { cls := .type "range",data := .fields #[.int lo t,.int hi u,.int 1 v] }
 | .frz o u => h.get? a = some o /\ df H h a u
 | .tbl ps => h.get? a = some { cls := .none,data := .fields ps }
 | .met f x => h.get? a = some (PySem.W.methodObj (.ref f) (.ref x))
 | .ext φ => φ h /\ (∃ o,h.get? a = some o) /\ ∀ h1 h2 : Heap,φ h1 -> (∀ o,h1.get? a = some o -> h2.get? a = some o) -> φ h2
def d4 (H : Hp) (h : Heap) : Prop := ∀ a o,H a = some o -> df P w H h a o
end
section
variable {P : Program} {w : World} {H H' : Hp} {h h' : Heap} {a : Addr} {o : HO}
theorem df.lt (x : df P w H h a o) : a < h.objs.size := by
 cases o with
 | lst xs => obtain ⟨_,_,_,_,e⟩ := x; exact Heap.lt_size e
 | tup xs => obtain ⟨_,_,_,p⟩ := x; exact p.lt
 | dK kvs => obtain ⟨_,_,_,_,o,_,_,e,_⟩ := x; exact Heap.lt_size e
 | dT kvs => obtain ⟨_,_,_,_,o,_,_,e,_⟩ := x; exact Heap.lt_size e
 | set S n => obtain ⟨o,_,_,_,e,_⟩ := x; exact Heap.lt_size e
 | ins C dx fs => obtain ⟨_,_,_,e,_⟩ := x; exact Heap.lt_size e
 | own y => obtain ⟨_,e⟩ := x; exact Heap.lt_size e
 | xd fs => obtain ⟨_,⟨_,_,_,e,_⟩,_⟩ := x; exact Heap.lt_size e
 | rng lo hi => obtain ⟨_,_,_,e⟩ := x; exact Heap.lt_size e
 | frz ob u => obtain ⟨e,_⟩ := x; exact Heap.lt_size e
 | tbl ps => exact Heap.lt_size (show h.get? a = some _ from x)
 | met f y => exact Heap.lt_size (show h.get? a = some _ from x)
 | ext φ => obtain ⟨_,⟨_,e⟩,_⟩ := x; exact Heap.lt_size e
theorem Paired.mapP {α β : Type} {F G : α -> β -> Prop} : ∀ {l₁ : List α} {l₂ : List β},Paired F l₁ l₂ -> (∀ a b,F a b -> G a b) -> Paired G l₁ l₂
 | _,_,.nil,_ => .nil
 | _,_,.cons r t,f => .cons (f _ _ r) (Paired.mapP t f)
theorem df.stay (x : df P w H h a o) (k : ∀ b u,(b = a \/ H b = some (.own a)) -> h.get? b = some u -> h'.get? b = some u)
  (ho : ∀ b,H b = some (.own a) -> H' b = some (.own a)) (ht : ∀ b xs,H b = some (.tup xs) -> H' b = some (.tup xs)) : df P w H' h' a o := by
 induction o with
 | lst xs => obtain ⟨z,its,n,r,e⟩ := x; exact ⟨z,its,n,r,k _ _ (.inl rfl) e⟩
 | tup xs => obtain ⟨z,its,r,ob,e,c⟩ := x; exact ⟨z,its,r,ob,k _ _ (.inl rfl) e,c⟩
 | dK kvs => obtain ⟨z,y,vs,r,ob,es,ep,e,c⟩ := x; exact ⟨z,y,vs,r,ob,es,ep,k _ _ (.inl rfl) e,c⟩
 | dT kvs =>
  obtain ⟨z,y,xs,r,ob,es,ep,e,c⟩ := x; exact ⟨z,y,xs,Paired.mapP r fun p q z => ⟨z.1,ht _ _ z.2.1,z.2.2⟩,ob,es,ep,k _ _ (.inl rfl) e,c⟩
 | set S n => obtain ⟨ob,es,ep,t,e,c⟩ := x; exact ⟨ob,es,ep,t,k _ _ (.inl rfl) e,c⟩
 | ins C dx fs =>
  obtain ⟨d,z,ne,e,mA,⟨od,es,ep,e2,c⟩,r⟩ := x; exact ⟨ho _ d,z,ne,k _ _ (.inl rfl) e,mA,⟨od,es,ep,k _ _ (.inr d) e2,c⟩,r⟩
 | own y => obtain ⟨ob,e⟩ := x; exact ⟨ob,k _ _ (.inl rfl) e⟩
 | xd fs => obtain ⟨mA,⟨od,es,ep,e,c⟩,r⟩ := x; exact ⟨mA,⟨od,es,ep,k _ _ (.inl rfl) e,c⟩,r⟩
 | rng lo hi => obtain ⟨t,u,v,e⟩ := x; exact ⟨t,u,v,k _ _ (.inl rfl) e⟩
 | frz ob u ih => obtain ⟨e,q⟩ := x; exact ⟨k _ _ (.inl rfl) e,ih q⟩
 | tbl ps =>
  have e : h.get? a = some { cls := .none,data := .fields ps } := x; show h'.get? a = some { cls := .none,data := .fields ps }; exact k a _ (.inl rfl) e
 | met f y =>
  have e : h.get? a = some (PySem.W.methodObj (.ref f) (.ref y)) := x; show h'.get? a = some (PySem.W.methodObj (.ref f) (.ref y)); exact k a _ (.inl rfl) e
 | ext φ => obtain ⟨p,⟨o,e⟩,st⟩ := x; exact ⟨st _ _ p fun o q => k _ _ (.inl rfl) q,⟨o,k _ _ (.inl rfl) e⟩,st⟩
theorem d4.lt (x : d4 P w H h) (e : H a = some o) : a < h.objs.size := (x a o e).lt
theorem d4.fresh (x : d4 P w H h) (e : h.objs.size <= a) : H a = none := by
 cases q : H a with
 | none => rfl
 | some u => exact absurd (Nat.lt_of_lt_of_le (x.lt q) e) (Nat.lt_irrefl _)
theorem d4.kept (x : d4 P w H h) (k : ∀ b u,h.get? b = some u -> h'.get? b = some u) : d4 P w H h' := fun a o e =>
 (x a o e).stay (fun b u _ q => k b u q) (fun _ q => q) fun _ _ q => q
theorem d4.laid (x : d4 P w H h) (k : ∀ b u,h.get? b = some u -> h'.get? b = some u) (hp : h.objs.size <= a) (new : df P w (upd H a o) h' a o) : d4 P w (upd H a o) h' := fun b u e => by
 have hn := x.fresh hp
 by_cases hb : b = a
 ·subst hb; rw [am] at e; cases e; exact new
 ·rw [aK hb] at e; exact (x b u e).stay (fun c v _ q => k c v q) (fun c q => by rw [aK (aJ q hn)]; exact q) fun c xs q => by rw [aK (aJ q hn)]; exact q
end
def Rd (H : Hp) (a : Addr) (u : HO) : Prop := H a = some u \/ ∃ o,H a = some (.frz o u)
theorem Rd.ok {P : Program} {w : World} {H : Hp} {h : Heap} {a : Addr} {u : HO} (r : Rd H a u) (x : d4 P w H h) : df P w H h a u := by
 rcases r with r | ⟨o,r⟩
 ·exact x a u r
 ·obtain ⟨_,q⟩ := x a _ r; exact q
def wT : Option HO -> Prop
 | some (.lst _) => True
 | some (.dK _) => True
 | some (.dT _) => True
 | some (.set _ _) => True
 | some (.ins _ _ _) => True
 | some (.ext _) => True
 | _ => False
section
variable {P : Program} {w : World} {H : Hp} {h h' : Heap} {x e : Addr} {o' : HO}
theorem d4.write (ok : d4 P w H h) (mu : wT (H x)) (he : e = x \/ H e = some (.own x)) (k : ∀ b u,b ≠ e -> h.get? b = some u -> h'.get? b = some u) (heo : ∃ u,h'.get? e = some u)
  (new : df P w (upd H x o') h' x o') : d4 P w (upd H x o') h' := fun b u q => by
 have nown : ∀ c y,H c = some (.own y) -> c ≠ x := fun c y r z => by subst z; rw [r] at mu; exact mu
 have ntup : ∀ c xs,H c = some (.tup xs) -> c ≠ x := fun c xs r z => by subst z; rw [r] at mu; exact mu
 by_cases hb : b = x
 ·subst hb; rw [am] at q; cases q; exact new
 ·rw [aK hb] at q
  by_cases hbe : b = e
  ·have q' : H b = some (.own x) := by
    rcases he with z | z
    ·exact absurd (hbe.trans z) hb
    ·rw [hbe]; exact z
   rw [q] at q'; cases q'; obtain ⟨v,hv⟩ := heo; exact ⟨v,by rw [hbe]; exact hv⟩
  ·refine (ok b u q).stay (fun c v hc r => k c v ?_ r) (fun c r => by rw [aK (nown c b r)]; exact r) fun c xs r => by rw [aK (ntup c xs r)]; exact r
   rcases hc with rfl | hc
   ·exact hbe
   ·rintro rfl
    rcases he with z | z
    ·exact nown c b hc z
    ·rw [hc] at z; cases z; exact hb rfl
end
structure Un (fs ex : List Addr) (H H' : Hp) (h h' : Heap) : Prop where
 keep : ∀ b o,h.get? b = some o -> H b = none -> b ∉ fs -> b ∉ ex -> h'.get? b = some o
 slot : ∀ b o,h.get? b = some o -> H b = none -> b ∈ fs -> b ∉ ex -> ∃ sl,h'.get? b = some { o with slots := sl }
 free : ∀ b o,h.get? b = some o -> H b = none -> b ∉ ex -> H' b = none
 there : ∀ b o,h.get? b = some o -> b ∉ ex -> ∃ o',h'.get? b = some o'
 tups : ∀ b xs,H b = some (.tup xs) -> H' b = some (.tup xs)
 frzs : ∀ b o u,H b = some (.frz o u) -> H' b = some (.frz o u)
 tbls : ∀ b ps,H b = some (.tbl ps) -> ∃ more,H' b = some (.tbl (ps ++ more))
section
variable {fs fs' ex ex' : List Addr} {H H1 H2 : Hp} {h h1 h2 h' : Heap} {a x e : Addr} {o : HO}
theorem Un.any (u : Un fs ex H H1 h h1) {b : Addr} {ob : Obj} (q : h.get? b = some ob) (n : H b = none) (hx : b ∉ ex) : ∃ sl,h1.get? b = some { ob with slots := sl } := by
 by_cases hb : b ∈ fs
 ·exact u.slot b ob q n hb hx
 ·exact ⟨ob.slots,u.keep b ob q n hb hx⟩
theorem Un.kept (k : ∀ b u,h.get? b = some u -> h'.get? b = some u) : Un fs ex H H h h' :=
 ⟨fun b ob q _ _ _ => k b ob q,fun b ob q _ _ _ => ⟨ob.slots,k b ob q⟩,fun _ _ _ n _ => n,fun b ob q _ => ⟨ob,k b ob q⟩,fun _ _ q => q,fun _ _ _ q => q,fun _ ps q => ⟨#[],by rw [q]; simp⟩⟩
theorem Un.refl : Un fs ex H H h h := Un.kept fun _ _ q => q
theorem Un.laid (k : ∀ b u,h.get? b = some u -> h'.get? b = some u) (hp : h.objs.size <= a) (hn : H a = none) : Un fs ex H (upd H a o) h h' where
 keep := fun b u q _ _ _ => k b u q
 slot := fun b u q _ _ _ => ⟨u.slots,k b u q⟩
 free := fun b u q n _ => by rw [aK (Nat.ne_of_lt (Nat.lt_of_lt_of_le (Heap.lt_size q) hp))]; exact n
 there := fun b u q _ => ⟨u,k b u q⟩
 tups := fun b xs q => by rw [aK (aJ q hn)]; exact q
 frzs := fun b u xs q => by rw [aK (aJ q hn)]; exact q
 tbls := fun b ps q => ⟨#[],by rw [aK (aJ q hn),q]; simp⟩
theorem Un.write (mu : wT (H x)) (he : e = x \/ H e = some (.own x)) (k : ∀ b u,b ≠ e -> h.get? b = some u -> h'.get? b = some u) (heo : ∃ u,h'.get? e = some u) : Un fs ex H (upd H x o) h h' := by
 have hx : ∀ b,H b = none -> b ≠ x := fun b n z => by subst z; rw [n] at mu; exact mu
 have hb : ∀ b,H b = none -> b ≠ e := fun b n z => by
  subst z
  rcases he with r | r
  ·exact hx b n r
  ·rw [n] at r; cases r
 have hm : ∀ b u,H b = some u -> ¬ wT (some u) -> b ≠ x := fun b u q nm z => by subst z; rw [q] at mu; exact nm mu
 refine ⟨fun b u q n _ _ => k b u (hb b n) q,fun b u q n _ _ => ⟨u.slots,k b u (hb b n) q⟩,fun b u q n _ => by rw [aK (hx b n)]; exact n,fun b u q _ => ?_,
  fun b xs q => by rw [aK (hm b _ q fun z => z)]; exact q,fun b u xs q => by rw [aK (hm b _ q fun z => z)]; exact q,fun b ps q => ⟨#[],by rw [aK (hm b _ q fun z => z),q]; simp⟩⟩
 by_cases hbe : b = e
 ·subst hbe; exact heo
 ·exact ⟨u,k b u hbe q⟩
end
def trk (h : Heap) (H : Hp) : List Addr := (List.range h.objs.size).filter fun a => (H a).isSome
def o7 (h : Heap) (H : Hp) : Heap := PySem.W.hideAll h (trk h H)
theorem zV (h : Heap) (H : Hp) : (o7 h H).objs.size = h.objs.size := PySem.W.hideAll_size _ _
theorem abd {h : Heap} {H : Hp} {b : Addr} {o : Obj} (e : h.get? b = some o) (n : H b = none) : (o7 h H).get? b = some o :=
 PySem.W.hideAll_get _ e fun hm => by
  have q : (H b).isSome = true := (List.mem_filter.mp hm).2; rw [n] at q; simp at q
theorem acn {h : Heap} {H : Hp} {b : Addr} {o : Obj} (e : (o7 h H).get? b = some o) : h.get? b = some o /\ H b = none := by
 have e' : h.get? b = some o := PySem.W.of_hideAll (trk h H) e; refine ⟨e',?_⟩
 cases q : H b with
 | none => rfl
 | some x =>
  have hm : b ∈ trk h H := List.mem_filter.mpr ⟨List.mem_range.mpr (Heap.lt_size e'),by simp [q]⟩; have z : (o7 h H).get? b = none := PySem.W.hideAll_none (trk h H) hm; rw [z] at e; cases e
structure Mod (K : Fg) (mg : Str -> Option Value) (base : Heap) : Prop where
 kin : K.In base
 glob : base.Ns mainGlobals mg
 blt : ∃ mb,base.Ns builtinsNs mb /\ ∀ x : Str,x ≠ "__name__" -> mb x = bootBuiltins x
 nolimit : base.NoLimit
structure Cx where
 prog : Program
 w : World
 K : Fg
 mg : Str -> Option Value
 base : Heap
 A : Around
 N : List Str
 s_0 : Shared
 H_0 : Hp
 env : Env
 outer : List Env
 stack : List Env
 ex : List Addr
 fn : Str -> Bool
 calm : Bool
 pn : List (Addr × Obj)
 xe : Value -> Shared -> Prop
def qd (l : List Env) : List Addr := l.filterMap (·.frame)
abbrev Cx.fs (X : Cx) : List Addr := qd X.outer
def z7 (sc : Scope) (x : Str) : Prop := sc.names.lookup x = some .local \/ sc.names.lookup x = some .cell \/ sc.names.lookup x = some .free
def yo (sc : Scope) (x : Str) : Prop := sc.names.lookup x = some .local \/ sc.names.lookup x = some .cell
def ad3 (env : Env) (h : Heap) (m : Str -> Option Value) (x : Str) (u : Value) : Prop :=
 (env.kindOf x = some .local /\ m x = some u) \/ ((env.kindOf x = some .cell \/ env.kindOf x = some .free) /\ ∃ c,env.cells.lookup x = some c /\ h.IsCell c (some u))
structure Cx.Ok (X : Cx) : Prop where
 mod : Mod X.K X.mg X.base
 kind : X.env.scope.kind = .function
 glob : X.env.globals = mainGlobals
 blt : X.env.builtins = builtinsNs
 above : X.s_0.heap.objs.size <= X.env.locals
 inj : ∀ x y c,X.env.cells.lookup x = some c -> X.env.cells.lookup y = some c -> x = y
 has : ∀ x,(X.env.kindOf x = some .cell \/ X.env.kindOf x = some .free) -> ∃ c,X.env.cells.lookup x = some c
 cab : ∀ x c,X.fn x = true -> X.env.cells.lookup x = some c -> X.s_0.heap.objs.size <= c
 hd : X.calm = true -> X.A.handled = none
 frames : X.A.frames = some X.stack
 stk : X.stack = X.outer \/ (X.stack = X.env :: X.outer /\ X.env.frame = some X.env.locals)
 exf : ∀ b ∈ X.ex,b ≠ X.env.locals /\ ∀ x c,X.env.cells.lookup x = some c -> c ≠ b
 bs : ∀ b o,X.base.get? b = some o -> X.s_0.heap.get? b = some o /\ X.H_0 b = none
 bsz : X.base.objs.size <= X.s_0.heap.objs.size
 noex : ∀ b o,X.base.get? b = some o -> b ∉ X.ex
 exfs : ∀ b ∈ X.ex,b ∉ X.fs
 funs : X.s_0.heap.FunFrames X.base X.outer
 frf : ∀ b ∈ X.fs,X.H_0 b = none
structure ay (X : Cx) (pins : List (Addr × Obj)) (σ : List (Option V)) (H : Hp) (s : Shared) : Prop where
 ok : X.Ok
 os : s.os = X.s_0.os
 bare : AllBare s.gens
 base : Un X.fs X.ex X.H_0 H X.s_0.heap s.heap
 loc : ∃ m,s.heap.Ns X.env.locals m /\ ∀ (i : Nat) (x : Str) (v : V),X.N[i]? = some x -> σ[i]? = some (some v) -> z7 X.env.scope x -> ∃ u,bw v u /\ ad3 X.env s.heap m x u
 cell : ∀ x c,X.env.cells.lookup x = some c -> ∃ v,s.heap.IsCell c v
 free : H X.env.locals = none
 freeC : ∀ x c,X.env.cells.lookup x = some c -> H c = none
 pin : ∀ p ∈ X.pn ++ pins,s.heap.get? p.1 = some p.2 /\ H p.1 = none /\ p.1 ≠ X.env.locals /\ p.1 ∉ X.fs /\ ∀ v,p.2.data ≠ .cell v
 hok : d4 X.prog X.w H s.heap
 len : σ.length = X.N.length
section
variable {X : Cx} {pins : List (Addr × Obj)} {σ : List (Option V)} {H H' : Hp} {s : Shared} {h' : Heap}
theorem Cx.Ok.nofr (ok : X.Ok) {b : Addr} {o : Obj} (e : X.base.get? b = some o) : b ∉ X.fs := fun hb => by
 have := (ok.funs.mem hb).1; rw [e] at this; cases this
theorem ay.bs (I : ay X pins σ H s) : ∀ b o,X.base.get? b = some o -> s.heap.get? b = some o /\ H b = none := fun b o e =>
 ⟨I.base.keep b o (I.ok.bs b o e).1 (I.ok.bs b o e).2 (I.ok.nofr e) (I.ok.noex b o e),I.base.free b o (I.ok.bs b o e).1 (I.ok.bs b o e).2 (I.ok.noex b o e)⟩
theorem ay.bk (I : ay X pins σ H s) : ∀ b o,X.base.get? b = some o -> s.heap.get? b = some o := fun b o e => (I.bs b o e).1
theorem ay.mod (I : ay X pins σ H s) : Mod X.K X.mg X.base := I.ok.mod
theorem ay.kIn (I : ay X pins σ H s) : X.K.In s.heap := I.ok.mod.kin.keeps I.bk
theorem ay.lt (I : ay X pins σ H s) : X.env.locals < s.heap.objs.size := let ⟨_,hn,_⟩ := I.loc; hn.lt
theorem ay.sz (I : ay X pins σ H s) : X.s_0.heap.objs.size <= s.heap.objs.size := Nat.le_trans I.ok.above (Nat.le_of_lt I.lt)
theorem ay.nofs (I : ay X pins σ H s) {a : Addr} (h : s.heap.objs.size <= a) : a ∉ X.fs := fun hb => by
 obtain ⟨_,o,ho,_⟩ := I.ok.funs.mem hb; exact absurd (Nat.lt_of_lt_of_le (Heap.lt_size ho) (Nat.le_trans I.sz h)) (Nat.lt_irrefl _)
theorem ay.cne (I : ay X pins σ H s) : ∀ x c,X.env.cells.lookup x = some c -> c ≠ X.env.locals := fun x c e z => by
 obtain ⟨v,o,ho,hd⟩ := I.cell x c e; obtain ⟨m,⟨o',es,ep,ho',hd',_⟩,_⟩ := I.loc; rw [z,ho'] at ho; cases ho; rw [hd'] at hd; cases hd
theorem ay.funs (I : ay X pins σ H s) : s.heap.FunFrames X.base X.outer := by
 have all : ∀ (l : List Env),(∀ b ∈ qd l,b ∈ X.fs) -> X.s_0.heap.FunFrames X.base l -> s.heap.FunFrames X.base l := by
  intro l
  induction l with
  | nil => intro _ _; trivial
  | cons env r ih =>
   intro hs hl; obtain ⟨hk,⟨L,o,hf,hn,ho,hd⟩,hr⟩ := hl; have hL : L ∈ X.fs := hs L (by unfold qd; rw [List.filterMap_cons,hf]; exact List.mem_cons_self)
   obtain ⟨sl,e⟩ := I.base.slot L o ho (I.ok.frf L hL) hL fun z => I.ok.exfs L z hL
   exact ⟨hk,⟨L,_,hf,hn,e,hd⟩,ih (fun b hb => hs b (by unfold qd; rw [List.filterMap_cons,hf]; exact List.mem_cons_of_mem _ hb)) hr⟩
 exact all X.outer (fun _ hb => hb) I.ok.funs
theorem ay.stack (I : ay X pins σ H s) : s.heap.FunFrames X.base X.stack := by
 rcases I.ok.stk with e | ⟨e,hf⟩
 ·rw [e]; exact I.funs
 ·rw [e]; obtain ⟨m,hn,_⟩ := I.loc; refine .cons (by rw [I.ok.kind]; decide) hf hn ?_ I.funs; exact Heap.get?_none_of_le (Nat.le_trans I.ok.bsz I.ok.above)
theorem ay.stkSub (I : ay X pins σ H s) : ∀ b ∈ qd X.stack,b ∈ X.env.locals :: X.fs := fun b hb => by
 rcases I.ok.stk with e | ⟨e,hf⟩
 ·rw [e] at hb; exact List.mem_cons_of_mem _ hb
 ·rw [e] at hb; unfold qd at hb; rw [List.filterMap_cons,hf] at hb; exact hb
theorem ay.stkFree (I : ay X pins σ H s) : ∀ b ∈ qd X.stack,H b = none := fun b hb => by
 rcases List.mem_cons.mp (I.stkSub b hb) with e | hb
 ·rw [e]; exact I.free
 ·obtain ⟨_,o,ho,_⟩ := I.ok.funs.mem hb; exact I.base.free b o ho (I.ok.frf b hb) fun z => I.ok.exfs b z hb
theorem ay.step {g' : Array GenState} {t' : Nat} {d' : Drawn} {ch : List Addr} (I : ay X pins σ H s)
  (hch : ∀ b ∈ ch,(b ∈ X.ex \/ X.s_0.heap.objs.size <= b) /\ b ≠ X.env.locals /\ (∀ x c,X.env.cells.lookup x = some c -> c ≠ b) /\ ∀ p ∈ X.pn ++ pins,p.1 ≠ b)
  (keep : ∀ b o,b ≠ X.env.locals -> b ∉ X.fs -> b ∉ ch -> s.heap.get? b = some o -> H b = none -> h'.get? b = some o)
  (slot : ∀ b o,b ≠ X.env.locals -> b ∈ X.fs -> b ∉ ch -> s.heap.get? b = some o -> H b = none -> ∃ sl,h'.get? b = some { o with slots := sl }) (free : ∀ b o,b ∉ ch -> s.heap.get? b = some o -> H b = none -> H' b = none)
  (there : ∀ b o,b ∉ ch -> s.heap.get? b = some o -> ∃ o',h'.get? b = some o')
  (tups : ∀ b xs,H b = some (.tup xs) -> H' b = some (.tup xs)) (frzs : ∀ b o u,H b = some (.frz o u) -> H' b = some (.frz o u)) (tbls : ∀ b ps,H b = some (.tbl ps) -> ∃ more,H' b = some (.tbl (ps ++ more)))
  (ns : ∀ m,s.heap.Ns X.env.locals m -> h'.Ns X.env.locals m) (hok : d4 X.prog X.w H' h') (hg : AllBare g') :
  ay X pins σ H' { s with heap := h',gens := g',drawn := d',toks := t' } := by
 have neL : ∀ b o,X.s_0.heap.get? b = some o -> b ≠ X.env.locals := fun b o e => Nat.ne_of_lt (Nat.lt_of_lt_of_le (Heap.lt_size e) I.ok.above)
 have neC : ∀ b o,X.s_0.heap.get? b = some o -> b ∉ X.ex -> b ∉ ch := fun b o e hx hb => by
  rcases (hch b hb).1 with z | z
  ·exact hx z
  ·exact absurd (Nat.lt_of_lt_of_le (Heap.lt_size e) z) (Nat.lt_irrefl _)
 have cellK : ∀ x c,X.env.cells.lookup x = some c -> ∀ v,s.heap.IsCell c v -> h'.IsCell c v := fun x c e v ⟨o,ho,hd⟩ => by
  have nch : c ∉ ch := fun z => (hch c z).2.2.1 x c e rfl
  by_cases hc : c ∈ X.fs
  ·obtain ⟨sl,q⟩ := slot c o (I.cne x c e) hc nch ho (I.freeC x c e); exact ⟨_,q,hd⟩
  ·exact ⟨o,keep c o (I.cne x c e) hc nch ho (I.freeC x c e),hd⟩
 refine ⟨I.ok,I.os,hg,⟨fun b o e n hb hx => ?_,fun b o e n hb hx => ?_,fun b o e n hx => ?_,fun b o e hx => ?_,fun b xs e => tups b xs (I.base.tups b xs e),fun b o xs e => frzs b o xs (I.base.frzs b o xs e),fun b ps e => ?_⟩,?_,fun x c e => ?_,?_,fun x c e => ?_,fun p hp => ?_,hok,I.len⟩
 ·exact keep b o (neL b o e) hb (neC b o e hx) (I.base.keep b o e n hb hx) (I.base.free b o e n hx)
 ·obtain ⟨sl,e1⟩ := I.base.slot b o e n hb hx; obtain ⟨sl',e2⟩ := slot b _ (neL b o e) hb (neC b o e hx) e1 (I.base.free b o e n hx); exact ⟨sl',e2⟩
 ·obtain ⟨o',e1⟩ := I.base.there b o e hx; exact free b o' (neC b o e hx) e1 (I.base.free b o e n hx)
 ·obtain ⟨o',e1⟩ := I.base.there b o e hx; exact there b o' (neC b o e hx) e1
 ·obtain ⟨m1,e1⟩ := I.base.tbls b ps e; obtain ⟨m2,e2⟩ := tbls b _ e1; exact ⟨m1 ++ m2,by rw [e2,Array.append_assoc]⟩
 ·obtain ⟨m,hn,hl⟩ := I.loc; refine ⟨m,ns m hn,fun i x v e1 e2 e3 => ?_⟩; obtain ⟨u,r,l⟩ := hl i x v e1 e2 e3; refine ⟨u,r,?_⟩
  rcases l with l | ⟨k,c,e,z⟩
  ·exact .inl l
  ·exact .inr ⟨k,c,e,cellK x c e _ z⟩
 ·obtain ⟨v,z⟩ := I.cell x c e; exact ⟨v,cellK x c e v z⟩
 ·obtain ⟨m,⟨o,_,_,ho,_⟩,_⟩ := I.loc; exact free _ o (fun z => (hch _ z).2.1 rfl) ho I.free
 ·obtain ⟨v,o,ho,hd⟩ := I.cell x c e; exact free c o (fun z => (hch c z).2.2.1 x c e rfl) ho (I.freeC x c e)
 ·obtain ⟨e,n,ne,nf,d⟩ := I.pin p hp; have nch : p.1 ∉ ch := fun z => (hch p.1 z).2.2.2 p hp rfl
  exact ⟨keep p.1 p.2 ne nf nch e n,free p.1 p.2 nch e n,ne,nf,d⟩
theorem ay.un {t' : Nat} (I : ay X pins σ H s) (u : Un X.fs [] H H' s.heap h') (hok : d4 X.prog X.w H' h') : ay X pins σ H' { s with heap := h',toks := t' } := by
 obtain ⟨m,⟨o,es,ep,ho,r⟩,_⟩ := id I.loc; obtain ⟨sl,hL⟩ := u.any ho I.free (by simp)
 exact I.step (g' := s.gens) (d' := s.drawn) (ch := []) (fun _ z => nomatch z) (fun b o _ hb _ e n => u.keep b o e n hb (by simp)) (fun b o _ hb _ e n => u.slot b o e n hb (by simp)) (fun b o _ e n => u.free b o e n (by simp)) (fun b o _ e => u.there b o e (by simp)) u.tups u.frzs u.tbls (fun m' hm => by
  obtain ⟨o',es',ep',ho',r'⟩ := hm; rw [ho] at ho'; cases ho'
  exact ⟨_,es',ep',hL,r'⟩) hok I.bare
theorem ay.call {g' : Array GenState} {t' : Nat} {d' : Drawn} {ch : List Addr} (I : ay X pins σ H s) (u : Un (qd X.stack) ch H H' s.heap h') (hok : d4 X.prog X.w H' h') (hg : AllBare g')
  (hch : ∀ b ∈ ch,(b ∈ X.ex \/ X.s_0.heap.objs.size <= b) /\ b ≠ X.env.locals /\ (∀ x c,X.env.cells.lookup x = some c -> c ≠ b) /\ ∀ p ∈ X.pn ++ pins,p.1 ≠ b) :
  ay X pins σ H' { s with heap := h',gens := g',drawn := d',toks := t' } := by
 obtain ⟨m,⟨o,es,ep,ho,r⟩,_⟩ := id I.loc
 obtain ⟨sl,hL⟩ := u.any ho I.free fun z => (hch _ z).2.1 rfl
 exact I.step (ch := ch) hch (fun b o hL hb hc e n => u.keep b o e n (fun z => (List.mem_cons.mp (I.stkSub b z)).elim hL hb) hc) (fun b o _ _ hc e n => u.any e n hc) (fun b o hc e n => u.free b o e n hc) (fun b o hc e => u.there b o e hc) u.tups u.frzs u.tbls (fun m' hm => by
  obtain ⟨o',es',ep',ho',r'⟩ := hm; rw [ho] at ho'; cases ho'
  exact ⟨_,es',ep',hL,r'⟩) hok hg
theorem ay.turned {t' : Nat} {it : Addr} (I : ay X pins σ H s) (k : ∀ b o,b ≠ it -> s.heap.get? b = some o -> h'.get? b = some o) (hn : H it = none) (hL : it ≠ X.env.locals)
  (h1 : it ∈ X.ex \/ X.s_0.heap.objs.size <= it) (h2 : ∀ x c,X.env.cells.lookup x = some c -> c ≠ it) (h3 : ∀ p ∈ X.pn ++ pins,p.1 ≠ it) : ay X pins σ H { s with heap := h',toks := t' } := by
 have nit : ∀ b u,H b = some u -> b ≠ it := fun b u e z => by rw [z,hn] at e; cases e
 refine I.step (g' := s.gens) (d' := s.drawn) (ch := [it]) (fun b hb => ?_) (fun b o _ _ hc e _ => k b o (fun z => hc (by simp [z])) e) (fun b o _ _ hc e _ => ⟨o.slots,k b o (fun z => hc (by simp [z])) e⟩) (fun _ _ _ _ n => n)
  (fun b o hc e => ⟨o,k b o (fun z => hc (by simp [z])) e⟩) (fun _ _ e => e) (fun _ _ _ e => e) (fun b ps e => ⟨#[],by rw [e]; simp⟩) (fun m hm => ?_) (fun b u e => ?_) I.bare
 ·have e : b = it := by simpa using hb
  subst e; exact ⟨h1,hL,h2,h3⟩
 ·obtain ⟨o,es,ep,ho,r⟩ := hm; exact ⟨o,es,ep,k _ o (Ne.symm hL) ho,r⟩
 ·refine (I.hok b u e).stay (fun c v hc q => k c v ?_ q) (fun _ q => q) fun _ _ q => q
  rcases hc with z | z
  ·rw [z]; exact nit b u e
  ·exact nit c _ z
theorem ay.tok (I : ay X pins σ H s) (t : Nat) : ay X pins σ H { s with toks := t } := I.un (h' := s.heap) (t' := t) Un.refl I.hok
theorem ay.kept {t' : Nat} (I : ay X pins σ H s) (k : ∀ b u,s.heap.get? b = some u -> h'.get? b = some u) : ay X pins σ H { s with heap := h',toks := t' } := I.un (Un.kept k) (I.hok.kept k)
theorem ay.laid {a : Addr} {o : HO} {t' : Nat} (I : ay X pins σ H s) (k : ∀ b u,s.heap.get? b = some u -> h'.get? b = some u) (hp : s.heap.objs.size <= a) (new : df X.prog X.w (upd H a o) h' a o) :
  ay X pins σ (upd H a o) { s with heap := h',toks := t' } := I.un (Un.laid k hp (I.hok.fresh hp)) (I.hok.laid k hp new)
theorem ay.write {x e : Addr} {o : HO} {t' : Nat} (I : ay X pins σ H s) (mu : wT (H x)) (he : e = x \/ H e = some (.own x)) (k : ∀ b u,b ≠ e -> s.heap.get? b = some u -> h'.get? b = some u) (heo : ∃ u,h'.get? e = some u)
  (new : df X.prog X.w (upd H x o) h' x o) : ay X pins σ (upd H x o) { s with heap := h',toks := t' } := I.un (Un.write mu he k heo) (I.hok.write mu he k heo new)
theorem ay.weak {σ' : List (Option V)} (I : ay X pins σ H s) (hl : σ'.length = σ.length) (w : ∀ (i : Nat) v,σ'[i]? = some (some v) -> σ[i]? = some (some v)) : ay X pins σ' H s :=
 ⟨I.ok,I.os,I.bare,I.base,let ⟨m,hn,hl'⟩ := I.loc; ⟨m,hn,fun i x v e1 e2 e3 => hl' i x v e1 (w i v e2) e3⟩,I.cell,I.free,I.freeC,I.pin,I.hok,hl.trans I.len⟩
theorem ay.pins_of {pins' : List (Addr × Obj)} (I : ay X pins σ H s) (h : ∀ p ∈ pins',s.heap.get? p.1 = some p.2 /\ H p.1 = none /\ p.1 ≠ X.env.locals /\ p.1 ∉ X.fs /\ ∀ v,p.2.data ≠ .cell v) : ay X pins' σ H s :=
 ⟨I.ok,I.os,I.bare,I.base,I.loc,I.cell,I.free,I.freeC,fun p hp => (List.mem_append.mp hp).elim (fun z => I.pin p (List.mem_append_left _ z)) (h p),I.hok,I.len⟩
theorem sH {N : List Str} (hN : N.Nodup) {i j : Nat} {x : Str} (a : N[i]? = some x) (b : N[j]? = some x) : i = j := by
 obtain ⟨h1,e1⟩ := List.getElem?_eq_some_iff.mp a; obtain ⟨h2,e2⟩ := List.getElem?_eq_some_iff.mp b; exact (List.getElem_inj hN).mp (e1.trans e2.symm)
theorem vK {M : Model} {A : Around} {E : Value -> Shared -> Prop} {i : Nat} {x : Str} {v : V} {u : Value} {Q : Unit -> Shared -> Prop} (I : ay X pins σ H s) (hN : X.N.Nodup) (hi : X.N[i]? = some x) (hx : yo X.env.scope x) (r : bw v u)
  (h : ∀ s',ay X pins (σ.set i (some v)) H s' -> (∃ a,Heap.SameBut a s.heap s'.heap /\ (a = X.env.locals \/ X.env.cells.lookup x = some a)) -> Q () s') (hf : X.fn x = true \/ X.env.scope.names.lookup x = some .local := by first | exact .inl rfl | exact .inr rfl | assumption) : wpAny M A (storeName X.env x u) Q E s := by
 obtain ⟨m,hn,hl⟩ := id I.loc; have hcls : (X.env.scope.kind == .class || (X.env.scope.kind == .module && X.env.locals != X.env.globals)) = false := by rw [I.ok.kind]; rfl
 have hiσ : i < σ.length := by rw [I.len]; exact (List.getElem?_eq_some_iff.mp hi).1
 have cne := I.cne
 have tracked : ∀ {a : Addr} {h' : Heap},(∃ o,s.heap.get? a = some o /\ H a = none) -> Heap.SameBut a s.heap h' -> d4 X.prog X.w H h' := fun {a h'} ha hs b ob e => by
  obtain ⟨_,_,hfree⟩ := ha; refine (I.hok b ob e).stay (fun c w' hc q => (hs.2 c ?_).trans q) (fun _ q => q) fun _ _ q => q
  rintro rfl
  rcases hc with rfl | hc
  ·rw [hfree] at e; cases e
  ·rw [hfree] at hc; cases hc
 rcases hx with hk | hk
 ·refine wpAny_storeName_local hk hn (fun h' hn' hs => ?_) hcls; obtain ⟨oL,_,_,hoL,_⟩ := id hn; refine h _ ⟨I.ok,I.os,I.bare,⟨fun b o e n hb hx => ?_,fun b o e n hb hx => ?_,I.base.free,fun b o e hx => ?_,I.base.tups,I.base.frzs,I.base.tbls⟩,⟨_,hn',fun j y v' e1 e2 e3 => ?_⟩,fun y c e => ?_,I.free,I.freeC,fun p hp => ?_,tracked ⟨oL,hoL,I.free⟩ hs,by simpa using I.len⟩ ⟨_,hs,.inl rfl⟩
  ·exact (hs.2 b (Nat.ne_of_lt (Nat.lt_of_lt_of_le (Heap.lt_size e) I.ok.above))).trans (I.base.keep b o e n hb hx)
  ·obtain ⟨sl,e1⟩ := I.base.slot b o e n hb hx; exact ⟨sl,(hs.2 b (Nat.ne_of_lt (Nat.lt_of_lt_of_le (Heap.lt_size e) I.ok.above))).trans e1⟩
  ·obtain ⟨o',e1⟩ := I.base.there b o e hx; exact ⟨o',(hs.2 b (Nat.ne_of_lt (Nat.lt_of_lt_of_le (Heap.lt_size e) I.ok.above))).trans e1⟩
  ·by_cases hj : j = i
   ·subst hj; rw [hi] at e1; cases e1; rw [List.getElem?_set_self hiσ] at e2; cases e2; exact ⟨u,r,.inl ⟨hk,by simp⟩⟩
   ·rw [List.getElem?_set_ne (Ne.symm hj)] at e2; obtain ⟨u',r',q⟩ := hl j y v' e1 e2 e3; refine ⟨u',r',?_⟩
    rcases q with ⟨k,e⟩ | ⟨k,c,e,z⟩
    ·refine .inl ⟨k,?_⟩; have : y ≠ x := fun e => hj (sH hN e1 (e ▸ hi))
     simp [this,e]
    ·exact .inr ⟨k,c,e,z.sameBut hs (cne y c e)⟩
  ·obtain ⟨w',z⟩ := I.cell y c e; exact ⟨w',z.sameBut hs (cne y c e)⟩
  ·obtain ⟨e,n,ne,nf,d⟩ := I.pin p hp; exact ⟨(hs.2 p.1 ne).trans e,n,ne,nf,d⟩
 ·have hfn : X.fn x = true := by
   rcases hf with z | z
   ·exact z
   ·rw [z] at hk; cases hk
  obtain ⟨c,hc⟩ := I.ok.has x (.inl hk); obtain ⟨w',z⟩ := I.cell x c hc; refine wpAny_storeName_cell I.ok.kind hk hc z (fun h' hc' hs => ?_); obtain ⟨oc,hoc,hocd⟩ := id z; refine h { s with heap := h' } ⟨I.ok,I.os,I.bare,⟨fun b o e n hb hx => ?_,fun b o e n hb hx => ?_,I.base.free,fun b o e hx => ?_,I.base.tups,I.base.frzs,I.base.tbls⟩,⟨m,hn.sameBut hs (Ne.symm (cne x c hc)),fun j y v' e1 e2 e3 => ?_⟩,fun y c' e => ?_,I.free,I.freeC,fun p hp => ?_,tracked ⟨oc,hoc,I.freeC x c hc⟩ hs,by simpa using I.len⟩ ⟨c,hs,.inr hc⟩
  ·exact (hs.2 b (Nat.ne_of_lt (Nat.lt_of_lt_of_le (Heap.lt_size e) (I.ok.cab x c hfn hc)))).trans (I.base.keep b o e n hb hx)
  ·obtain ⟨sl,e1⟩ := I.base.slot b o e n hb hx; exact ⟨sl,(hs.2 b (Nat.ne_of_lt (Nat.lt_of_lt_of_le (Heap.lt_size e) (I.ok.cab x c hfn hc)))).trans e1⟩
  ·obtain ⟨o',e1⟩ := I.base.there b o e hx; exact ⟨o',(hs.2 b (Nat.ne_of_lt (Nat.lt_of_lt_of_le (Heap.lt_size e) (I.ok.cab x c hfn hc)))).trans e1⟩
  ·by_cases hj : j = i
   ·subst hj; rw [hi] at e1; cases e1; rw [List.getElem?_set_self hiσ] at e2; cases e2; exact ⟨u,r,.inr ⟨.inl hk,c,hc,hc'⟩⟩
   ·rw [List.getElem?_set_ne (Ne.symm hj)] at e2; obtain ⟨u',r',q⟩ := hl j y v' e1 e2 e3; refine ⟨u',r',?_⟩
    rcases q with q | ⟨k,c',e,z'⟩
    ·exact .inl q
    ·refine .inr ⟨k,c',e,z'.sameBut hs ?_⟩; rintro rfl; exact hj (sH hN e1 (I.ok.inj _ _ _ e hc ▸ hi))
  ·by_cases hcc : c' = c
   ·subst hcc; exact ⟨_,hc'⟩
   ·obtain ⟨w2,z2⟩ := I.cell y c' e; exact ⟨w2,z2.sameBut hs hcc⟩
  ·obtain ⟨e,n,ne,nf,d⟩ := I.pin p hp; refine ⟨(hs.2 p.1 ?_).trans e,n,ne,nf,d⟩; intro q; rw [q,hoc] at e; have q' : oc = p.2 := Option.some.inj e; exact d w' (by rw [← q']; exact hocd)
theorem xn {M : Model} {A : Around} {E : Value -> Shared -> Prop} {i : Nat} {x : Str} {v : V} {u : Value} {Q : Unit -> Shared -> Prop} (I : ay X pins σ H s) (hN : X.N.Nodup) (hi : X.N[i]? = some x) (hx : yo X.env.scope x) (r : bw v u)
  (h : ∀ s',ay X pins (σ.set i (some v)) H s' -> Q () s') (hf : X.fn x = true \/ X.env.scope.names.lookup x = some .local := by first | exact .inl rfl | exact .inr rfl | assumption) : wpAny M A (storeName X.env x u) Q E s :=
 vK I hN hi hx r (fun s' I' _ => h s' I') hf
theorem ay.call' {s' : Shared} {ch : List Addr} (I : ay X pins σ H s) (ho : s'.os = s.os) (u : Un (qd X.stack) ch H H' s.heap s'.heap) (hok : d4 X.prog X.w H' s'.heap) (hg : AllBare s'.gens)
  (hch : ∀ b ∈ ch,(b ∈ X.ex \/ X.s_0.heap.objs.size <= b) /\ b ≠ X.env.locals /\ (∀ x c,X.env.cells.lookup x = some c -> c ≠ b) /\ ∀ p ∈ X.pn ++ pins,p.1 ≠ b) : ay X pins σ H' s' := by
 obtain ⟨h',g',d',t',o'⟩ := s'; have e : o' = s.os := ho; subst e; exact I.call (g' := g') (t' := t') (d' := d') u hok hg hch
end
abbrev XK := Value -> Option Addr -> Hp -> Prop
abbrev St := List (Option V)
abbrev VK := V -> Hp -> Prop
abbrev TE := St -> Hp -> VK -> Prop
abbrev TT := St -> Hp -> (Bool -> Hp -> Prop) -> Prop
abbrev TA := St -> Hp -> (List V -> Hp -> Prop) -> Prop
structure kG where
 nx : St -> Hp -> Prop
 rt : VK
 bk : St -> Hp -> Prop := fun _ _ => False
 ct : St -> Hp -> Prop := fun _ _ => False
abbrev TS := kG -> St -> Hp -> Prop
def EP (X : Cx) (pins : List (Addr × Obj)) (σ : St) (Q : VK) (u : Value) (s' : Shared) : Prop := ∃ v H',ay X pins σ H' s' /\ bw v u /\ Q v H'
def TP (X : Cx) (pins : List (Addr × Obj)) (σ : St) (Q : Bool -> Hp -> Prop) (b : Bool) (s' : Shared) : Prop := ∃ H',ay X pins σ H' s' /\ Q b H'
def AP (X : Cx) (pins : List (Addr × Obj)) (σ : St) (Q : List V -> Hp -> Prop) (us : List Value) (s' : Shared) : Prop := ∃ vs H',ay X pins σ H' s' /\ aL vs us /\ Q vs H'
def SP (X : Cx) (pins : List (Addr × Obj)) (D : kG) (f : Flow) (s' : Shared) : Prop :=
 match f with
 | .next => ∃ σ' H',ay X pins σ' H' s' /\ D.nx σ' H'
 | .brk => ∃ σ' H',ay X pins σ' H' s' /\ D.bk σ' H'
 | .cont => ∃ σ' H',ay X pins σ' H' s' /\ D.ct σ' H'
 | .ret u => ∃ v σ' H',ay X pins σ' H' s' /\ bw v u /\ D.rt v H'
def PE (X : Cx) (e : Expr) (t : TE) : Prop :=
 ∀ (pins : List (Addr × Obj)) (s : Shared) (σ : St) (H : Hp) (Q : VK),ay X pins σ H s -> t σ H Q -> wpAny (model X.prog X.w) X.A (eval e X.env) (EP X pins σ Q) X.xe s
def PT (X : Cx) (e : Expr) (t : TT) : Prop :=
 ∀ (pins : List (Addr × Obj)) (s : Shared) (σ : St) (H : Hp) (Q : Bool -> Hp -> Prop),ay X pins σ H s -> t σ H Q -> wpAny (model X.prog X.w) X.A (isTrue e X.env (eval e X.env)) (TP X pins σ Q) X.xe s
def PW (X : Cx) (e : Expr) (t : TT) : Prop :=
 ∀ (whole : Sem Value) (pins : List (Addr × Obj)) (s : Shared) (σ : St) (H : Hp) (Q : Bool -> Hp -> Prop),ay X pins σ H s -> t σ H Q -> wpAny (model X.prog X.w) X.A (isTrue e X.env whole) (TP X pins σ Q) X.xe s
theorem PW.pt {X : Cx} {e : Expr} {t : TT} (h : PW X e t) : PT X e t := h _
def PA (X : Cx) (es : List Expr) (t : TA) : Prop :=
 ∀ (pos : Pos) (pins : List (Addr × Obj)) (s : Shared) (σ : St) (H : Hp) (Q : List V -> Hp -> Prop),ay X pins σ H s -> t σ H Q -> wpAny (model X.prog X.w) X.A (spliced (backTo pos (starEach es X.env))) (AP X pins σ Q) X.xe s
def PS (X : Cx) (st : Stmt) (t : TS) : Prop :=
 ∀ (pins : List (Addr × Obj)) (s : Shared) (σ : St) (H : Hp) (D : kG),ay X pins σ H s -> t D σ H -> wpAny (model X.prog X.w) X.A (exec st X.env) (SP X pins D) X.xe s
def kT (X : Cx) (st : List Stmt) (t : TS) : Prop :=
 ∀ (pins : List (Addr × Obj)) (s : Shared) (σ : St) (H : Hp) (D : kG),ay X pins σ H s -> t D σ H -> wpAny (model X.prog X.w) X.A (execs st X.env) (SP X pins D) X.xe s
theorem bp {α : Type} {t : Sem α} {Q Q' : α -> Shared -> Prop} {M : Model} {A : Around} {E : Value -> Shared -> Prop} {s : Shared} (h : wpAny M A t Q E s) (hQ : ∀ a s,Q a s -> Q' a s) : wpAny M A t Q' E s := wpAny_mono h hQ fun _ _ x => x
section
variable {X : Cx}
def acS (i : Nat) : TE := fun σ H Q => ∃ v,σ[i]? = some (some v) /\ Q v H
def tC (v : V) : TE := fun _ H Q => Q v H
theorem acC {i : Nat} {x : Str} {pos : Pos} (hN : X.N[i]? = some x) (hv : z7 X.env.scope x) (hd : (x == ("__debug__" : Str)) = false := by decide) (hcd : (x == ("__classdict__" : Str)) = false := by decide) : PE X (.Name x pos) (acS i) := by
 intro pins s σ H Q I h; obtain ⟨v,e,h⟩ := h; obtain ⟨m,hn,hl⟩ := I.loc; obtain ⟨u,r,l⟩ := hl i x v hN e hv; have fin : EP X pins σ Q u s := ⟨v,H,I,r,h⟩
 rcases l with ⟨hk,hm⟩ | ⟨hk,c,hc,hcell⟩
 ·exact wpAny_Name (wpAny_loadName_local I.ok.kind hk hn hm fin) hd
 ·rcases hk with hk | hk
  ·exact wpAny_Name (wpAny_loadName_cell I.ok.kind hk hc hcell fin) hd
  ·exact wpAny_Name (wpAny_loadName_free I.ok.kind hk hc hcell fin hcd) hd
theorem ai {i j pos} : PE X (.Constant (.int i) j pos) (tC (.int i)) := fun _ _ _ H _ I h => wpAny_Constant_int ⟨.int i,H,I.tok _,⟨_,rfl⟩,h⟩
theorem dC {b j pos} : PE X (.Constant (.bool b) j pos) (tC (.bl b)) := fun _ _ _ H _ I h => Constant_bool ⟨.bl b,H,I,rfl,h⟩
theorem cQ {j pos} : PE X (.Constant .none j pos) (tC .non) := fun _ _ _ H _ I h => Constant_none ⟨.non,H,I,rfl,h⟩
theorem da {x j pos} : PE X (.Constant (.str x) j pos) (tC (.str x)) := fun _ _ _ H _ I h => Calls.Constant_str ⟨.str x,H,I.tok _,⟨_,rfl⟩,h⟩
def Gl (X : Cx) (x : Str) : Prop := X.env.kindOf x = some .globalImplicit
theorem rK {E : Value -> Shared -> Prop} {pins : List (Addr × Obj)} {s : Shared} {σ : St} {H : Hp} {x : Str} {u : Value} {pos : Pos} {Q : Value -> Shared -> Prop} (I : ay X pins σ H s) (hg : Gl X x) (hm : X.mg x = some u) (h : Q u s)
  (hd : (x == ("__debug__" : Str)) = false := by decide) : wpAny (model X.prog X.w) X.A (eval (.Name x pos) X.env) Q E s :=
 Calls.Name_function_global I.ok.kind hg (Calls.loadGlobal_global (by rw [I.ok.glob]; exact I.mod.glob.keeps I.bk) hm h) hd
theorem j8 {E : Value -> Shared -> Prop} {pins : List (Addr × Obj)} {s : Shared} {σ : St} {H : Hp} {x : Str} {u : Value} {pos : Pos} {Q : Value -> Shared -> Prop} (I : ay X pins σ H s) (hg : Gl X x) (hm : X.mg x = none) (hv : bootBuiltins x = some u) (h : Q u s)
  (hn : x ≠ "__name__" := by decide) (hd : (x == ("__debug__" : Str)) = false := by decide) : wpAny (model X.prog X.w) X.A (eval (.Name x pos) X.env) Q E s := by
 obtain ⟨mb,h1,h2⟩ := I.mod.blt; exact Calls.Name_function_global I.ok.kind hg (Calls.loadGlobal_builtin (by rw [I.ok.glob]; exact I.mod.glob.keeps I.bk) hm (by rw [I.ok.blt]; exact h1.keeps I.bk) ((h2 x hn).trans hv) h) hd
theorem rF {x : Str} {v : V} {u : Value} {pos : Pos} (hg : Gl X x) (hm : X.mg x = some u) (r : bw v u) (hd : (x == ("__debug__" : Str)) = false := by decide) : PE X (.Name x pos) (tC v) :=
 fun _ _ _ H _ I h => rK I hg hm ⟨v,H,I,r,h⟩ hd
variable {a b : Expr} {ta tb : TE} {pos : Pos}
def PC (X : Cx) (op : CmpOp) (a b : Expr) (t : TE) : Prop :=
 ∀ (pins : List (Addr × Obj)) (s : Shared) (σ : St) (H : Hp) (Q : VK),ay X pins σ H s -> t σ H Q →
  wpAny (model X.prog X.w) X.A (eval a X.env) (fun v s₁ => wpAny (model X.prog X.w) X.A (eval b X.env) (fun u s₂ => wpAny (model X.prog X.w) X.A (compareOp op v u) (EP X pins σ Q) X.xe s₂) X.xe s₁) X.xe s
theorem abC (b : Expr) {op : CmpOp} (h : op ≠ .In) (h2 : op ≠ .NotIn) : behindInMarks op b = false := by
 have e1 : (op == CmpOp.In) = false := by cases op <;> first | rfl | exact absurd rfl h
 have e2 : (op == CmpOp.NotIn) = false := by cases op <;> first | rfl | exact absurd rfl h2
 cases b <;> simp [behindInMarks,e1,e2]
def aec (ta : TE) : TE := fun σ H Q => ta σ H fun x H1 => Q (.bl (decide (x = .non))) H1
def adL (ta : TE) : TE := fun σ H Q => ta σ H fun x H1 => Q (.bl (!decide (x = .non))) H1
theorem bw.none_iff {x : V} {v : Value} (r : bw x v) : (v == Value.none) = decide (x = .non) := by
 cases x with
 | non => cases r; rfl
 | bl _ => cases r; rfl
 | int _ => obtain ⟨t,rfl⟩ := r; rfl
 | str _ => obtain ⟨t,rfl⟩ := r; rfl
 | byt _ => obtain ⟨t,rfl⟩ := r; rfl
 | flt _ => obtain ⟨t,rfl⟩ := r; rfl
 | ref _ => cases r; rfl
 | ty _ => cases r; rfl
theorem eT {j pos'} (ha : PE X a ta) : PC X .Is a (.Constant .none j pos') (aec ta) := by
 intro pins s σ H Q I h; refine bp (ha pins s σ H _ I h) fun v s1 ⟨x,H1,I1,r1,q1⟩ => ?_
 exact Constant_none (is_none_gen ⟨.bl _,H1,I1,by rw [r1.none_iff]; rfl,q1⟩)
theorem ab7 {j pos'} (ha : PE X a ta) : PC X .IsNot a (.Constant .none j pos') (adL ta) := by
 intro pins s σ H Q I h; refine bp (ha pins s σ H _ I h) fun v s1 ⟨x,H1,I1,r1,q1⟩ => ?_
 exact Constant_none (isnot_none_gen ⟨.bl _,H1,I1,by rw [r1.none_iff]; rfl,q1⟩)
def tB (t : TE) : TT := fun σ H Q => t σ H fun x H1 => ∃ c,x = .bl c /\ Q c H1
theorem d8 {op : CmpOp} {t : TE} (h : PC X op a b t) (h1 : behindInMarks op b = false := by first | exact abC _ (by decide) (by decide) | rfl) : PT X (.Compare a [op] [b] pos) (tB t) := by
 intro pins s σ H Q I hw; refine wpAny_isTrue_Compare1 (bp (h pins s σ H _ I hw) fun v s1 h1 => bp h1 fun u s2 h2 => bp h2 fun c s3 ⟨x,H1,I1,r1,q1⟩ => ?_) h1; obtain ⟨d,rfl,q⟩ := q1; cases r1; exact wpAny_truthy_bool ⟨H1,I1,q⟩
theorem bi {e : Expr} {t : TE} (h : PE X e t) (he : ∀ whole,isTrue e X.env whole = (do let v ← whole; standAt e.pos; holding [v] (truthy v)) := by intro _; rfl) : PT X e (tB t) := by
 intro pins s σ H Q I hw; refine isTrue_plain (bp (h pins s σ H _ I hw) fun v s1 ⟨x,H1,I1,r1,q1⟩ => ?_) (he _); obtain ⟨d,rfl,q⟩ := q1; cases r1; exact wpAny_truthy_bool ⟨H1,I1,q⟩
variable {tA tB' : TT} {rest : List Expr}
def adN (t u : TT) : TT := fun σ H Q => t σ H fun c H1 => if c = true then u σ H1 Q else Q false H1
def tOr (t u : TT) : TT := fun σ H Q => t σ H fun c H1 => if c = true then Q true H1 else u σ H1 Q
def ael (t : TT) : TT := fun σ H Q => t σ H fun c H1 => Q (!c) H1
theorem rD (ha : PT X a tA) : PW X (.BoolOp .And [a] pos) tA := by
 intro wh pins s σ H Q I h; refine isTrue_and (bp (ha pins s σ H Q I h) fun c s1 e => ?_)
 cases c with
 | true => exact isTrue_and_nil e
 | false => exact e
theorem dn (ha : PT X a tA) : PW X (.BoolOp .Or [a] pos) tA := by
 intro wh pins s σ H Q I h; refine isTrue_or (bp (ha pins s σ H Q I h) fun c s1 e => ?_)
 cases c with
 | false => exact isTrue_or_nil e
 | true => exact e
theorem oq (ha : PT X a tA) (hb : PW X (.BoolOp .And (b :: rest) pos) tB') : PW X (.BoolOp .And (a :: b :: rest) pos) (adN tA tB') := by
 intro wh pins s σ H Q I h; refine isTrue_and (bp (ha pins s σ H _ I h) fun c s1 ⟨H1,I1,q1⟩ => ?_)
 cases c with
 | true => exact hb wh pins s1 σ H1 Q I1 q1
 | false => exact ⟨H1,I1,q1⟩
theorem dD (ha : PT X a tA) (hb : PW X (.BoolOp .Or (b :: rest) pos) tB') : PW X (.BoolOp .Or (a :: b :: rest) pos) (tOr tA tB') := by
 intro wh pins s σ H Q I h; refine isTrue_or (bp (ha pins s σ H _ I h) fun c s1 ⟨H1,I1,q1⟩ => ?_)
 cases c with
 | true => exact ⟨H1,I1,q1⟩
 | false => exact hb wh pins s1 σ H1 Q I1 q1
theorem bx (ha : PT X a tA) : PT X (.UnaryOp .Not a pos) (ael tA) := by
 intro pins s σ H Q I h; exact isTrue_not (ha pins s σ H (fun c H1 => Q (!c) H1) I h)
def add (ta tb : TE) : TE := fun σ H Q => ta σ H fun x H1 => ∃ c,x = .bl c /\ if c = true then tb σ H1 Q else Q (.bl false) H1
theorem tO {op} {t : TE} (h : PE X a t) : PE X (.BoolOp op [a] pos) t := fun pins s σ H Q I hw => BoolOp_one (h pins s σ H Q I hw)
theorem pY (ha : PE X a ta) (hb : PE X (.BoolOp .And (b :: rest) pos) tb) : PE X (.BoolOp .And (a :: b :: rest) pos) (add ta tb) := by
 intro pins s σ H Q I h; refine BoolOp_and (bp (ha pins s σ H _ I h) fun v s1 ⟨x,H1,I1,r1,q1⟩ => ?_); obtain ⟨c,rfl,q1⟩ := q1; cases r1; refine wpAny_truthy_bool ?_
 cases c with
 | true => exact hb pins s1 σ H1 Q I1 q1
 | false => exact ⟨.bl false,H1,I1,rfl,q1⟩
def tIf (t : TT) (ta tb : TE) : TE := fun σ H Q => t σ H fun c H1 => if c = true then ta σ H1 Q else tb σ H1 Q
theorem fV {c : Expr} (hc : PT X c tA) (ha : PE X a ta) (hb : PE X b tb) : PE X (.IfExp c a b pos) (tIf tA ta tb) := by
 intro pins s σ H Q I h; refine wpAny_IfExp (bp (hc pins s σ H _ I h) fun d s1 ⟨H1,I1,q1⟩ => ?_)
 cases d with
 | true => exact ha pins s1 σ H1 Q I1 q1
 | false => exact hb pins s1 σ H1 Q I1 q1
end
def ag (K : Fg) (H : Hp) (a : Addr) (xs : List V) : Prop :=
 Rd H a (.lst xs) ∨
  ∃ (o : Obj) (its : Array Value) (n : Nat),K.lookup a = some o /\ o.cls = .type "list" /\ o.dict = none /\ o.data = .seq its n /\ its.size <= sizeLine /\ aL xs its.toList
def cG (K : Fg) (H : Hp) (a : Addr) (xs : List V) : Prop :=
 Rd H a (.tup xs) ∨
  ∃ (o : Obj) (its : Array Value) (n : Nat),K.lookup a = some o /\ o.cls = .type "tuple" /\ o.data = .seq its n /\ its.size <= sizeLine /\ aL xs its.toList
def aer : Value -> Option V
 | .none => some .non
 | .bool b => some (.bl b)
 | .int i _ => some (.int i)
 | .str x _ => some (.str x)
 | .bytes b _ => some (.byt b)
 | .float b _ => some (.flt b)
 | .ref a => some (.ref a)
 | .type n => some (.ty n)
 | _ => none
theorem bw.abs {x : V} {u : Value} (r : bw x u) : aer u = some x := by
 cases x with
 | non => cases r; rfl
 | bl _ => cases r; rfl
 | int _ => obtain ⟨t,rfl⟩ := r; rfl
 | str _ => obtain ⟨t,rfl⟩ := r; rfl
 | byt _ => obtain ⟨t,rfl⟩ := r; rfl
 | flt _ => obtain ⟨t,rfl⟩ := r; rfl
 | ref _ => cases r; rfl
 | ty _ => cases r; rfl
theorem bw.inj {x y : V} {u : Value} (r : bw x u) (q : bw y u) : x = y := Option.some.inj (r.abs.symm.trans q.abs)
theorem aL.inj : ∀ {xs ys : List V} {us : List Value},aL xs us -> aL ys us -> xs = ys
 | _,_,_,.nil,.nil => rfl
 | _,_,_,.cons r t,.cons r' t' => by rw [r.inj r',aL.inj t t']
section
variable {X : Cx} {pins : List (Addr × Obj)} {σ : St} {H : Hp} {s : Shared} {a : Addr} {xs ys : List V}
theorem ag.of {K : Fg} (h : H a = some (.lst xs)) : ag K H a xs := .inl (.inl h)
theorem cG.of {K : Fg} (h : H a = some (.tup xs)) : cG K H a xs := .inl (.inl h)
theorem ay.list (I : ay X pins σ H s) (h : ag X.K H a xs) : ∃ its : List Value,aL xs its /\ PlainL s.heap a its.toArray /\ xs.length <= sizeLine := by
 rcases h with h | ⟨o,its,n,hk,hc,hd,hs,hz,r⟩
 ·obtain ⟨z,its,n,r,e⟩ := h.ok I.hok; exact ⟨its,r,⟨_,n,e,rfl,rfl,rfl⟩,z⟩
 ·refine ⟨its.toList,r,⟨o,n,I.kIn a o hk,hc,hd,by simpa using hs⟩,?_⟩; have e := r.length; simp only [Array.length_toList] at e; omega
theorem ay.tuple (I : ay X pins σ H s) (h : cG X.K H a xs) : ∃ its : List Value,aL xs its /\ IsTup s.heap a its.toArray /\ xs.length <= sizeLine := by
 rcases h with h | ⟨o,its,n,hk,hc,hs,hz,r⟩
 ·obtain ⟨z,its,r,p⟩ := h.ok I.hok; exact ⟨its,r,p,z⟩
 ·refine ⟨its.toList,r,⟨o,I.kIn a o hk,hc,n,by simpa using hs⟩,?_⟩; have e := r.length; simp only [Array.length_toList] at e; omega
theorem ay.list_inj (I : ay X pins σ H s) (h : ag X.K H a xs) (h' : ag X.K H a ys) : xs = ys := by
 obtain ⟨its,r,⟨o,n,e,_,_,d⟩,_⟩ := I.list h; obtain ⟨its',r',⟨o',n',e',_,_,d'⟩,_⟩ := I.list h'; rw [e] at e'; cases e'; rw [d] at d'
 injection d' with d1 _
 have : its = its' := by simpa using congrArg Array.toList d1
 subst this; exact r.inj r'
end
abbrev Cx.wish (X : Cx) (E : Value -> Shared -> Prop) : Cx := { X with xe := E }
abbrev Cx.nox (X : Cx) : Cx := X.wish fun _ _ => False
theorem Cx.Ok.wish {X : Cx} (ok : X.Ok) (E : Value -> Shared -> Prop) : (X.wish E).Ok :=
 ⟨ok.mod,ok.kind,ok.glob,ok.blt,ok.above,ok.inj,ok.has,ok.cab,ok.hd,ok.frames,ok.stk,ok.exf,ok.bs,ok.bsz,ok.noex,ok.exfs,ok.funs,ok.frf⟩
theorem Cx.Ok.unwish {X : Cx} {E : Value -> Shared -> Prop} (ok : (X.wish E).Ok) : X.Ok :=
 ⟨ok.mod,ok.kind,ok.glob,ok.blt,ok.above,ok.inj,ok.has,ok.cab,ok.hd,ok.frames,ok.stk,ok.exf,ok.bs,ok.bsz,ok.noex,ok.exfs,ok.funs,ok.frf⟩
section
variable {X : Cx} {pins : List (Addr × Obj)} {σ : St} {H : Hp} {s : Shared} {E : Value -> Shared -> Prop}
theorem ay.wish (I : ay X pins σ H s) (E : Value -> Shared -> Prop) : ay (X.wish E) pins σ H s := ⟨I.ok.wish E,I.os,I.bare,I.base,I.loc,I.cell,I.free,I.freeC,I.pin,I.hok,I.len⟩
theorem ay.unwish (I : ay (X.wish E) pins σ H s) : ay X pins σ H s := ⟨I.ok.unwish,I.os,I.bare,I.base,I.loc,I.cell,I.free,I.freeC,I.pin,I.hok,I.len⟩
theorem SP.unwish {D : kG} {f : Flow} {s' : Shared} (h : SP (X.wish E) pins D f s') : SP X pins D f s' := by
 cases f with
 | next => obtain ⟨σ',H',I,q⟩ := h; exact ⟨σ',H',I.unwish,q⟩
 | brk => obtain ⟨σ',H',I,q⟩ := h; exact ⟨σ',H',I.unwish,q⟩
 | cont => obtain ⟨σ',H',I,q⟩ := h; exact ⟨σ',H',I.unwish,q⟩
 | ret u => obtain ⟨v,σ',H',I,r,q⟩ := h; exact ⟨v,σ',H',I.unwish,r,q⟩
theorem kT.nox {st : List Stmt} {t : TS} (h : kT X.nox st t) : kT X st t := fun pins s σ H D I hw =>
 wpAny_mono (h pins s σ H D (I.wish _) hw) (fun _ _ q => q.unwish) fun _ _ z => False.elim z
end
section
variable {X : Cx} {st : Stmt} {rest : List Stmt} {t u : TS} {e : Expr} {te : TE} {pos : Pos}
def adg : TS := fun D σ H => D.nx σ H
def adU (t u : TS) : TS := fun D σ H => t { D with nx := u D } σ H
theorem ao : kT X [] adg := fun _ _ σ H _ I h => wpAny_execs_nil ⟨σ,H,I,h⟩
theorem ad (h1 : PS X st t) (h2 : kT X rest u) : kT X (st :: rest) (adU t u) := by
 intro pins s σ H D I h; refine wpAny_execs_cons (bp (h1 pins s σ H { D with nx := u D } I h) fun f s1 q => ?_)
 cases f with
 | next =>
  obtain ⟨σ',H',I',q⟩ := q; exact h2 pins s1 σ' H' D I' q
 | ret v => exact q
 | brk => exact q
 | cont => exact q
theorem ae (h1 : PS X st t) : kT X [st] t := by
 intro pins s σ H D I h; refine wpAny_execs_cons (bp (h1 pins s σ H D I h) fun f s1 q => ?_)
 cases f with
 | next => exact wpAny_execs_nil q
 | ret v => exact q
 | brk => exact q
 | cont => exact q
theorem ay.quiet {pins : List (Addr × Obj)} {σ : St} {H : Hp} {s : Shared} (I : ay X pins σ H s) : interactive X.env = false := by simp [interactive,I.ok.kind]
def ado (te : TE) : TS := fun D σ H => te σ H fun _ H1 => D.nx σ H1
theorem cI (he : PE X e te) (hs : swapsWith e none pos.line X.env = pure false := by rfl) : PS X (.Expr e pos) (ado te) := by
 intro pins s σ H D I h; exact wpAny_Expr_any (bp (he pins s σ H _ I h) fun v s1 ⟨x,H1,I1,r1,q1⟩ => ⟨σ,H1,I1,q1⟩) I.quiet hs
def ad4 (te : TE) : TS := fun D σ H => te σ H D.rt
theorem ah (he : PE X e te) : PS X (.Return (some e) pos) (ad4 te) := by
 intro pins s σ H D I h; exact wpAny_Return_some (bp (he pins s σ H _ I h) fun v s1 ⟨x,H1,I1,r1,q1⟩ => ⟨x,σ,H1,I1,r1,q1⟩)
def aem (c : TT) (t u : TS) : TS := fun D σ H => c σ H fun b H1 => if b = true then t D σ H1 else u D σ H1
theorem aw {c : Expr} {a b : List Stmt} {tc : TT} (hc : PT X c tc) (ha : kT X a t) (hb : kT X b u) : PS X (.If c a b pos) (aem tc t u) := by
 intro pins s σ H D I h; refine wpAny_If (bp (hc pins s σ H _ I h) fun d s1 ⟨H1,I1,q1⟩ => ?_)
 cases d with
 | true => exact ha pins s1 σ H1 D I1 q1
 | false => exact hb pins s1 σ H1 D I1 q1
end
abbrev TG := V -> St -> Hp -> (St -> Hp -> Prop) -> Prop
abbrev vJ := List V -> St -> Hp -> (St -> Hp -> Prop) -> Prop
def PG (X : Cx) (target : Expr) (t : TG) : Prop :=
 ∀ (pins : List (Addr × Obj)) (s : Shared) (σ : St) (H : Hp) (v : V) (u : Value) (Q : St -> Hp -> Prop),ay X pins σ H s -> bw v u -> t v σ H Q →
  wpAny (model X.prog X.w) X.A (assign target X.env u) (fun _ s' => ∃ σ' H',ay X pins σ' H' s' /\ Q σ' H') X.xe s
def z8 (X : Cx) (ts : List Expr) (t : vJ) : Prop :=
 ∀ (pins : List (Addr × Obj)) (s : Shared) (σ : St) (H : Hp) (vs : List V) (us : List Value) (Q : St -> Hp -> Prop),ay X pins σ H s -> aL vs us -> t vs σ H Q →
  wpAny (model X.prog X.w) X.A (assignInOrder ((assignEach ts X.env).map (·.2)) us) (fun _ s' => ∃ σ' H',ay X pins σ' H' s' /\ Q σ' H') X.xe s
abbrev abp := V -> V -> V -> Hp -> (Hp -> Prop) -> Prop
def acN (X : Cx) (t : abp) : Prop :=
 ∀ (pins : List (Addr × Obj)) (s : Shared) (σ : St) (H : Hp) (o i v : V) (ov iv u : Value) (Q : Hp -> Prop),ay X pins σ H s -> bw o ov -> bw i iv -> bw v u -> t o i v H Q →
  wpAny (model X.prog X.w) X.A (setItem ov iv u) (fun _ s' => ∃ H',ay X pins σ H' s' /\ Q H') X.xe s
section
variable {X : Cx} {pos : Pos}
def gV (i : Nat) : TG := fun v σ H Q => Q (σ.set i (some v)) H
theorem acm {i : Nat} {x : Str} (hN : X.N.Nodup) (hi : X.N[i]? = some x) (hx : yo X.env.scope x) (hf : X.fn x = true \/ X.env.scope.names.lookup x = some .local := by first | exact .inl rfl | exact .inr rfl | assumption) : PG X (.Name x pos) (gV i) := by
 intro pins s σ H v u Q I r h; exact wpAny_assign_Name (xn I hN hi hx r (fun s' I' => ⟨_,H,I',h⟩) hf)
def aba : vJ := fun vs σ H Q => vs = [] /\ Q σ H
def tV (t : TG) (u : vJ) : vJ := fun vs σ H Q => ∃ v r,vs = v :: r /\ t v σ H fun σ' H' => u r σ' H' Q
theorem cX : z8 X [] aba := by
 intro pins s σ H vs us Q I r h; obtain ⟨e,h⟩ := h; subst e; cases r; exact assignInOrder_nil ⟨σ,H,I,h⟩
theorem be {e : Expr} {es : List Expr} {t : TG} {u : vJ} (h1 : PG X e t) (h2 : z8 X es u)
  (hs : (assignEach (e :: es) X.env).map (·.2) = assign e X.env :: (assignEach es X.env).map (·.2) := by rfl) : z8 X (e :: es) (tV t u) := by
 intro pins s σ H vs us Q I r h; obtain ⟨v,vr,e1,h⟩ := h; subst e1
 cases r with
 | cons r rr =>
  rw [hs]; refine assignInOrder_cons (bp (h1 pins s σ H _ _ _ I r h) fun _ s1 ⟨σ1,H1,I1,q1⟩ => ?_); exact h2 pins s1 σ1 H1 _ _ Q I1 rr q1
def zD (K : Fg) (n : Nat) (t : vJ) : TG := fun v σ H Q => ∃ a xs,v = .ref a /\ cG K H a xs /\ xs.length = n /\ t xs σ H Q
theorem gQ {es : List Expr} {k : Nat} {t : vJ} {n : Nat} (hc : X.calm = true) (h : z8 X es t)
  (hn : (assignEach es X.env).length = n := by rfl) (hst : (assignEach es X.env).findIdx? (·.1) = none := by rfl) : PG X (.Tuple es k pos) (zD X.K n t) := by
 intro pins s σ H v u Q I r hw; obtain ⟨a,xs,e1,hq,hl,hw⟩ := hw; subst e1; cases r; obtain ⟨its,rv,ht,hz⟩ := I.tuple hq; refine assign_Tuple_tuple (I.ok.hd hc) ht (by simp [hn,← hl,rv.length]) hst fun h' hx => ?_
 have I1 : ay X pins σ H { s with heap := h' } := I.kept (t' := s.toks) fun b o e => hx b o (Nat.ne_of_lt (Heap.lt_size e)) e
 exact h pins _ σ H xs _ Q I1 (by simpa using rv) hw
def aek (to ti : TE) (t : abp) : TG := fun v σ H Q => to σ H fun o H1 => ti σ H1 fun i H2 => t o i v H2 fun H3 => Q σ H3
theorem oe {o i : Expr} {to ti : TE} {t : abp} (ho : PE X o to) (hi : PE X i ti) (hs : acN X t)
  (ha : ∀ v,assign (.Subscript o i pos) X.env v = (do
   let ov ← holding [v] (eval o X.env)
   let iv ← holding [v,ov] (eval i X.env)
   standAt pos
   holding [v,ov,iv] (setItem ov iv v)
   release [v,ov,iv] []) := by intro _; rfl) : PG X (.Subscript o i pos) (aek to ti t) := by
 intro pins s σ H v u Q I r h; rw [ha]; refine wpAny_bind (wpAny_holding (bp (ho pins s σ H _ I h) fun ov s1 ⟨x,H1,I1,r1,q1⟩ => ?_)); refine wpAny_bind (wpAny_holding (bp (hi pins s1 σ H1 _ I1 q1) fun iv s2 ⟨y,H2,I2,r2,q2⟩ => ?_)); refine wpAny_bind (wpAny_standAt (wpAny_bind (wpAny_holding (bp (hs pins s2 σ H2 x y v ov iv u _ I2 r1 r2 r q2) fun _ s3 ⟨H3,I3,q3⟩ => ?_)))); exact wpAny_release ⟨σ,H3,I3,q3⟩
def y8 (te : TE) (g : TG) : TS := fun D σ H => te σ H fun x H1 => g x σ H1 D.nx
theorem ou {tg e : Expr} {te : TE} {g : TG} (he : PE X e te) (hg : PG X tg g) (hs : swapsWithSole [tg] e pos.line X.env = pure false := by rfl) (hw : swappedStores [tg] e X.env = pure none := by rfl)
  (h1 : (assignEach [tg] X.env).map (·.2) = [assign tg X.env] := by rfl) : PS X (.Assign [tg] e pos) (y8 te g) := by
 intro pins s σ H D I h; refine wpAny_Assign_stores (bp (he pins s σ H _ I h) fun v s1 ⟨x,H1,I1,r1,q1⟩ => ?_) hs hw; rw [h1]; exact bp (hg pins s1 σ H1 x v _ I1 r1 q1) fun _ s2 q => q
theorem acW {i : Nat} {x : Str} {e : Expr} {te : TE} {pos' : Pos} (hN : X.N.Nodup) (hi : X.N[i]? = some x) (hx : yo X.env.scope x) (he : PE X e te) (hs : swapsWith e (some (.Name x pos')) pos.line X.env = pure false := by rfl) (hf : X.fn x = true \/ X.env.scope.names.lookup x = some .local := by first | exact .inl rfl | exact .inr rfl | assumption) :
  PS X (.Assign [.Name x pos'] e pos) (y8 te (gV i)) := by
 intro pins s σ H D I h; refine wpAny_Assign_Name (bp (he pins s σ H _ I h) fun v s1 ⟨y,H1,I1,r1,q1⟩ => ?_) hs; exact xn I1 hN hi hx r1 (fun s2 I2 => ⟨_,H1,I2,q1⟩) hf
end
section
variable {X : Cx} {pos : Pos}
def acy (c : TT) (tb : TS) : TS := fun D σ H => ∃ W : Nat -> St -> Hp -> Prop,(∃ m,W m σ H) /\ ∀ m σ H,W m σ H →
 c σ H fun b H1 => if b = true then ∃ N : St -> Hp -> Prop,(∀ σ' H',N σ' H' -> ∃ m',m' < m /\ W m' σ' H') /\ tb { D with nx := N,ct := N,bk := D.nx } σ H1 else D.nx σ H1
theorem s_ {c : Expr} {body : List Stmt} {tc : TT} {tb : TS} (hp : PassesOwn (model X.prog X.w) X.A X.env X.xe) (hc : PT X c tc) (hb : kT X body tb) : PS X (.While c body [] pos) (acy tc tb) := by
 intro pins s σ H D I h; obtain ⟨W,⟨m0,w0⟩,turn⟩ := h; refine wpAny_While (codeAny_whileLoop (fun n s' => ∃ σ' H',ay X pins σ' H' s' /\ W n σ' H') ?_ m0 ⟨σ,H,I,w0⟩); rintro n s1 ⟨σ1,H1,I1,w1⟩; refine wpAny_passesOwn hp (bp (hc pins s1 σ1 H1 _ I1 (turn n σ1 H1 w1)) fun b s2 ⟨H2,I2,q2⟩ => ?_)
 cases b with
 | true =>
  obtain ⟨N,hN,q2⟩ := q2; rw [if_pos rfl]; refine wpAny_passesOwn hp (bp (hb pins s2 σ1 H2 _ I2 q2) fun f s3 q3 => ?_)
  cases f with
  | next =>
   obtain ⟨σ3,H3,I3,n3⟩ := q3; obtain ⟨m',hm,w3⟩ := hN σ3 H3 n3; exact ⟨m',hm,σ3,H3,I3,w3⟩
  | cont =>
   obtain ⟨σ3,H3,I3,n3⟩ := q3; obtain ⟨m',hm,w3⟩ := hN σ3 H3 n3; exact ⟨m',hm,σ3,H3,I3,w3⟩
  | brk => exact q3
  | ret v => exact q3
 | false =>
  rw [if_neg Bool.false_ne_true]; exact wpAny_execs_nil ⟨σ1,H2,I2,q2⟩
end
structure It where
 go : Nat -> Hp -> Prop
 yld : Nat -> Hp -> V -> Hp -> Prop
 stop : Nat -> Hp -> Prop
def kO (X : Cx) (pins : List (Addr × Obj)) (H : Hp) (b : Addr) : Prop :=
 H b = none /\ b ≠ X.env.locals /\ b ∉ X.fs /\ (b ∈ X.ex \/ X.s_0.heap.objs.size <= b) /\ (∀ x c,X.env.cells.lookup x = some c -> c ≠ b) /\ ∀ p ∈ X.pn ++ pins,p.1 ≠ b
theorem ay.fpOk {X : Cx} {pins : List (Addr × Obj)} {σ : St} {H H' : Hp} {s : Shared} {b : Addr} (I : ay X pins σ H s) (hb : s.heap.objs.size <= b) (hn : H' b = none) : kO X pins H' b := by
 refine ⟨hn,Nat.ne_of_gt (Nat.lt_of_lt_of_le I.lt hb),I.nofs hb,.inr (Nat.le_trans I.sz hb),fun x c e z => ?_,fun p hp z => ?_⟩
 ·obtain ⟨v,q⟩ := I.cell x c e; exact absurd (Nat.lt_of_lt_of_le q.lt (by rw [z]; exact hb)) (Nat.lt_irrefl _)
 ·exact absurd (Nat.lt_of_lt_of_le (Heap.lt_size (I.pin p hp).1) (by rw [z]; exact hb)) (Nat.lt_irrefl _)
structure o0 (P : Program) (w : World) (K : Fg) (tg : Expr) (J : It) (fp : List Addr) (it : Addr) (tn : Nat -> Heap -> Prop) : Prop where
 mem : it ∈ fp
 obj : ∀ i h,tn i h -> ∀ b ∈ fp,∃ o,h.get? b = some o /\ ∀ v,o.data ≠ .cell v
 keep : ∀ i h h',tn i h -> (∀ b ∈ fp,∀ o,h.get? b = some o -> h'.get? b = some o) -> tn i h'
 item : ∀ (X : Cx),X.prog = P -> X.w = w -> X.K = K -> X.calm = true -> ∀ (i : Nat) (pins : List (Addr × Obj)) (s : Shared) (σ : St) (H : Hp) (E : Value -> Shared -> Prop),ay X pins σ H s -> (∀ b ∈ fp,kO X pins H b) -> tn i s.heap -> J.go i H →
  wpAny (model P w) X.A (pyNext (.ref it)) (fun r s1 => ∃ u,r = some u ∧
   wpAny (model P w) X.A (letOwnedTupleGo tg (.ref it) u) (fun _ s2 => ∃ x H',ay X pins σ H' s2 /\ bw x u /\ J.yld i H x H' /\ tn (i + 1) s2.heap /\ ∀ b ∈ fp,H' b = none) E s1) E s
 done : ∀ (X : Cx),X.prog = P -> X.w = w -> X.K = K -> X.calm = true -> ∀ (i : Nat) (pins : List (Addr × Obj)) (s : Shared) (σ : St) (H : Hp) (E : Value -> Shared -> Prop),ay X pins σ H s -> (∀ b ∈ fp,kO X pins H b) -> tn i s.heap -> J.stop i H →
  wpAny (model P w) X.A (pyNext (.ref it)) (fun r s1 => r = none /\ ay X pins σ H s1) E s
 self : ∀ (A : Around) (i : Nat) (s : Shared) (Q : Value -> Shared -> Prop) (E : Value -> Shared -> Prop),tn i s.heap -> Q (.ref it) s -> wpAny (model P w) A (pyIter (.ref it)) Q E s
abbrev TI := St -> Hp -> (It -> Hp -> Prop) -> Prop
def PIE (X : Cx) (pins : List (Addr × Obj)) (σ : St) (tg : Expr) (R : It -> Hp -> Prop) (itv : Value) (s2 : Shared) : Prop :=
 ∃ (it : Addr) (fp : List Addr) (tn : Nat -> Heap -> Prop) (J : It) (H' : Hp),itv = .ref it /\ ay X pins σ H' s2 /\ o0 X.prog X.w X.K tg J fp it tn /\ tn 0 s2.heap /\ (∀ b ∈ fp,kO X pins H' b) /\ R J H'
def PI (X : Cx) (tg iter : Expr) (wi : TI) : Prop :=
 ∀ (pins : List (Addr × Obj)) (s : Shared) (σ : St) (H : Hp) (R : It -> Hp -> Prop),ay X pins σ H s -> wi σ H R →
  wpAny (model X.prog X.w) X.A (eval iter X.env) (fun v s1 => wpAny (model X.prog X.w) X.A (pyIter v) (PIE X pins σ tg R) X.xe s1) X.xe s
theorem tz {M : Model} {A : Around} {E : Value -> Shared -> Prop} {s : Shared} {tg : Expr} {it : Addr} {u : Value} {o : Obj} {n : String} {vs : Array Value} {Q : Unit -> Shared -> Prop} (ho : s.heap.get? it = some o) (hc : o.cls = .type n) (hd : o.data = .fields vs)
  (hn : ["enumerate","zip","dict_itemiterator","dict_reverseitemiterator","odict_iterator","itertools.zip_longest","itertools.pairwise"].contains n = false) (hQ : Q () s) : wpAny M A (letOwnedTupleGo tg (.ref it) u) Q E s := by
 unfold letOwnedTupleGo
 cases tg <;> first
  | exact wpAny_pure hQ
  | (cases u <;> first
    | exact wpAny_pure hQ
    | (refine wpAny_bind (wpAny_load ho ?_)
       rw [hc,hd]; show wpAny M A (if (["enumerate","zip","dict_itemiterator","dict_reverseitemiterator","odict_iterator","itertools.zip_longest","itertools.pairwise"].contains n && vs[0]? == some (rawInt _)) = true then _ else _) Q E s; rw [if_neg (by intro h; rw [hn,Bool.false_and] at h; cases h)]
       exact wpAny_pure hQ))
def yj (K : Fg) (a : Addr) : It :=
 ⟨fun i H => ∃ xs x,ag K H a xs /\ xs[i]? = some x,fun i H x H' => H' = H /\ ∀ xs,ag K H a xs -> xs[i]? = some x,fun i H => ∃ xs,ag K H a xs /\ xs.length <= i⟩
def vE (lo : Int) (n : Nat) : It := ⟨fun i _ => i < n,fun i H x H' => H' = H /\ x = .int (lo + i),fun i _ => n <= i⟩
theorem aau {P : Program} {w : World} {K : Fg} {tg : Expr} (a it : Addr) : o0 P w K tg (yj K a) [it] it (fun i h => h.IsListIter it a i) where
 mem := by simp
 obj := fun i h st b hb => by
  have e : b = it := by simpa using hb
  subst e; obtain ⟨o,e,c,d⟩ := st; exact ⟨o,e,fun v z => by rw [d] at z; cases z⟩
 keep := fun i h h' st k => st.at fun o e => k it (by simp) o e
 item := by
  intro X hP hw hK hc i pins s σ H E I hf st hg; subst hP hw hK; obtain ⟨xs,x,hq,hx⟩ := hg; obtain ⟨its,rv,p,hz⟩ := I.list hq; obtain ⟨u,hu,ru⟩ := rv.get hx; obtain ⟨f0,f1,f2,f3,f4,f5⟩ := hf it (by simp); refine wpAny_pyNext_list_item st p.isList (x := u) (by simpa using hu) fun h' st' sb => ?_
  have I1 : ay X pins σ H { s with heap := h' } := I.turned (t' := s.toks) (fun b o hb e => (sb.2 b hb).trans e) f0 f1 f3 f4 f5; obtain ⟨o,e,c,d⟩ := id st'; exact ⟨u,rfl,tz (s := { s with heap := h' }) e c d (by decide) ⟨x,H,I1,ru,⟨rfl,fun ys hy => by rw [I.list_inj hy hq]; exact hx⟩,st',fun b hb => (hf b hb).1⟩⟩
 done := by
  intro X hP hw hK hc i pins s σ H E I hf st hg; subst hP hw hK; obtain ⟨xs,hq,hx⟩ := hg; obtain ⟨its,rv,p,hz⟩ := I.list hq; obtain ⟨f0,f1,f2,f3,f4,f5⟩ := hf it (by simp); have hl := rv.length; exact wpAny_pyNext_list_end (I.ok.hd hc) st p.isList (by simp; omega) fun h' eb => ⟨rfl,I.turned (t' := s.toks) (fun b o hb e => eb b o hb e) f0 f1 f3 f4 f5⟩
 self := fun _ _ _ _ _ st h => wpAny_pyIter_listiter st h
theorem zk {P : Program} {w : World} {K : Fg} {tg : Expr} (it : Addr) (lo : Int) (n : Nat) : o0 P w K tg (vE lo n) [it] it (fun i h => IsRangeIter h it (lo + (i : Nat) * 1) ((n : Int) - (i : Nat)) 1) where
 mem := by simp
 obj := fun i h st b hb => by
  have e : b = it := by simpa using hb
  subst e
  exact ⟨_,st,fun v z => by
   have z' : Data.fields _ = Data.cell v := z
   cases z'⟩
 keep := fun i h h' st k => k it (by simp) _ st
 item := by
  intro X hP hw hK hc i pins s σ H E I hf st hg; subst hP hw hK; obtain ⟨f0,f1,f2,f3,f4,f5⟩ := hf it (by simp); have W := Walks.range (prog := X.prog) (w := X.w) (I.ok.hd hc) it lo 1 n; refine W.item i s _ _ hg st fun v h' tk hv st' kk => ?_
  obtain ⟨t,rfl⟩ := hv; have I1 : ay X pins σ H { s with heap := h',toks := tk } := I.turned (fun b o hb e => kk b o (by simpa using hb) e) f0 f1 f3 f4 f5; refine ⟨_,rfl,tz (s := { s with heap := h',toks := tk }) (n := "range_iterator") st' rfl rfl (by decide) ⟨.int (lo + i),H,I1,⟨t,?_⟩,⟨rfl,rfl⟩,st',fun b hb => (hf b hb).1⟩⟩; rw [Int.mul_one]
 done := by
  intro X hP hw hK hc i pins s σ H E I hf st hg; subst hP hw hK; obtain ⟨f0,f1,f2,f3,f4,f5⟩ := hf it (by simp); exact wpAny_pyNext_range_end (I.ok.hd hc) st (by have : n <= i := hg; omega) fun h' eb => ⟨rfl,I.turned (t' := s.toks) (fun b o hb e => eb b o hb e) f0 f1 f3 f4 f5⟩
 self := fun _ _ _ _ _ st h => wpAny_pyIter_rangeiter st h
section
variable {X : Cx} {tg : Expr}
def adj (K : Fg) (tl : TE) : TI := fun σ H R => tl σ H fun x H1 => ∃ a,x = .ref a /\ (∃ xs,ag K H1 a xs) /\ R (yj K a) H1
theorem bD {l : Expr} {tl : TE} (hl : PE X l tl) : PI X tg l (adj X.K tl) := by
 intro pins s σ H R I h; refine bp (hl pins s σ H _ I h) fun v s1 ⟨x,H1,I1,r1,q1⟩ => ?_
 obtain ⟨a,e,⟨xs,hq⟩,q⟩ := q1; subst e; cases r1; obtain ⟨its,rv,p,hz⟩ := I1.list hq; refine wpAny_pyIter_list p.isList ?_; refine ⟨s1.heap.objs.size,[s1.heap.objs.size],_,_,H1,rfl,I1.kept (t' := s1.toks) fun b o e => Heap.get?_push_of_some _ e,aau a _,⟨_,Heap.get?_push_size _ rfl,rfl,rfl⟩,fun b hb => ?_,q⟩; have e : b = s1.heap.objs.size := by simpa using hb
 subst e; exact I1.fpOk (Nat.le_refl _) (I1.hok.fresh (Nat.le_refl _))
theorem wr {pins : List (Addr × Obj)} {σ : St} {H : Hp} {s : Shared} {R : It -> Hp -> Prop} {E : Value -> Shared -> Prop} {lo hi : Int} {t u v : Tok} {tk : Nat} (I : ay X pins σ H s) (h1 : -(2 ^ 62) <= lo) (h2 : lo < 2 ^ 62) (h3 : -(2 ^ 62) <= hi) (h4 : hi < 2 ^ 62)
  (q : R (vE lo (hi - lo).toNat) H) : wpAny (model X.prog X.w) X.A (pyIter (.ref s.heap.objs.size)) (PIE X pins σ tg R) E { s with heap := s.heap.push { cls := .type "range",data := .fields #[.int lo t,.int hi u,.int 1 v] },toks := tk } := by
 refine wpAny_pyIter_range (IsRange.new ..) (small_one h1 h2 h3 h4) ?_; have I1 : ay X pins σ H { s with heap := s.heap.push { cls := .type "range",data := .fields #[.int lo t,.int hi u,.int 1 v] },toks := tk } := I.kept fun b o e => Heap.get?_push_of_some _ e
 refine ⟨(s.heap.push { cls := .type "range",data := .fields #[.int lo t,.int hi u,.int 1 v] }).objs.size,[(s.heap.push { cls := .type "range",data := .fields #[.int lo t,.int hi u,.int 1 v] }).objs.size],_,_,H,rfl,
  I1.kept (t' := tk) fun b o e => Heap.get?_push_of_some _ e,zk _ lo (hi - lo).toNat,?_,fun b hb => ?_,q⟩
 ·have e1 : lo + ((0 : Nat) : Int) * 1 = lo := by simp
  have e2 : (((hi - lo).toNat : Nat) : Int) - ((0 : Nat) : Int) = Builtin.Range.rangeSize lo hi 1 := by rw [rangeSize_one]; split <;> omega
  show IsRangeIter _ _ (lo + ((0 : Nat) : Int) * 1) ((((hi - lo).toNat : Nat) : Int) - ((0 : Nat) : Int)) 1; rw [e1,e2]; exact Heap.get?_push_size _ rfl
 ·have e : b = (s.heap.push { cls := .type "range",data := .fields #[.int lo t,.int hi u,.int 1 v] }).objs.size := by simpa using hb
  subst e; exact I1.fpOk (Nat.le_refl _) (I1.hok.fresh (Nat.le_refl _))
def ac8 (ta : TA) : TI := fun σ H R => ta σ H fun vs H1 => ∃ j : Int,vs = [.int j] /\ -(2 ^ 62) <= j /\ j < 2 ^ 62 /\ R (vE 0 j.toNat) H1
def adi (ta : TA) : TI := fun σ H R => ta σ H fun vs H1 => ∃ i j : Int,vs = [.int i,.int j] /\ (-(2 ^ 62) <= i /\ i < 2 ^ 62 /\ -(2 ^ 62) <= j /\ j < 2 ^ 62) /\ R (vE i (j - i).toNat) H1
theorem d9 {a : Expr} {ta : TA} {p pos : Pos} (hg : Gl X "range") (hm : X.mg "range" = none) (ha : PA X [a] ta) (hs : starEach [a] X.env = [(false,eval a X.env)] := by rfl) : PI X tg (.Call (.Name "range" p) [a] [] pos) (ac8 ta) := by
 intro pins s σ H R I h; refine Call_ (j8 I hg hm boot_range (PyProof.Rows.callWith_type1 (bp (ha pos pins s σ H _ I h) fun us s1 ⟨vs,H1,I1,r1,q1⟩ => ?_) hs rfl)); obtain ⟨j,e,q1,q2,q⟩ := q1; subst e
 cases r1 with
 | cons r rr =>
  cases rr; obtain ⟨t,rfl⟩ := r; exact call_range_1 (wr I1 (by omega) (by omega) q1 q2 (by simpa using q))
theorem aaf {a b : Expr} {ta : TA} {p pos : Pos} (hg : Gl X "range") (hm : X.mg "range" = none) (ha : PA X [a,b] ta) (hs : starEach [a,b] X.env = [(false,eval a X.env),(false,eval b X.env)] := by rfl) (hs2 : starEach [b] X.env = [(false,eval b X.env)] := by rfl) :
  PI X tg (.Call (.Name "range" p) [a,b] [] pos) (adi ta) := by
 intro pins s σ H R I h; refine Call_ (j8 I hg hm boot_range (PyProof.Rows.callWith_type1 (bp (ha pos pins s σ H _ I h) fun us s1 ⟨vs,H1,I1,r1,q1⟩ => ?_) (by rw [hs,hs2]) (by rw [hs2]; rfl))); obtain ⟨i,j,e,⟨q1,q2,q3,q4⟩,q⟩ := q1; subst e
 cases r1 with
 | cons r rr =>
  cases rr with
  | cons r' rr =>
   cases rr; obtain ⟨t,rfl⟩ := r; obtain ⟨t',rfl⟩ := r'; exact call_range_2 (wr I1 q1 q2 q3 q4 q)
def aei (wi : TI) (g : TG) (tb : TS) : TS := fun D σ H => wi σ H fun J H1 => ∃ W : Nat -> Nat -> St -> Hp -> Prop,(∃ m,W 0 m σ H1) /\ ∀ i m σ H,W i m σ H →
 (J.stop i H /\ D.nx σ H) \/ (J.go i H /\ ∃ N : St -> Hp -> Prop,(∀ σ' H',N σ' H' -> ∃ m',m' < m /\ W (i + 1) m' σ' H') /\ ∀ x H',J.yld i H x H' -> g x σ H' fun σ2 H2 => tb { D with nx := N,ct := N,bk := D.nx } σ2 H2)
def qN (fp : List Addr) (h : Heap) : List (Addr × Obj) := fp.filterMap fun b => (h.get? b).map fun o => (b,o)
theorem pr {fp : List Addr} {h : Heap} {b : Addr} {o : Obj} (hb : b ∈ fp) (e : h.get? b = some o) : (b,o) ∈ qN fp h := List.mem_filterMap.mpr ⟨b,hb,by rw [e]; rfl⟩
theorem aal {fp : List Addr} {h : Heap} {p : Addr × Obj} (hp : p ∈ qN fp h) : p.1 ∈ fp /\ h.get? p.1 = some p.2 := by
 obtain ⟨b,hb,e⟩ := List.mem_filterMap.mp hp
 cases q : h.get? b with
 | none => rw [q] at e; cases e
 | some o =>
  rw [q] at e; have e' : (b,o) = p := Option.some.inj e; subst e'; exact ⟨hb,q⟩
theorem ay.pinned {pins : List (Addr × Obj)} {σ : St} {H : Hp} {s : Shared} {fp : List Addr} (I : ay X pins σ H s) (hf : ∀ b ∈ fp,kO X pins H b) (ho : ∀ b ∈ fp,∃ o,s.heap.get? b = some o /\ ∀ v,o.data ≠ .cell v) : ay X (pins ++ qN fp s.heap) σ H s :=
 I.pins_of fun p hp => (List.mem_append.mp hp).elim (fun z => I.pin p (List.mem_append_right _ z)) fun z => by
  obtain ⟨hb,e⟩ := aal z; obtain ⟨f0,f1,f2,_⟩ := hf p.1 hb; obtain ⟨o,e',d⟩ := ho p.1 hb; rw [e] at e'; cases e'; exact ⟨e,f0,f1,f2,d⟩
theorem ay.unpinned {pins pl : List (Addr × Obj)} {σ : St} {H : Hp} {s : Shared} (I : ay X (pins ++ pl) σ H s) : ay X pins σ H s := I.pins_of fun p hp => I.pin p (List.mem_append_right _ (List.mem_append_left _ hp))
theorem bS {iter : Expr} {body : List Stmt} {wi : TI} {g : TG} {tb : TS} {pos : Pos} (hp : PassesOwn (model X.prog X.w) X.A X.env X.xe) (hc : X.calm = true) (hi : PI X tg iter wi) (hg : PG X tg g) (hb : kT X body tb)
  (hs : ∀ x,foldedSetIterable iter X.env x = pure x := by intro _; rfl) : PS X (.For tg iter body [] pos) (aei wi g tb) := by
 intro pins s σ H D I h; refine wpAny_For (bp (hi pins s σ H _ I h) fun v s1 h1 => bp h1 fun itv s2 h2 => ?_) hs; obtain ⟨it,fp,tn,J,H2,e,I2,T,st2,f2,W,⟨m0,w0⟩,turn⟩ := h2; subst e; have stat : ∀ {H' : Hp},(∀ b ∈ fp,H' b = none) -> ∀ b ∈ fp,kO X pins H' b := fun hn b hb => ⟨hn b hb,(f2 b hb).2⟩
 refine codeAny_forLoop_any (fun n s' => ∃ i σ' H',ay X pins σ' H' s' /\ tn i s'.heap /\ (∀ b ∈ fp,H' b = none) /\ W i n σ' H') ?_ m0 ⟨0,σ,H2,I2,st2,fun b hb => (f2 b hb).1,w0⟩; rintro n s3 ⟨i,σ3,H3,I3,st3,fr3,w3⟩
 rcases turn i n σ3 H3 w3 with ⟨stop,qn⟩ | ⟨go,N,hN,step⟩
 ·refine wpAny_passesOwn hp (bp (T.done X rfl rfl rfl hc i pins s3 σ3 H3 X.xe I3 (stat fr3) st3 stop) fun r s4 ⟨hr,I4⟩ => ?_); subst hr; exact wpAny_execs_nil ⟨σ3,H3,I4,qn⟩
 ·refine wpAny_passesOwn hp (bp (T.item X rfl rfl rfl hc i pins s3 σ3 H3 X.xe I3 (stat fr3) st3 go) fun r s4 ⟨u,hr,h4⟩ => ?_); subst hr; refine wpAny_passesOwn hp (bp h4 fun _ s5 ⟨x,H5,I5,r5,y5,st5,fr5⟩ => ?_); have I5' := I5.pinned (stat fr5) (T.obj _ _ st5); refine wpAny_passesOwn hp (bp (hg _ s5 σ3 H5 x u _ I5' r5 (step x H5 y5)) fun _ s6 ⟨σ6,H6,I6,q6⟩ => ?_); refine wpAny_passesOwn hp (bp (hb _ s6 σ6 H6 _ I6 q6) fun f s7 q7 => ?_)
  have again : ∀ {σ7 : St} {H7 : Hp},ay X (pins ++ qN fp s5.heap) σ7 H7 s7 -> N σ7 H7 -> ∃ m,m < n /\ ∃ i σ' H',ay X pins σ' H' s7 /\ tn i s7.heap /\ (∀ b ∈ fp,H' b = none) /\ W i m σ' H' := fun {σ7 H7} I7 n7 => by
   obtain ⟨m',hm,w7⟩ := hN σ7 H7 n7; refine ⟨m',hm,i + 1,σ7,H7,I7.unpinned,T.keep _ _ _ st5 fun b hb o e => (I7.pin (b,o) (List.mem_append_right _ (List.mem_append_right _ (pr hb e)))).1,fun b hb => ?_,w7⟩; obtain ⟨o,e,d⟩ := T.obj _ _ st5 b hb; exact (I7.pin (b,o) (List.mem_append_right _ (List.mem_append_right _ (pr hb e)))).2.1
  cases f with
  | next => obtain ⟨σ7,H7,I7,n7⟩ := q7; exact again I7 n7
  | cont => obtain ⟨σ7,H7,I7,n7⟩ := q7; exact again I7 n7
  | brk => obtain ⟨σ7,H7,I7,q7⟩ := q7; exact ⟨σ7,H7,I7.unpinned,q7⟩
  | ret v => obtain ⟨x7,σ7,H7,I7,r7,q7⟩ := q7; exact ⟨x7,σ7,H7,I7.unpinned,r7,q7⟩
end
theorem d_ {K : Fg} {a : Addr} {xs : List V} {g : TG} {tb : TS} {D : kG} {σ : St} {H : Hp} (Pv : Nat -> St -> Hp -> Prop) (h0 : Pv 0 σ H) (hl : ∀ i σ H,i <= xs.length -> Pv i σ H -> ag K H a xs)
  (hs : ∀ i x σ H,xs[i]? = some x -> Pv i σ H -> g x σ H fun σ2 H2 => tb { D with nx := Pv (i + 1),ct := Pv (i + 1),bk := D.nx } σ2 H2) (hd : ∀ σ H,Pv xs.length σ H -> D.nx σ H) :
  ∃ W : Nat -> Nat -> St -> Hp -> Prop,(∃ m,W 0 m σ H) /\ ∀ i m σ H,W i m σ H →
   ((yj K a).stop i H /\ D.nx σ H) \/ ((yj K a).go i H /\ ∃ N : St -> Hp -> Prop,(∀ σ' H',N σ' H' -> ∃ m',m' < m /\ W (i + 1) m' σ' H') /\ ∀ x H',(yj K a).yld i H x H' -> g x σ H' fun σ2 H2 => tb { D with nx := N,ct := N,bk := D.nx } σ2 H2) := by
 refine ⟨fun i m σ H => m = xs.length - i /\ i <= xs.length /\ Pv i σ H,⟨xs.length,by simp,Nat.zero_le _,h0⟩,?_⟩; rintro i m σ H ⟨rfl,hi,p⟩; have q := hl i σ H hi p
 by_cases hlt : i < xs.length
 ·refine .inr ⟨⟨xs,xs[i],q,by simp [hlt]⟩,Pv (i + 1),fun σ' H' p' => ⟨xs.length - (i + 1),by omega,rfl,hlt,p'⟩,fun x H' y => ?_⟩; obtain ⟨e,y⟩ := y; subst e; exact hs i x σ _ (y xs q) p
 ·have e : i = xs.length := by omega
  subst e; exact .inl ⟨⟨xs,q,Nat.le_refl _⟩,hd σ H p⟩
theorem p7 {lo : Int} {n : Nat} {g : TG} {tb : TS} {D : kG} {σ : St} {H : Hp} (Pv : Nat -> St -> Hp -> Prop) (h0 : Pv 0 σ H)
  (hs : ∀ i σ H,i < n -> Pv i σ H -> g (.int (lo + i)) σ H fun σ2 H2 => tb { D with nx := Pv (i + 1),ct := Pv (i + 1),bk := D.nx } σ2 H2) (hd : ∀ σ H,Pv n σ H -> D.nx σ H) :
  ∃ W : Nat -> Nat -> St -> Hp -> Prop,(∃ m,W 0 m σ H) /\ ∀ i m σ H,W i m σ H →
   ((vE lo n).stop i H /\ D.nx σ H) \/ ((vE lo n).go i H /\ ∃ N : St -> Hp -> Prop,(∀ σ' H',N σ' H' -> ∃ m',m' < m /\ W (i + 1) m' σ' H') /\ ∀ x H',(vE lo n).yld i H x H' -> g x σ H' fun σ2 H2 => tb { D with nx := N,ct := N,bk := D.nx } σ2 H2) := by
 refine ⟨fun i m σ H => m = n - i /\ i <= n /\ Pv i σ H,⟨n,by simp,Nat.zero_le _,h0⟩,?_⟩; rintro i m σ H ⟨rfl,hi,p⟩
 by_cases hlt : i < n
 ·refine .inr ⟨hlt,Pv (i + 1),fun σ' H' p' => ⟨n - (i + 1),by omega,rfl,hlt,p'⟩,fun x H' y => ?_⟩; obtain ⟨e,y⟩ := y; subst e y; exact hs i σ _ hlt p
 ·have e : i = n := by omega
  subst e; exact .inl ⟨Nat.le_refl _,hd σ H p⟩
abbrev R2 := V -> V -> Hp -> VK -> Prop
def eh (X : Cx) (f : Value -> Value -> Sem Value) (r : R2) : Prop :=
 ∀ (pins : List (Addr × Obj)) (s : Shared) (σ : St) (H : Hp) (x y : V) (v u : Value) (Q : VK),ay X pins σ H s -> bw x v -> bw y u -> r x y H Q →
  wpAny (model X.prog X.w) X.A (f v u) (EP X pins σ Q) X.xe s
def UnR (X : Cx) (f : Value -> Sem Value) (r : V -> Hp -> VK -> Prop) : Prop :=
 ∀ (pins : List (Addr × Obj)) (s : Shared) (σ : St) (H : Hp) (x : V) (v : Value) (Q : VK),ay X pins σ H s -> bw x v -> r x H Q →
  wpAny (model X.prog X.w) X.A (f v) (EP X pins σ Q) X.xe s
def gg (X : Cx) (f : Value) (r : List V -> Hp -> VK -> Prop) : Prop :=
 ∀ (pins : List (Addr × Obj)) (s : Shared) (σ : St) (H : Hp) (xs : List V) (us : List Value) (Q : VK),ay X pins σ H s -> aL xs us -> r xs H Q →
  wpAny (model X.prog X.w) X.A (call f us) (EP X pins σ Q) X.xe s
def vp (r : R2) (ta tb : TE) : TE := fun σ H Q => ta σ H fun x H1 => tb σ H1 fun y H2 => r x y H2 Q
def tUn (r : V -> Hp -> VK -> Prop) (ta : TE) : TE := fun σ H Q => ta σ H fun x H1 => r x H1 Q
def rI (C : Int -> Int -> Prop) (g : Int -> Int -> V) : R2 := fun x y H Q => ∃ i j,x = .int i /\ y = .int j /\ C i j /\ Q (g i j) H
def vk (g : Int -> Int -> V) : R2 := fun x y H Q => ∃ i j,x = .int i /\ y = .int j /\ Q (g i j) H
def rU (g : Int -> V) : V -> Hp -> VK -> Prop := fun x H Q => ∃ i,x = .int i /\ Q (g i) H
section
variable {X : Cx} {a b c : Expr} {ta tb tc : TE} {pos : Pos}
theorem aby (ha : PE X a ta) (hb : PE X b tb) {pins : List (Addr × Obj)} {s : Shared} {σ : St} {H : Hp} {R : V -> V -> Hp -> Prop} (I : ay X pins σ H s)
  (h : ta σ H fun x H1 => tb σ H1 fun y H2 => R x y H2) {Q : Value -> Shared -> Prop} {f : Value -> Value -> Sem Value}
  (hf : ∀ v u s2 x y H2,ay X pins σ H2 s2 -> bw x v -> bw y u -> R x y H2 -> wpAny (model X.prog X.w) X.A (f v u) Q X.xe s2) :
  wpAny (model X.prog X.w) X.A (eval a X.env) (fun v s₁ => wpAny (model X.prog X.w) X.A (eval b X.env) (fun u s₂ => wpAny (model X.prog X.w) X.A (f v u) Q X.xe s₂) X.xe s₁) X.xe s := by
 refine bp (ha pins s σ H _ I h) fun v s1 ⟨x,H1,I1,r1,q1⟩ => ?_
 refine bp (hb pins s1 σ H1 _ I1 q1) fun u s2 ⟨y,H2,I2,r2,q2⟩ => ?_
 exact hf v u s2 x y H2 I2 r1 r2 q2
theorem aV {op : Operator} {r : R2} (ho : eh X (binaryOp op) r) (ha : PE X a ta) (hb : PE X b tb) : PE X (.BinOp a op b pos) (vp r ta tb) := by
 intro pins s σ H Q I h; exact wpAny_BinOp (aby ha hb I h fun v u s2 x y H2 I2 rx ry q => ho pins s2 σ H2 x y v u Q I2 rx ry q)
theorem rG {op : UnaryOp} {r : V -> Hp -> VK -> Prop} (ho : UnR X (unaryOp op) r) (ha : PE X a ta) : PE X (.UnaryOp op a pos) (tUn r ta) := by
 intro pins s σ H Q I h; exact UnaryOp_ (bp (ha pins s σ H _ I h) fun v s1 ⟨x,H1,I1,r1,q1⟩ => ho pins s1 σ H1 x v Q I1 r1 q1)
theorem opI {f : Value -> Value -> Sem Value} {C : Int -> Int -> Prop} {g : Int -> Int -> Int}
  (rule : ∀ (i j : Int) (t u : Tok) (s : Shared) (Q : Value -> Shared -> Prop) (E : Value -> Shared -> Prop),C i j -> Q (.int (g i j) s.toks) { s with toks := s.toks + 1 } -> wpAny (model X.prog X.w) X.A (f (.int i t) (.int j u)) Q E s) :
  eh X f (rI C fun i j => .int (g i j)) := by
 intro pins s σ H x y v u Q I rx ry h; obtain ⟨i,j,rfl,rfl,hc,q⟩ := h; obtain ⟨t,rfl⟩ := rx; obtain ⟨t',rfl⟩ := ry; exact rule i j t t' s _ _ hc ⟨.int (g i j),H,I.tok _,⟨_,rfl⟩,q⟩
theorem acH {f : Value -> Value -> Sem Value} {g : Int -> Int -> Int}
  (rule : ∀ (i j : Int) (t u : Tok) (s : Shared) (Q : Value -> Shared -> Prop) (E : Value -> Shared -> Prop),Q (.int (g i j) s.toks) { s with toks := s.toks + 1 } -> wpAny (model X.prog X.w) X.A (f (.int i t) (.int j u)) Q E s) :
  eh X f (vk fun i j => .int (g i j)) := by
 intro pins s σ H x y v u Q I rx ry h; obtain ⟨i,j,rfl,rfl,q⟩ := h; obtain ⟨t,rfl⟩ := rx; obtain ⟨t',rfl⟩ := ry; exact rule i j t t' s _ _ ⟨.int (g i j),H,I.tok _,⟨_,rfl⟩,q⟩
theorem zS {f : Value -> Value -> Sem Value} {g : Int -> Int -> Bool}
  (rule : ∀ (i j : Int) (t u : Tok) (s : Shared) (Q : Value -> Shared -> Prop) (E : Value -> Shared -> Prop),Q (.bool (g i j)) s -> wpAny (model X.prog X.w) X.A (f (.int i t) (.int j u)) Q E s) :
  eh X f (vk fun i j => .bl (g i j)) := by
 intro pins s σ H x y v u Q I rx ry h; obtain ⟨i,j,rfl,rfl,q⟩ := h; obtain ⟨t,rfl⟩ := rx; obtain ⟨t',rfl⟩ := ry; exact rule i j t t' s _ _ ⟨.bl (g i j),H,I,rfl,q⟩
def adV (i j : Int) : Prop := 0 < j /\ j < 1073741824
def abn (i j : Int) : Prop := (-(2 ^ 64) < i /\ i < 2 ^ 64) \/ (-(2 ^ 64) < j /\ j < 2 ^ 64)
theorem abn.ok {i j : Int} (h : abn i j) : IntMulOk i j := by
 rcases h with ⟨h1,h2⟩ | ⟨h1,h2⟩
 ·exact .of_left (intBits_le_64 h1 h2)
 ·exact .of_right (intBits_le_64 h1 h2)
theorem cP : eh X (binaryOp .Add) (vk fun i j => .int (i + j)) := acH fun _ _ _ _ _ _ _ q => add_int q
theorem jS : eh X (binaryOp .Sub) (vk fun i j => .int (i - j)) := acH fun _ _ _ _ _ _ _ q => sub_int q
theorem dm : eh X (binaryOp .Mult) (rI abn fun i j => .int (i * j)) := opI fun _ _ _ _ _ _ _ hc q => mul_int q hc.ok
theorem yO : eh X (binaryOp .FloorDiv) (rI adV fun i j => .int (i / j)) := opI fun i j _ _ _ _ _ hc q => by
 have h1 : (0 : Int) < j := hc.1; have h2 : j < 1073741824 := hc.2; exact floordiv_int (by omega) (by rw [Int.fdiv_eq_ediv_of_nonneg i (by omega)]; exact q) (.inl (PyProof.noPylong_small (by omega)))
theorem wF : eh X (binaryOp .Mod) (rI (fun _ j => 0 < j) fun i j => .int (i % j)) := opI fun i j _ _ _ _ _ hc q => by
 have h1 : (0 : Int) < j := hc; exact mod_int' (by omega) (by rw [Int.fmod_eq_emod_of_nonneg i (by omega)]; exact q)
theorem unI {f : Value -> Sem Value} {g : Int -> Int}
  (rule : ∀ (i : Int) (t : Tok) (s : Shared) (Q : Value -> Shared -> Prop) (E : Value -> Shared -> Prop),Q (.int (g i) s.toks) { s with toks := s.toks + 1 } -> wpAny (model X.prog X.w) X.A (f (.int i t)) Q E s) :
  UnR X f (rU fun i => .int (g i)) := by
 intro pins s σ H x v Q I rx h; obtain ⟨i,rfl,q⟩ := h; obtain ⟨t,rfl⟩ := rx; exact rule i t s _ _ ⟨.int (g i),H,I.tok _,⟨_,rfl⟩,q⟩
theorem on : UnR X (unaryOp .USub) (rU fun i => .int (-i)) := unI fun _ _ _ _ _ q => neg_int q
end
def acL : V -> V -> Bool
 | .non,.non => true | .non,.int _ => true | .int _,.non => true | .non,.bl _ => true | .bl _,.non => true | .non,.str _ => true | .str _,.non => true
 | .int _,.int _ => true | .bl _,.bl _ => true | .str _,.str _ => true | .byt _,.byt _ => true
 | .int _,.str _ => true | .str _,.int _ => true | .bl _,.str _ => true | .str _,.bl _ => true
 | _,_ => false
def rEq : R2 := fun x y H Q => acL x y = true /\ Q (.bl (decide (x = y))) H
def rNe : R2 := fun x y H Q => acL x y = true /\ Q (.bl (!decide (x = y))) H
theorem yC {i j : Int} : decide (V.int i = V.int j) = (i == j) := by
 rw [Bool.eq_iff_iff]
 simp
theorem aaj {i j : Bool} : decide (V.bl i = V.bl j) = (i == j) := by
 rw [Bool.eq_iff_iff]
 simp
theorem ym {i j : Str} : decide (V.str i = V.str j) = (i == j) := by
 rw [Bool.eq_iff_iff]
 simp
theorem yQ {i j : Array UInt8} : decide (V.byt i = V.byt j) = (i.toList == j.toList) := by
 rw [Bool.eq_iff_iff]; cases i; cases j
 simp
section
variable {X : Cx} {a b c : Expr} {ta tb tc : TE} {pos : Pos}
theorem bG {pins : List (Addr × Obj)} {σ : St} {H : Hp} {s : Shared} {Q : VK} {k k' : Bool} (I : ay X pins σ H s) (q : Q (.bl k) H) (e : k = k') : EP X pins σ Q (.bool k') s := by
 subst e; exact ⟨.bl k,H,I,rfl,q⟩
theorem bC : eh X (compareOp .Eq) rEq := by
 intro pins s σ H x y v u Q I rx ry h; obtain ⟨hs,q⟩ := h
 cases x with
 | non =>
  cases rx
  cases y with
  | non => cases ry; exact PySem.EqNone.eq_none_none (bG I q (by simp))
  | bl j => cases ry; exact PySem.EqNone.eq_none_bool (bG I q (by simp))
  | int j => obtain ⟨t',rfl⟩ := ry; exact PySem.EqNone.eq_none_int (bG I q (by simp))
  | str j => obtain ⟨t',rfl⟩ := ry; exact PySem.EqNone.eq_none_str (bG I q (by simp))
  | _ => exact absurd (show false = true from hs) Bool.false_ne_true
 | bl i =>
  cases rx
  cases y with
  | non => cases ry; exact PySem.EqNone.eq_bool_none (bG I q (by simp))
  | bl j => cases ry; exact eq_bool (bG I q aaj)
  | str j => obtain ⟨t',rfl⟩ := ry; exact PySem.EqMixed.eq_bool_str (bG I q (by simp))
  | _ => exact absurd (show false = true from hs) Bool.false_ne_true
 | int i =>
  obtain ⟨t,rfl⟩ := rx
  cases y with
  | non => cases ry; exact PySem.EqNone.eq_int_none (bG I q (by simp))
  | int j => obtain ⟨t',rfl⟩ := ry; exact eq_int (bG I q yC)
  | str j => obtain ⟨t',rfl⟩ := ry; exact PySem.EqMixed.eq_int_str (bG I q (by simp))
  | _ => exact absurd (show false = true from hs) Bool.false_ne_true
 | str i =>
  obtain ⟨t,rfl⟩ := rx
  cases y with
  | non => cases ry; exact PySem.EqNone.eq_str_none (bG I q (by simp))
  | bl j => cases ry; exact PySem.EqMixed.eq_str_bool (bG I q (by simp))
  | int j => obtain ⟨t',rfl⟩ := ry; exact PySem.EqMixed.eq_str_int (bG I q (by simp))
  | str j => obtain ⟨t',rfl⟩ := ry; exact eq_str (bG I q ym)
  | _ => exact absurd (show false = true from hs) Bool.false_ne_true
 | byt i =>
  obtain ⟨t,rfl⟩ := rx
  cases y with
  | byt j => obtain ⟨t',rfl⟩ := ry; exact PySem.W.eq_bytes (bG I q yQ)
  | _ => exact absurd (show false = true from hs) Bool.false_ne_true
 | _ => cases y <;> exact absurd (show false = true from hs) Bool.false_ne_true
theorem bB : eh X (compareOp .NotEq) rNe := by
 intro pins s σ H x y v u Q I rx ry h; obtain ⟨hs,q⟩ := h
 cases x with
 | non =>
  cases rx
  cases y with
  | non => cases ry; exact PySem.EqNone.ne_none_none (bG I q (by simp))
  | bl j => cases ry; exact PySem.EqNone.ne_none_bool (bG I q (by simp))
  | int j => obtain ⟨t',rfl⟩ := ry; exact PySem.EqNone.ne_none_int (bG I q (by simp))
  | str j => obtain ⟨t',rfl⟩ := ry; exact PySem.EqNone.ne_none_str (bG I q (by simp))
  | _ => exact absurd (show false = true from hs) Bool.false_ne_true
 | bl i =>
  cases rx
  cases y with
  | non => cases ry; exact PySem.EqNone.ne_bool_none (bG I q (by simp))
  | bl j => cases ry; exact ne_bool (bG I q (congrArg not aaj))
  | str j => obtain ⟨t',rfl⟩ := ry; exact PySem.EqMixed.ne_bool_str (bG I q (by simp))
  | _ => exact absurd (show false = true from hs) Bool.false_ne_true
 | int i =>
  obtain ⟨t,rfl⟩ := rx
  cases y with
  | non => cases ry; exact PySem.EqNone.ne_int_none (bG I q (by simp))
  | int j => obtain ⟨t',rfl⟩ := ry; exact ne_int (bG I q (congrArg not yC))
  | str j => obtain ⟨t',rfl⟩ := ry; exact PySem.EqMixed.ne_int_str (bG I q (by simp))
  | _ => exact absurd (show false = true from hs) Bool.false_ne_true
 | str i =>
  obtain ⟨t,rfl⟩ := rx
  cases y with
  | non => cases ry; exact PySem.EqNone.ne_str_none (bG I q (by simp))
  | bl j => cases ry; exact PySem.EqMixed.ne_str_bool (bG I q (by simp))
  | int j => obtain ⟨t',rfl⟩ := ry; exact PySem.EqMixed.ne_str_int (bG I q (by simp))
  | str j => obtain ⟨t',rfl⟩ := ry; exact ne_str (bG I q (congrArg not ym))
  | _ => exact absurd (show false = true from hs) Bool.false_ne_true
 | byt i =>
  obtain ⟨t,rfl⟩ := rx
  cases y with
  | byt j => obtain ⟨t',rfl⟩ := ry; exact PySem.W.ne_bytes (bG I q (congrArg not yQ))
  | _ => exact absurd (show false = true from hs) Bool.false_ne_true
 | _ => cases y <;> exact absurd (show false = true from hs) Bool.false_ne_true
theorem iZ : eh X (compareOp .Lt) (vk fun i j => .bl (decide (i < j))) := zS fun _ _ _ _ _ _ _ q => lt_int q
theorem iB : eh X (compareOp .LtE) (vk fun i j => .bl (decide (i <= j))) := zS fun _ _ _ _ _ _ _ q => le_int q
theorem k_ : eh X (compareOp .Gt) (vk fun i j => .bl (decide (j < i))) := zS fun _ _ _ _ _ _ _ q => gt_int q
theorem mE : eh X (compareOp .GtE) (vk fun i j => .bl (decide (j <= i))) := zS fun _ _ _ _ _ _ _ q => ge_int q
theorem aaJ (b : Expr) {op : CmpOp} (h : op ≠ .In := by decide) (h2 : op ≠ .NotIn := by decide) : behindInMarks op b = false := by
 have e1 : (op == CmpOp.In) = false := by cases op <;> first | rfl | exact absurd rfl h
 have e2 : (op == CmpOp.NotIn) = false := by cases op <;> first | rfl | exact absurd rfl h2
 cases b <;> simp [behindInMarks,e1,e2]
theorem ace {op : CmpOp} {r : R2} (ho : eh X (compareOp op) r) (ha : PE X a ta) (hb : PE X b tb) (hm : behindInMarks op b = false) : PE X (.Compare a [op] [b] pos) (vp r ta tb) := by
 intro pins s σ H Q I h; exact wpAny_Compare1 (aby ha hb I h fun v u s2 x y H2 I2 rx ry q => ho pins s2 σ H2 x y v u Q I2 rx ry q) hm
def abJ (t : TE) : TT := fun σ H Q => t σ H fun x H' => ∃ k,x = .bl k /\ Q k H'
theorem yr {op : CmpOp} {r : R2} (ho : eh X (compareOp op) r) (ha : PE X a ta) (hb : PE X b tb) (hm : behindInMarks op b = false) : PT X (.Compare a [op] [b] pos) (abJ (vp r ta tb)) := by
 intro pins s σ H Q I h
 refine wpAny_isTrue_Compare1 (bp (ha pins s σ H _ I h) fun v s1 ⟨x,H1,I1,r1,q1⟩ => bp (hb pins s1 σ H1 _ I1 q1) fun u s2 ⟨y,H2,I2,r2,q2⟩ =>
  bp (ho pins s2 σ H2 x y v u _ I2 r1 r2 q2) fun c s3 ⟨z,H3,I3,r3,k,e,q3⟩ => ?_) hm
 subst e; cases r3; exact wpAny_truthy_bool ⟨H3,I3,q3⟩
theorem tT : (sizeLine : Nat) < 2 ^ 63 := by rw [sizeLine_eq]; decide
theorem oW : eh X (binaryOp .Add) (fun x y H Q => ∃ i j,x = .str i /\ y = .str j /\ i.length + j.length <= sizeLine /\ Q (.str (i ++ j)) H) := by
 intro pins s σ H x y v u Q I rx ry h; obtain ⟨i,j,rfl,rfl,hz,q⟩ := h; obtain ⟨t,rfl⟩ := rx; obtain ⟨t',rfl⟩ := ry; exact add_str (fun t' tk => ⟨.str (i ++ j),H,I.tok _,⟨_,rfl⟩,q⟩) hz
theorem wk {x : V} {us : List Value} (r : aL [x] us) : ∃ u,us = [u] /\ bw x u := by
 cases r with
 | cons r1 r2 => cases r2; exact ⟨_,rfl,r1⟩
theorem abG {x y : V} {us : List Value} (r : aL [x,y] us) : ∃ u w',us = [u,w'] /\ bw x u /\ bw y w' := by
 cases r with
 | cons r1 r2 =>
  cases r2 with
  | cons r3 r4 => cases r4; exact ⟨_,_,rfl,r1,r3⟩
theorem mF (hc : X.calm = true) : gg X (.builtin "max") (fun xs H Q => ∃ i j,xs = [.int i,.int j] /\ Q (.int (if j > i then j else i)) H) := by
 intro pins s σ H xs us Q I r h; obtain ⟨i,j,rfl,q⟩ := h; obtain ⟨u,w',rfl,⟨t,rfl⟩,⟨t',rfl⟩⟩ := abG r; refine max_two_ints (I.ok.hd hc) fun h' tk k => ⟨_,H,I.kept k,?_,q⟩
 by_cases hj : j > i
 ·rw [if_pos hj,if_pos hj]; exact ⟨_,rfl⟩
 ·rw [if_neg hj,if_neg hj]; exact ⟨_,rfl⟩
theorem vj (hc : X.calm = true) : gg X (.builtin "min") (fun xs H Q => ∃ i j,xs = [.int i,.int j] /\ Q (.int (if j < i then j else i)) H) := by
 intro pins s σ H xs us Q I r h; obtain ⟨i,j,rfl,q⟩ := h; obtain ⟨u,w',rfl,⟨t,rfl⟩,⟨t',rfl⟩⟩ := abG r; refine min_two_ints (I.ok.hd hc) fun h' tk k => ⟨_,H,I.kept k,?_,q⟩
 by_cases hj : j < i
 ·rw [if_pos hj,if_pos hj]; exact ⟨_,rfl⟩
 ·rw [if_neg hj,if_neg hj]; exact ⟨_,rfl⟩
theorem qM : gg X (.type "str") (fun xs H Q => ∃ i,xs = [.int i] /\ i.natAbs.log2 < 1920 /\ Q (.str (toString i)) H) := by
 intro pins s σ H xs us Q I r h; obtain ⟨i,rfl,hz,q⟩ := h; obtain ⟨u,rfl,t,rfl⟩ := wk r; exact PySem.P.str_of_int hz ⟨.str _,H,I.tok _,⟨_,rfl⟩,q⟩
theorem dk : gg X (.builtin "ord") (fun xs H Q => ∃ x,xs = [.str x] /\ x.length = 1 /\ Q (.int (x.cps.getD 0 0 : Nat)) H) := by
 intro pins s σ H xs us Q I r h; obtain ⟨x,rfl,hz,q⟩ := h; obtain ⟨u,rfl,t,rfl⟩ := wk r; exact ord_of_one hz ⟨.int _,H,I.tok _,⟨_,rfl⟩,q⟩
end
structure tm (h : Heap) (x dx C : Addr) (mA : Str -> Option Value) : Prop where
 obj : h.get? x = some (PySem.W.instObj C dx)
 ns : h.Ns1 dx mA
 ne : dx ≠ x
theorem aaD {h : Heap} {dx : Addr} {mA : Str -> Option Value} (n : h.Ns1 dx mA) : ∃ od,h.get? dx = some od /\ ∀ name,PySem.W.lookIn name od = some (mA name) := by
 obtain ⟨o,es,ep,ho,hd,hk,_,hm⟩ := n; refine ⟨o,ho,fun name => ?_⟩; have e := hm name; unfold nsFind findBy at e; rw [← Array.find?_toList] at e; unfold PySem.W.lookIn; rw [hd]
 dsimp only
 split
 ·rename_i y q; rw [q] at e; exact congrArg some e
 ·rename_i q; rw [q] at e
  have a : es.toList.any (·.refKey) = false := by
   rw [List.any_eq_false]; intro y hy; obtain ⟨z,t,hkey⟩ := hk y (Array.mem_toList_iff.mp hy); simp [DictEntry.refKey,hkey]
  have a' : ¬ es.toList.any (·.refKey) = true := by rw [a]; exact Bool.false_ne_true
  rw [if_neg a']; exact congrArg some e
theorem tm.look {h : Heap} {x dx C : Addr} {mA : Str -> Option Value} (I : tm h x dx C mA) : ∃ od,PySem.W.InstAt h x (PySem.W.instObj C dx) C (some od) /\ ∀ name,PySem.W.lookIn name od = some (mA name) :=
 let ⟨od,ho,hl⟩ := aaD I.ns
 ⟨od,⟨I.obj,rfl,rfl,ho⟩,hl⟩
section
variable {prog : Program} {w : World} {A : Around} {E : Value -> Shared -> Prop} {s : Shared} {K : Fg} {x dx C f : Addr} {mA : Str -> Option Value} {name : Str} {v : Value}
theorem abW {expr : Bool} {Q : Value -> Shared -> Prop} (X : K.In s.heap) (I : tm s.heap x dx C mA) (hg : PySem.W.plainGet K C name = true) (hh : PySem.W.hasDictIn K C = true)
  (ha : PySem.W.findIn K (.ref C) name = some none) (hv : mA name = some v) (hv' : PySem.W.handedIn v = true) (h : Q v { s with toks := s.toks + 1 }) :
  wpAny (model prog w) A (getAttr (.ref x) name expr) Q E s := by
 obtain ⟨od,J,hl⟩ := I.look; exact PySem.W.get_value X J (PySem.W.plainGet_of hg).1 (PySem.W.findObj_own hh ha rfl (by rw [hl,hv])) hv' h
theorem aa9 {pl : Sem Bool} {Q : Value × List Value -> Shared -> Prop} (X : K.In s.heap) (I : tm s.heap x dx C mA) (hg : PySem.W.plainGet K C name = true)
  (hf : PySem.W.findIn K (.ref C) name = some (some (.ref f))) (ht : PySem.W.isFn K (.ref f) = true) (hv : mA name = none) (h : Q (.ref f,[.ref x]) s) :
  wpAny (model prog w) A (getMethod (.ref x) name pl) Q E s := by
 obtain ⟨od,J,hl⟩ := I.look; exact PySem.W.method_fn X J (PySem.W.plainGet_of hg).1 (PySem.W.plainGet_of hg).2 hf (beq_iff_eq.mp ht) (by show (PySem.W.lookIn name od).map (·.isSome) = some false; rw [hl,hv]; rfl) h
theorem aca {ns : List Str} {Q : Unit -> Shared -> Prop} (X : K.In s.heap) (I : tm s.heap x dx C mA)
  (hs : PySem.W.findIn K (.ref C) "__setattr__" = some (some (.builtin "object.__setattr__"))) (hp : PySem.W.plainOver K C = true) (ht : PySem.W.takerIn K C name = some none) (hh : PySem.W.hasDictIn K C = true)
  (hw : PySem.Within mA ns) (hsz : ns.length <= sizeLine)
  (h : ∀ h',tm h' x dx C (fun y => if y = name then some v else mA y) -> Heap.SameBut dx s.heap h' -> Q () { s with heap := h',toks := s.toks + 2 }) :
  wpAny (model prog w) A (setAttr (.ref x) name v) Q E s := by
 obtain ⟨od,J,hl⟩ := I.look; refine PySem.W.set_plain X J hs (PySem.W.osa_open (s := { s with toks := s.toks + 1 }) (r := none) X J hp ht fun b => ?_); obtain ⟨cd,hc,hd'⟩ := PySem.W.any_some hh; have hx : s.heap.get? x = some ⟨.ref C,some dx,.plain,#[]⟩ := I.obj; refine wpAny_bind (wpAny_pure (wpAny_bind (wpAny_bind (wpAny_loadPart hx (wpAny_bind (PySem.W.Looks.here (s := { s with toks := s.toks + 1 }) (PySem.W.looks_clsIn X hc) ?_)))))); rw [hd']; refine wpAny_pure (a := some dx) (wpAny_bind (wpAny_pure (wpAny_bind ?_))); refine wpAny_nsSet1 (s := { s with toks := s.toks + 1 }) I.ns fun h' hn2 hs2 => ?_
 obtain ⟨oD,esD,epD,hoD,hdD,hcD⟩ := hn2.count (PySem.Within.cons name v hw); refine wpAny_bind (wpAny_lookBehind hoD (by rw [hdD]; exact pastItsLine_dict (Nat.le_trans hcD (by rw [List.length_cons]; omega))) ?_); exact wpAny_pure (h _ ⟨(hs2.2 _ (Ne.symm I.ne)).trans I.obj,hn2,I.ne⟩ hs2)
theorem abz {R : Result -> Shared -> Prop} {vs : List Value} {kw : List (Str × Value)} (X : K.In s.heap) (hm : PySem.W.makesIn K C = true)
  (hi : PySem.W.findIn K (.ref C) "__init__" = some (some (.ref f))) (hf : PySem.W.typeIn K (.ref f) = some (.type "function"))
  (h : codeAny (model prog w) (A.under (.builtin "type.__call__" ⟨.ref C :: vs,kw⟩)) (.call (.ref f) ⟨.ref (s.heap.objs.size + 1) :: vs,kw⟩) (PySem.W.InitBack (s.heap.objs.size + 1) R)
   { s with heap := (s.heap.push PySem.W.emptyDict).push (PySem.W.instObj C s.heap.objs.size) }) :
  codeAny (model prog w) A (.call (.ref C) ⟨vs,kw⟩) R s := by
 obtain ⟨hh,g,d,t,os⟩ := s; exact PySem.W.make_core (PySem.W.makes_of X hm) (PySem.W.looks_findIn X hi) (fun self => PySem.W.bind_fn X self hf) (.inl rfl) h
end
def cW (f : Str) (v : V) : List (Str × V) -> List (Str × V)
 | [] => [(f,v)]
 | (g,x) :: r => if g = f then (g,v) :: r else (g,x) :: cW f v r
theorem gJ (f g : Str) (v : V) : ∀ fs : List (Str × V),(cW f v fs).lookup g = if g = f then some v else fs.lookup g
 | [] => by
  show List.lookup g [(f,v)] = _
  by_cases h : g = f
  ·have hb : (g == f) = true := beq_iff_eq.mpr h; simp only [List.lookup,hb,if_pos h]
  ·have hb : (g == f) = false := beq_eq_false_iff_ne.mpr h; simp only [List.lookup,hb,if_neg h]
 | (k,x) :: r => by
  have ih := gJ f g v r; rw [show cW f v ((k,x) :: r) = (if k = f then (k,v) :: r else (k,x) :: cW f v r) from rfl]
  by_cases hk : k = f
  ·rw [if_pos hk]
   by_cases h : g = k
   ·have hb : (g == k) = true := beq_iff_eq.mpr h; simp only [List.lookup,hb,if_pos (h.trans hk)]
   ·have hb : (g == k) = false := beq_eq_false_iff_ne.mpr h; simp only [List.lookup,hb,if_neg (fun e : g = f => h (e.trans hk.symm))]
  ·rw [if_neg hk]
   by_cases h : g = k
   ·have hb : (g == k) = true := beq_iff_eq.mpr h; simp only [List.lookup,hb,if_neg (fun e : g = f => hk (h.symm.trans e))]
   ·have hb : (g == k) = false := beq_eq_false_iff_ne.mpr h; simp only [List.lookup,hb]; exact ih
theorem qb (f : Str) (v : V) : ∀ fs : List (Str × V),f ∈ (cW f v fs).map (·.1) /\ ∀ g,g ∈ fs.map (·.1) -> g ∈ (cW f v fs).map (·.1)
 | [] => ⟨by simp [cW],fun g h => by simp at h⟩
 | (k,x) :: r => by
  obtain ⟨i1,i2⟩ := qb f v r; rw [show cW f v ((k,x) :: r) = (if k = f then (k,v) :: r else (k,x) :: cW f v r) from rfl]
  by_cases hk : k = f
  ·rw [if_pos hk]; subst hk; exact ⟨by simp,fun g h => by simpa using h⟩
  ·rw [if_neg hk]; refine ⟨?_,fun g h => ?_⟩
   ·rw [List.map_cons]; exact List.mem_cons_of_mem _ i1
   ·rw [List.map_cons] at h ⊢
    rcases List.mem_cons.mp h with e | e
    ·exact List.mem_cons.mpr (.inl e)
    ·exact List.mem_cons_of_mem _ (i2 g e)
theorem sr (f : Str) (v : V) : ∀ fs : List (Str × V),(cW f v fs).length <= fs.length + 1
 | [] => by simp [cW]
 | (k,x) :: r => by
  have ih := sr f v r; rw [show cW f v ((k,x) :: r) = (if k = f then (k,v) :: r else (k,x) :: cW f v r) from rfl]
  by_cases hk : k = f
  ·rw [if_pos hk,List.length_cons,List.length_cons]; omega
  ·rw [if_neg hk,List.length_cons,List.length_cons]; omega
theorem oa.some_of {v : V} {o : Option Value} (r : oa (some v) o) : ∃ u,o = some u /\ bw v u := by
 cases o with
 | none => exact (show False from r).elim
 | some u => exact ⟨u,rfl,r⟩
theorem oa.none_of {o : Option Value} (r : oa none o) : o = none := by
 cases o with
 | none => rfl
 | some u => exact (show False from r).elim
theorem aaQ {v : V} {u : Value} (r : bw v u) : PySem.W.handedIn u = true := by
 cases v with
 | non => cases (show u = Value.none from r); rfl
 | bl b => cases (show u = Value.bool b from r); rfl
 | int i => obtain ⟨t,e⟩ := (show ∃ t,u = Value.int i t from r); cases e; rfl
 | str x => obtain ⟨t,e⟩ := (show ∃ t,u = Value.str x t from r); cases e; rfl
 | byt b => obtain ⟨t,e⟩ := (show ∃ t,u = Value.bytes b t from r); cases e; rfl
 | flt b => obtain ⟨t,e⟩ := (show ∃ t,u = Value.float b t from r); cases e; rfl
 | ref a => cases (show u = Value.ref a from r); rfl
 | ty n => cases (show u = Value.type n from r); rfl
section
variable {P : Program} {w : World} {H H' : Hp} {h h' : Heap} {a C dx : Addr} {fs fs' : List (Str × V)}
theorem uT (hok : d4 P w H h) (e : H a = some (.ins C dx fs)) : ∃ mA,tm h a dx C mA /\ (∀ f,oa (fs.lookup f) (mA f)) /\ PySem.Within mA (fs.map (·.1)) /\ fs.length <= 1000 /\ H dx = some (.own a) := by
 obtain ⟨d,z,ne,ob,mA,n,r,q⟩ := (show df P w H h a (.ins C dx fs) from hok a _ e); exact ⟨mA,⟨ob,n,ne⟩,r,q,z,d⟩
end
structure kS (K : Fg) (C : Addr) : Prop where
 pg : PySem.W.plainGet K C Str.empty = true
 hd : PySem.W.hasDictIn K C = true
 po : PySem.W.plainOver K C = true
 sa : PySem.W.findIn K (.ref C) "__setattr__" = some (some (.builtin "object.__setattr__"))
theorem kS.get {K : Fg} {C : Addr} (c : kS K C) (f : Str) : PySem.W.plainGet K C f = true := c.pg
def gb (K : Fg) (C : Addr) (f : Str) : Prop := PySem.W.findIn K (.ref C) f = some none
theorem gb.taker {K : Fg} {C : Addr} {f : Str} (n : gb K C f) : PySem.W.takerIn K C f = some none := by
 unfold PySem.W.takerIn; rw [show PySem.W.findIn K (.ref C) f = some none from n]; rfl
structure wt (K : Fg) (C : Addr) (m : Str) (f : Addr) : Prop where
 at_ : PySem.W.findIn K (.ref C) m = some (some (.ref f))
 fn : PySem.W.isFn K (.ref f) = true
 kp : PySem.W.keepIn K (.ref f) = true
section
variable {X : Cx} {pins : List (Addr × Obj)} {σ : St} {H : Hp} {s : Shared} {a C dx : Addr} {fs : List (Str × V)} {f : Str} {v : V} {A : Around} {E : Value -> Shared -> Prop}
theorem zK {b : Bool} {Q : Value -> Shared -> Prop} (I : ay X pins σ H s) (e : H a = some (.ins C dx fs)) (c : kS X.K C) (n : gb X.K C f) (l : fs.lookup f = some v)
  (h : ∀ u s',ay X pins σ H s' -> bw v u -> Q u s') : wpAny (model X.prog X.w) A (getAttr (.ref a) f b) Q E s := by
 obtain ⟨mA,O,r,_,_,_⟩ := uT I.hok e; obtain ⟨u,hu,ru⟩ := oa.some_of (v := v) (o := mA f) (by rw [← l]; exact r f); exact abW I.kIn O (c.get f) c.hd n hu (aaQ ru) (h u _ (I.tok _) ru)
theorem tG {m : Str} {g : Addr} {pl : Sem Bool} {Q : Value × List Value -> Shared -> Prop} (I : ay X pins σ H s) (e : H a = some (.ins C dx fs)) (c : kS X.K C) (k : wt X.K C m g) (l : fs.lookup m = none)
  (h : Q (.ref g,[.ref a]) s) : wpAny (model X.prog X.w) A (getMethod (.ref a) m pl) Q E s := by
 obtain ⟨mA,O,r,_,_,_⟩ := uT I.hok e; have hn : mA m = none := oa.none_of (by rw [← l]; exact r m); exact aa9 I.kIn O (c.get m) k.at_ k.fn hn h
theorem zC {y : V} {u : Value} {Q : Unit -> Shared -> Prop} (I : ay X pins σ H s) (e : H a = some (.ins C dx fs)) (c : kS X.K C) (n : gb X.K C f) (hl : fs.length < 1000) (ry : bw y u)
  (h : ∀ s',ay X pins σ (upd H a (.ins C dx (cW f y fs))) s' -> Q () s') : wpAny (model X.prog X.w) A (setAttr (.ref a) f u) Q E s := by
 obtain ⟨mA,O,r,wi,_,ho⟩ := uT I.hok e; have hz : (fs.map (·.1)).length <= sizeLine := by rw [List.length_map,sizeLine_eq]; omega
 refine aca I.kIn O c.sa c.po n.taker c.hd wi hz fun h' O' sb => h _ ?_
 have hd : ∃ o,h'.get? dx = some o := let ⟨o,_,_,e',_⟩ := O'.ns; ⟨o,e'⟩; refine I.write (x := a) (e := dx) (by rw [e]; exact True.intro) (.inr ho) (fun b q hb z => (sb.2 b hb).trans z) hd ?_; refine ⟨by rw [aK O.ne]; exact ho,?_,O.ne,O'.obj,_,O'.ns,fun g => ?_,fun g hg => ?_⟩
 ·have := sr f y fs; omega
 ·show oa ((cW f y fs).lookup g) (if g = f then some u else mA g); rw [gJ]
  by_cases q : g = f
  ·rw [if_pos q,if_pos q]; exact ry
  ·rw [if_neg q,if_neg q]; exact r g
 ·by_cases q : g = f
  ·rw [q]; exact (qb f y fs).1
  ·refine (qb f y fs).2 g (wi g fun z => hg ?_); show (if g = f then some u else mA g) = none; rw [if_neg q]; exact z
theorem ay.made (I : ay X pins σ H s) : ay X pins σ (upd (upd H s.heap.objs.size (.own (s.heap.objs.size + 1))) (s.heap.objs.size + 1) (.ins C s.heap.objs.size []))
  { s with heap := (s.heap.push PySem.W.emptyDict).push (PySem.W.instObj C s.heap.objs.size) } := by
 have e1 : (s.heap.push PySem.W.emptyDict).get? s.heap.objs.size = some PySem.W.emptyDict := Heap.get?_push_size s.heap rfl
 have e2 : ((s.heap.push PySem.W.emptyDict).push (PySem.W.instObj C s.heap.objs.size)).get? (s.heap.objs.size + 1) = some (PySem.W.instObj C s.heap.objs.size) := by
  have := Heap.get?_push_size (s.heap.push PySem.W.emptyDict) (o := PySem.W.instObj C s.heap.objs.size) rfl
  rwa [Heap.size_push] at this
 have e3 : (s.heap.push PySem.W.emptyDict).Ns s.heap.objs.size (fun _ => none) := ⟨PySem.W.emptyDict,#[],_,e1,rfl,(fun e he => absurd he (by simp)),fun _ => rfl⟩; have I1 := I.laid (a := s.heap.objs.size) (o := .own (s.heap.objs.size + 1)) (h' := s.heap.push PySem.W.emptyDict) (t' := s.toks) (fun b u q => Heap.get?_push_of_some _ q) (Nat.le_refl _) ⟨_,e1⟩; refine I1.laid (a := s.heap.objs.size + 1) (o := .ins C s.heap.objs.size []) (t' := s.toks) (fun b u q => Heap.get?_push_of_some _ q) (Nat.le_of_eq (Heap.size_push _ _)) ?_; have ne : s.heap.objs.size ≠ s.heap.objs.size + 1 := Nat.ne_of_lt (Nat.lt_succ_self _); refine ⟨by rw [aK ne,am],Nat.zero_le _,ne,e2,fun _ => none,(Heap.Ns1.of_empty e3).at fun o q => Heap.get?_push_of_some _ q,fun _ => True.intro,fun y hy => absurd rfl hy⟩
theorem ach {prog : Program} {w : World} {env : Env} {e : Expr} {f : Str} {pos : Pos} {s : Shared} {Q : Value -> Shared -> Prop} (hb : attributeBase e f env (eval e env) = eval e env)
  (h : wpAny (model prog w) A (eval e env) (fun o s₁ => wpAny (model prog w) A (getAttr o f true) Q E s₁) E s) : wpAny (model prog w) A (eval (.Attribute e f pos) env) Q E s :=
 Attribute_any_ h (by rw [arm_eval_Attribute,hb])
end
def acq (K : Fg) (ta : TE) (f : Str) : TE := fun σ H Q => ta σ H fun x H1 => ∃ a C dx fs v,x = .ref a /\ H1 a = some (.ins C dx fs) /\ kS K C /\ gb K C f /\ fs.lookup f = some v /\ Q v H1
def adR (K : Fg) (ta tv : TE) (f : Str) : TS := fun D σ H => tv σ H fun y H1 => ta σ H1 fun x H2 => ∃ a C dx fs,x = .ref a /\ H2 a = some (.ins C dx fs) /\ kS K C /\ gb K C f /\ fs.length < 1000 ∧
 D.nx σ (upd H2 a (.ins C dx (cW f y fs)))
section
variable {X : Cx} {o e value : Expr} {f : Str} {pos pos' tpos : Pos} {ta tv : TE}
theorem aD (he : PE X e ta) (hb : attributeBase e f X.env (eval e X.env) = eval e X.env) : PE X (.Attribute e f pos) (acq X.K ta f) := by
 intro pins s σ H Q I h; refine ach hb (bp (he pins s σ H _ I h) fun u s1 ⟨x,H1,I1,rx,a,C,dx,fs,v,ex,ea,c,n,l,q⟩ => ?_); subst ex; obtain rfl : u = Value.ref a := rx; exact zK I1 ea c n l fun u' s2 I2 ru => ⟨v,H1,I2,ru,q⟩
theorem lu (ha : PE X o ta) (hv : PE X value tv) (hs : swapsWith value (some (.Attribute o f pos')) pos.line X.env = pure false) : PS X (.Assign [.Attribute o f pos'] value pos) (adR X.K ta tv f) := by
 intro pins s σ H D I h; refine plainObj_wpAny_Assign_Attribute (bp (hv pins s σ H _ I h) fun u s1 ⟨y,H1,I1,ry,q⟩ => bp (ha pins s1 σ H1 _ I1 q) fun ov s2 ⟨x,H2,I2,rx,a,C,dx,fs,ex,ea,c,n,l,q2⟩ => ?_) hs; subst ex; obtain rfl : ov = Value.ref a := rx; exact zC I2 ea c n l ry fun s3 I3 => ⟨σ,_,I3,q2⟩
end
structure bN (k : Nat) (A : Around) : Prop where
 hd : A.handled = none
 dp : A.depth + 3 * k + 5 < recursionLimit
 un : A.units + 16 * k + 200 < cLine
theorem bN.mono {j k : Nat} {A : Around} (r : bN k A) (h : j <= k) : bN j A := ⟨r.hd,by have := r.dp; omega,by have := r.un; omega⟩
theorem bN.deeper {k : Nat} {A : Around} (r : bN (k + 1) A) (env : Env) : bN k (A.deeper env) :=
 ⟨r.hd,by have := r.dp; show A.depth + 1 + 3 * k + 5 < _; omega,by have := r.un; show A.units + 3 + 16 * k + 200 < _; omega⟩
theorem zR {A : Around} {C : Addr} {us : List Value} {kw : List (Str × Value)} : (A.under (.builtin "type.__call__" ⟨.ref C :: us,kw⟩)).depth = A.depth + 1 := by
 first | rfl | simp [Around.under,Code.weight,Code.isCreation,Code.isGuard,Code.isCaller,Code.frames,Code.isFrame,guardIds]
theorem zM {A : Around} {C : Addr} {us : List Value} {kw : List (Str × Value)} : (A.under (.builtin "type.__call__" ⟨.ref C :: us,kw⟩)).units = A.units + 1 := by
 first | rfl | simp [Around.under,Code.cUnits,Code.frames,Code.isFrame]
theorem bN.make {k : Nat} {A : Around} (r : bN (k + 1) A) (C : Addr) (us : List Value) (kw : List (Str × Value)) : bN k (A.under (.builtin "type.__call__" ⟨.ref C :: us,kw⟩)) :=
 ⟨r.hd,by have := r.dp; rw [zR]; omega,by have := r.un; rw [zM]; omega⟩
theorem bN.depth {k : Nat} {A : Around} (r : bN k A) : A.depth < recursionLimit := by have := r.dp; omega
theorem bN.units {k : Nat} {A : Around} (r : bN k A) : A.units + 64 < cLine := by have := r.un; omega
def uI : TA := fun _ H Q => Q [] H
def abH (ta : TE) (tr : TA) : TA := fun σ H Q => ta σ H fun x H1 => tr σ H1 fun xs H2 => Q (x :: xs) H2
section
variable {X : Cx} {e : Expr} {es : List Expr} {te : TE} {t : TA} {pos : Pos}
theorem ac : PA X [] uI := fun _ _ _ _ H Q I h => Calls.spliced_nil ⟨[],H,I,.nil,h⟩
theorem ab (ha : PE X e te) (hr : PA X es t) (hs : starEach (e :: es) X.env = (false,eval e X.env) :: starEach es X.env := by rfl) : PA X (e :: es) (abH te t) := by
 intro pos pins s σ H Q I h; rw [hs]; show wpAny _ _ (spliced ((false,eval e X.env) :: backTo pos (starEach es X.env))) _ _ s; refine Calls.spliced_cons (bp (ha pins s σ H _ I h) fun u s1 ⟨x,H1,I1,r1,q1⟩ => ?_); exact bp (hr pos pins s1 σ H1 _ I1 q1) fun us s2 ⟨xs,H2,I2,r2,q2⟩ => ⟨x :: xs,H2,I2,.cons r1 r2,q2⟩
def ad5 (t : TA) : TE := fun σ H Q => t σ H fun xs H1 => xs.length <= sizeLine /\ ∀ p,H1 p = none -> Q (.ref p) (upd H1 p (.tup xs))
def adP (t : TA) : TE := fun σ H Q => t σ H fun xs H1 => xs.length <= sizeLine /\ ∀ p,H1 p = none -> Q (.ref p) (upd H1 p (.lst xs))
theorem acs {x1} (h : PA X es t) : PE X (.Tuple es x1 pos) (ad5 t) := by
 intro pins s σ H Q I hq; refine wpAny_Tuple_spliced (bp (h pos pins s σ H _ I hq) fun us s1 ⟨xs,H1,I1,r,z,q⟩ => ⟨by rw [← r.length]; exact z,?_⟩); have hf : H1 s1.heap.objs.size = none := I1.hok.fresh (Nat.le_refl _); refine ⟨.ref s1.heap.objs.size,upd H1 s1.heap.objs.size (.tup xs),I1.laid (t' := s1.toks) (fun b u e => Heap.get?_push_of_some _ e) (Nat.le_refl _) ?_,rfl,q _ hf⟩; exact ⟨z,us,r,⟨_,Heap.get?_push_size _ rfl,rfl,_,rfl⟩⟩
theorem az (h : PA X es t) : PE X (.List es pos) (adP t) := by
 intro pins s σ H Q I hq; refine wpAny_List_spliced (bp (h pos pins s σ H _ I hq) fun us s1 ⟨xs,H1,I1,r,z,q⟩ => ⟨by rw [← r.length]; exact z,?_⟩); have hf : H1 s1.heap.objs.size = none := I1.hok.fresh (Nat.le_refl _); refine ⟨.ref s1.heap.objs.size,upd H1 s1.heap.objs.size (.lst xs),I1.laid (t' := s1.toks) (fun b u e => Heap.get?_push_of_some _ e) (Nat.le_refl _) ?_,rfl,q _ hf⟩; exact ⟨z,us,0,r,Heap.get?_push_size _ rfl⟩
end
abbrev Sp := List V -> Hp -> VK -> XK -> Prop
abbrev p0 := List Env -> Hp -> Shared -> XK -> Value -> Shared -> Prop
structure sN (P : Program) (w : World) (K : Fg) (mg : Str -> Option Value) (base : Heap) (A : Around) (outer : List Env) (s : Shared) (H : Hp) : Prop where
 frames : A.frames = some outer
 mod : Mod K mg base
 bs : ∀ b o,base.get? b = some o -> s.heap.get? b = some o /\ H b = none
 bsz : base.objs.size <= s.heap.objs.size
 funs : s.heap.FunFrames base outer
 frf : ∀ b ∈ qd outer,H b = none
 hok : d4 P w H s.heap
 bare : AllBare s.gens
def CE (outer : List Env) (P : Program) (w : World) (H : Hp) (s : Shared) (Q : VK) (u : Value) (s' : Shared) : Prop :=
 ∃ v H',s'.os = s.os /\ AllBare s'.gens /\ Un (qd outer) [] H H' s.heap s'.heap /\ d4 P w H' s'.heap /\ bw v u /\ Q v H'
def CR (CX : p0) (outer : List Env) (P : Program) (w : World) (H : Hp) (s : Shared) (Q : VK) (E : XK) (r : Result) (s' : Shared) : Prop :=
 match r with
 | .ok (.ret u) => CE outer P w H s Q u s'
 | .ok _ => False
 | .error e => CX outer H s E e s'
structure fR (P : Program) (w : World) (K : Fg) (mg : Str -> Option Value) (base : Heap) (CX : p0) (k : Nat) (f : Addr) (fd : FuncData) (ps : List Str) (sp : Sp) : Prop where
 len : ∀ vs H Q E,sp vs H Q E -> vs.length = ps.length
 run : ∀ (A : Around) (outer : List Env) (s : Shared) (H : Hp) (args : Args) (us : List Value) (vs : List V) (Q : VK) (E : XK),bN k A -> sN P w K mg base A outer s H -> BindsTo s fd args (ps.zip us) -> aL vs us -> sp vs H Q E →
  codeAny (model P w) A (.call (.ref f) args) (CR CX outer P w H s Q E) s
theorem sN.make {P : Program} {w : World} {K : Fg} {mg : Str -> Option Value} {base : Heap} {A : Around} {outer : List Env} {s : Shared} {H : Hp} (e : sN P w K mg base A outer s H) (C : Addr) (us : List Value) (kw : List (Str × Value)) :
  sN P w K mg base (A.under (.builtin "type.__call__" ⟨.ref C :: us,kw⟩)) outer s H := ⟨by first | exact e.frames | (simpa [Around.under,Code.envs,Code.isFrame,pushEnvs] using e.frames),e.mod,e.bs,e.bsz,e.funs,e.frf,e.hok,e.bare⟩
section
variable {X : Cx} {pins : List (Addr × Obj)} {σ : St} {H : Hp} {s s' : Shared}
theorem ay.env0 (I : ay X pins σ H s) : sN X.prog X.w X.K X.mg X.base X.A X.stack s H :=
 ⟨I.ok.frames,I.ok.mod,I.bs,Nat.le_trans I.ok.bsz I.sz,I.stack,I.stkFree,I.hok,I.bare⟩
theorem ay.after {Q : VK} {u : Value} (I : ay X pins σ H s) (h : CE X.stack X.prog X.w H s Q u s') : EP X pins σ Q u s' := by
 obtain ⟨v,H',os,bare,un,hok,r,q⟩ := h; obtain ⟨hh,g,d,t,os'⟩ := s'; obtain rfl : os' = s.os := os; exact ⟨v,H',I.call (h' := hh) (g' := g) (d' := d) (t' := t) (ch := []) un hok bare (fun b z => absurd z (by simp)),r,q⟩
end
def tK (sp : Sp) (dvs : List V) (E : XK) (t : TA) : TE := fun σ H Q => t σ H fun vs H1 => sp (vs ++ dvs) H1 Q E
def wj (C : Addr) (m : Str) (sp : Sp) (dvs : List V) (E : XK) (ta : TE) (t : TA) : TE := fun σ H Q => ta σ H fun x H1 => ∃ a dx fs,x = .ref a /\ H1 a = some (.ins C dx fs) /\ fs.lookup m = none ∧
 t σ H1 fun vs H2 => sp (x :: (vs ++ dvs)) H2 Q E
def zA (C : Addr) (sp : Sp) (dvs : List V) (E : XK) (t : TA) : TE := fun σ H Q => t σ H fun vs H1 => ∀ x dx,H1 x = none -> H1 dx = none -> dx ≠ x →
 sp (.ref x :: (vs ++ dvs)) (upd (upd H1 dx (.own x)) x (.ins C dx [])) (fun v H2 => v = .non /\ Q (.ref x) H2) E
def eD (K : Fg) (fd : FuncData) (ps : List Str) (ds : List Value) : Prop :=
 ∀ (s : Shared) (us : List Value),K.In s.heap -> (us ++ ds).length = ps.length -> BindsTo s fd ⟨us,[]⟩ (ps.zip (us ++ ds))
theorem eD.all {K : Fg} {fd : FuncData} {ps : List Str} (h : ∀ us : List Value,us.length = ps.length -> bindArgs fd ⟨us,[]⟩ = pure (ps.zip us)) : eD K fd ps [] := fun s us _ hl => by
 rw [List.append_nil] at hl ⊢; exact .of_eq (h us hl)
def j3 (CX : p0) (X : Cx) (E : XK) : Prop := ∀ (pins : List (Addr × Obj)) (σ : St) (H : Hp) (s : Shared) (e : Value) (s' : Shared),ay X pins σ H s -> CX X.stack H s E e s' -> X.xe e s'
section
variable {X : Cx} {CX : p0} {k : Nat} {f C : Addr} {fd : FuncData} {ps : List Str} {sp : Sp} {dvs : List V} {ds : List Value} {E : XK} {x m : Str} {p pos apos : Pos} {e o : Expr} {es : List Expr} {ta : TE} {t : TA}
theorem uw {pins : List (Addr × Obj)} {σ : St} {H : Hp} {s : Shared} {Q : VK} {us : List Value} {vs : List V} (F : fR X.prog X.w X.K X.mg X.base CX k f fd ps sp) (hr : bN k X.A) (hb : eD X.K fd ps ds) (hd : aL dvs ds) (hx : j3 CX X E)
  (I : ay X pins σ H s) (r : aL vs us) (h : sp (vs ++ dvs) H Q E) : wpAny (model X.prog X.w) X.A (call (.ref f) us) (EP X pins σ Q) X.xe s := by
 have r2 : aL (vs ++ dvs) (us ++ ds) := r.append hd; have hl : (us ++ ds).length = ps.length := by rw [← r2.length]; exact F.len _ _ _ _ h
 refine wpAny_call (codeAny_mono (F.run X.A X.stack s H ⟨us,[]⟩ (us ++ ds) (vs ++ dvs) Q E hr I.env0 (hb s us I.kIn hl) r2 h) fun r s' hq => ?_)
 cases r with
 | error e => exact hx pins σ H s e s' I hq
 | ok fl =>
  cases fl with
  | ret u => exact I.after hq
  | next => exact False.elim hq
  | brk => exact False.elim hq
  | cont => exact False.elim hq
theorem ab0 (F : fR X.prog X.w X.K X.mg X.base CX k f fd ps sp) (hr : bN k X.A) (hg : Gl X x) (hm : X.mg x = some (.ref f)) (hk : PySem.W.keepIn X.K (.ref f) = true) (hb : eD X.K fd ps ds) (hd : aL dvs ds) (hx : j3 CX X E)
  (ha : PA X (e :: es) t) (hdb : (x == ("__debug__" : Str)) = false := by decide) (he : starEach (e :: es) X.env = (false,eval e X.env) :: starEach es X.env := by rfl) (hpl : (backTo pos (starEach es X.env)).any (·.1) = false := by rfl) :
  PE X (.Call (.Name x p) (e :: es) [] pos) (tK sp dvs E t) := by
 intro pins s σ H Q I h; refine wpAny_Call_Name_kw (rK I hg hm ?_ hdb); refine PySem.W.callWith_K (h₀ := X.base) I.ok.mod.kin hk (bp (ha pos pins s σ H _ I h) fun us s1 ⟨vs,H1,I1,r,q⟩ => ⟨I1.kIn,?_⟩) he hpl; exact uw F hr hb hd hx I1 r q
theorem aaS (F : fR X.prog X.w X.K X.mg X.base CX k f fd ps sp) (hr : bN k X.A) (hg : Gl X x) (hm : X.mg x = some (.ref f)) (hk : PySem.W.keepIn X.K (.ref f) = true) (hb : eD X.K fd ps ds) (hd : aL dvs ds) (hx : j3 CX X E)
  (hdb : (x == ("__debug__" : Str)) = false := by decide) : PE X (.Call (.Name x p) [] [] pos) (tK sp dvs E uI) := by
 intro pins s σ H Q I h; refine wpAny_Call_Name_kw (rK I hg hm ?_ hdb); exact PySem.W.callWith_K0 I.kIn hk (uw (us := []) F hr hb hd hx I .nil h)
theorem abZ {pl : Sem Bool} (he : PE X o ta) (c : kS X.K C) (hm : wt X.K C m f) (F : fR X.prog X.w X.K X.mg X.base CX k f fd ps sp) (hr : bN k X.A) (hb : eD X.K fd ps ds) (hd : aL dvs ds) (hx : j3 CX X E) (ha : PA X (e :: es) t)
  (hst : starEach (e :: es) X.env = (false,eval e X.env) :: starEach es X.env := by rfl) (hpl : (backTo pos (starEach es X.env)).any (·.1) = false := by rfl)
  (ht : eval (.Call (.Attribute o m apos) (e :: es) [] pos) X.env = (do
   let ov ← eval o X.env
   standAt apos.atName
   let (f,first) ← holding [ov] (getMethod ov m pl)
   callWith pos f first (backTo pos (starEach (e :: es) X.env)) (backToKw pos (keywordEach [] X.env))) := by rfl) :
  PE X (.Call (.Attribute o m apos) (e :: es) [] pos) (wj C m sp dvs E ta t) := by
 intro pins s σ H Q I h; refine PySem.W.methodCall_KW (pl := pl) (bp (he pins s σ H _ I h) fun u s1 ⟨x,H1,I1,rx,a,dx,fs,ex,ea,l,q⟩ => ?_) ht; subst ex; obtain rfl : u = Value.ref a := rx; refine tG I1 ea c hm l ?_; refine PySem.W.callWith_K (first := [.ref a]) (h₀ := X.base) I.ok.mod.kin hm.kp (bp (ha pos pins s1 σ H1 _ I1 q) fun us s2 ⟨vs,H2,I2,r,q2⟩ => ⟨I2.kIn,?_⟩) hst hpl; exact uw (us := .ref a :: us) (vs := .ref a :: vs) F hr hb hd hx I2 (.cons rfl r) q2
theorem aa2 {pl : Sem Bool} (he : PE X o ta) (c : kS X.K C) (hm : wt X.K C m f) (F : fR X.prog X.w X.K X.mg X.base CX k f fd ps sp) (hr : bN k X.A) (hb : eD X.K fd ps ds) (hd : aL dvs ds) (hx : j3 CX X E)
  (ht : eval (.Call (.Attribute o m apos) [] [] pos) X.env = (do
   let ov ← eval o X.env
   standAt apos.atName
   let (f,first) ← holding [ov] (getMethod ov m pl)
   callWith pos f first (backTo pos (starEach [] X.env)) (backToKw pos (keywordEach [] X.env))) := by rfl) :
  PE X (.Call (.Attribute o m apos) [] [] pos) (wj C m sp dvs E ta uI) := by
 intro pins s σ H Q I h; refine PySem.W.methodCall_KW (pl := pl) (bp (he pins s σ H _ I h) fun u s1 ⟨x,H1,I1,rx,a,dx,fs,ex,ea,l,q⟩ => ?_) ht; subst ex; obtain rfl : u = Value.ref a := rx; refine tG I1 ea c hm l ?_; exact PySem.W.callWith_K0 (first := [.ref a]) I1.kIn hm.kp (uw (us := [.ref a]) (vs := [.ref a]) F hr hb hd hx I1 (.cons rfl .nil) q)
structure Mk (K : Fg) (C f : Addr) : Prop where
 makes : PySem.W.makesIn K C = true
 init : PySem.W.findIn K (.ref C) "__init__" = some (some (.ref f))
 fn : PySem.W.isFn K (.ref f) = true
 kp : PySem.W.keepIn K (.ref C) = true
theorem aaT {pins : List (Addr × Obj)} {σ : St} {H : Hp} {s : Shared} {Q : VK} {us : List Value} {vs : List V} (M : Mk X.K C f) (F : fR X.prog X.w X.K X.mg X.base CX k f fd ps sp) (hr : bN (k + 1) X.A) (hb : eD X.K fd ps ds) (hd : aL dvs ds)
  (hx : j3 CX X E) (I : ay X pins σ H s) (r : aL vs us)
  (h : ∀ x dx,H x = none -> H dx = none -> dx ≠ x -> sp (.ref x :: (vs ++ dvs)) (upd (upd H dx (.own x)) x (.ins C dx [])) (fun v H2 => v = .non /\ Q (.ref x) H2) E) :
  wpAny (model X.prog X.w) X.A (call (.ref C) us) (EP X pins σ Q) X.xe s := by
 have hq := h (s.heap.objs.size + 1) s.heap.objs.size (I.hok.fresh (Nat.le_succ _)) (I.hok.fresh (Nat.le_refl _)) (Nat.ne_of_lt (Nat.lt_succ_self _)); have I2 := ay.made (C := C) I; have r2 : aL (V.ref (s.heap.objs.size + 1) :: (vs ++ dvs)) (Value.ref (s.heap.objs.size + 1) :: (us ++ ds)) := .cons rfl (r.append hd)
 have hl : (Value.ref (s.heap.objs.size + 1) :: us ++ ds).length = ps.length := by
  have e := r2.length; rw [F.len _ _ _ _ hq] at e; exact e.symm
 refine wpAny_call (abz (f := f) I.kIn M.makes M.init (beq_iff_eq.mp M.fn) (codeAny_mono (F.run _ X.stack _ _ ⟨Value.ref (s.heap.objs.size + 1) :: us,[]⟩ (Value.ref (s.heap.objs.size + 1) :: (us ++ ds)) _ _ E (hr.make C us [])
  (I2.env0.make C us []) (hb _ (Value.ref (s.heap.objs.size + 1) :: us) I2.kIn hl) r2 hq) fun r s' hq' => ?_))
 cases r with
 | error e => exact hx pins σ _ _ e s' I2 hq'
 | ok fl =>
  cases fl with
  | ret u =>
   obtain ⟨v,H',I3,rv,ev,q3⟩ := I2.after hq'; subst ev; exact ⟨rv,⟨V.ref (s.heap.objs.size + 1),H',I3,rfl,q3⟩⟩
  | next => exact False.elim hq'
  | brk => exact False.elim hq'
  | cont => exact False.elim hq'
theorem ab5 (M : Mk X.K C f) (F : fR X.prog X.w X.K X.mg X.base CX k f fd ps sp) (hr : bN (k + 1) X.A) (hg : Gl X x) (hm : X.mg x = some (.ref C)) (hb : eD X.K fd ps ds) (hd : aL dvs ds) (hx : j3 CX X E)
  (ha : PA X (e :: es) t) (hdb : (x == ("__debug__" : Str)) = false := by decide) (he : starEach (e :: es) X.env = (false,eval e X.env) :: starEach es X.env := by rfl) (hpl : (backTo pos (starEach es X.env)).any (·.1) = false := by rfl) :
  PE X (.Call (.Name x p) (e :: es) [] pos) (zA C sp dvs E t) := by
 intro pins s σ H Q I h; refine wpAny_Call_Name_kw (rK I hg hm ?_ hdb); refine PySem.W.callWith_K (h₀ := X.base) I.ok.mod.kin M.kp (bp (ha pos pins s σ H _ I h) fun us s1 ⟨vs,H1,I1,r,q⟩ => ⟨I1.kIn,?_⟩) he hpl; exact aaT M F hr hb hd hx I1 r q
end
structure aq (N P : List Str) (sc : Scope) : Prop where
 kind : sc.kind = .function
 co : sc.isCoroutine = false
 gen : sc.isGenerator = false
 nd : N.Nodup
 pre : N.take P.length = P
 par : ∀ x ∈ P,sc.names.lookup x = some .local \/ sc.names.lookup x = some .cell
 nofree : ∀ y ∈ sc.names,y.2 ≠ .free
theorem vF {kindOf : Str -> Option NameKind} {x : Str} : ∀ {binds : List (Str × Value)} {m : Str -> Option Value},(∀ v,(x,v) ∉ binds) -> bindL kindOf binds m x = m x
 | [],_,_ => rfl
 | (n,v) :: r,m,h => by
  unfold bindL; rw [vF fun w hw => h w (List.mem_cons_of_mem _ hw)]
  split
  ·have : x ≠ n := by rintro rfl; exact h v List.mem_cons_self
   simp [this]
  ·rfl
theorem vP {kindOf : Str -> Option NameKind} {x : Str} : ∀ {binds : List (Str × Value)} {m : Str -> Option Value},(∀ v,(x,v) ∉ binds) -> bindC kindOf binds m x = m x
 | [],_,_ => rfl
 | (n,v) :: r,m,h => by
  unfold bindC; rw [vP fun w hw => h w (List.mem_cons_of_mem _ hw)]
  split
  ·rfl
  ·have : x ≠ n := by rintro rfl; exact h v List.mem_cons_self
   simp [this]
theorem vt {kindOf : Str -> Option NameKind} {x : Str} {v : Value} : ∀ {P : List Str} {vs : List Value} {i : Nat} {m : Str -> Option Value},P.Nodup -> P[i]? = some x -> vs[i]? = some v -> kindOf x = some .local →
  bindL kindOf (P.zip vs) m x = some v
 | [],_,_,_,_,h,_,_ => by simp at h
 | _ :: _,[],_,_,_,_,h,_ => by simp at h
 | p :: P,w :: vs,0,m,nd,h1,h2,hk => by
  simp at h1 h2; subst h1; subst h2; show bindL kindOf ((p,w) :: P.zip vs) m p = _; unfold bindL; rw [vF fun v hv => (List.nodup_cons.mp nd).1 (List.of_mem_zip hv).1,if_pos hk]
  simp
 | p :: P,w :: vs,i + 1,m,nd,h1,h2,hk => by
  show bindL kindOf ((p,w) :: P.zip vs) m x = _; unfold bindL; exact vt (i := i) (List.nodup_cons.mp nd).2 (by simpa using h1) (by simpa using h2) hk
theorem vO {kindOf : Str -> Option NameKind} {x : Str} {v : Value} : ∀ {P : List Str} {vs : List Value} {i : Nat} {m : Str -> Option Value},P.Nodup -> P[i]? = some x -> vs[i]? = some v -> kindOf x ≠ some .local →
  bindC kindOf (P.zip vs) m x = some v
 | [],_,_,_,_,h,_,_ => by simp at h
 | _ :: _,[],_,_,_,_,h,_ => by simp at h
 | p :: P,w :: vs,0,m,nd,h1,h2,hk => by
  simp at h1 h2; subst h1; subst h2; show bindC kindOf ((p,w) :: P.zip vs) m p = _; unfold bindC; rw [vP fun v hv => (List.nodup_cons.mp nd).1 (List.of_mem_zip hv).1,if_neg hk]
  simp
 | p :: P,w :: vs,i + 1,m,nd,h1,h2,hk => by
  show bindC kindOf ((p,w) :: P.zip vs) m x = _; unfold bindC; exact vO (i := i) (List.nodup_cons.mp nd).2 (by simpa using h1) (by simpa using h2) hk
def start (N : List Str) (vs : List V) : St := vs.map some ++ List.replicate (N.length - vs.length) none
def o5 (CX : p0) (P : Program) (w : World) (K : Fg) (mg : Str -> Option Value) (base : Heap) (N : List Str) (qual : Str) (scope : Scope) (f : Addr) (cd : Value) (A : Around) (outer : List Env) (s : Shared) (H : Hp) (E : XK) : Cx where
 prog := P
 w := w
 K := K
 mg := mg
 base := base
 A := A.deeper (envOfC qual scope s.heap.objs.size f cd)
 N := N
 s_0 := s
 H_0 := H
 env := envOfC qual scope s.heap.objs.size f cd
 outer := outer
 stack := envOfC qual scope s.heap.objs.size f cd :: outer
 ex := []
 calm := true
 fn := fun _ => true
 pn := []
 xe := fun e s' => wpAny (model P w) (A.deeper (envOfC qual scope s.heap.objs.size f cd)) (leaving (envOfC qual scope s.heap.objs.size f cd) e) (fun _ s'' => CX outer H s E e s'') (fun e' s'' => CX outer H s E e' s'') s'
theorem wG {sc : Scope} {n : Nat} {x : Str} (h : sc.names.lookup x = some .cell) : ∃ c,(cellsFrom n sc.names []).lookup x = some c := by
 have q := PySem.W.cellsFrom_some sc.names n [] (.inl h); exact Option.isSome_iff_exists.mp q
theorem aap {CX : p0} {P : Program} {w : World} {K : Fg} {mg : Str -> Option Value} {base : Heap} {N ps : List Str} {qual : Str} {scope : Scope} {f : Addr} {cd : Value} {A : Around} {outer : List Env} {s s1 : Shared} {H : Hp} {E : XK} {us : List Value} {vs : List V}
  (S : aq N ps scope) (hd : A.handled = none) (e0 : sN P w K mg base A outer s H) (hl : vs.length = ps.length) (r : aL vs us)
  (x : InCallC s s.heap.objs.size (bindL (envOfC qual scope s.heap.objs.size f cd).kindOf (ps.zip us) fun _ => none) (cellsFrom (s.heap.objs.size + 1) scope.names []) (bindC (envOfC qual scope s.heap.objs.size f cd).kindOf (ps.zip us) fun _ => none) s1) :
  ay (o5 CX P w K mg base N qual scope f cd A outer s H E) [] (start N vs) H s1 := by
 have hpl : ps.length <= N.length := by have := congrArg List.length S.pre; rw [List.length_take] at this; omega
 obtain ⟨h1,tk,rfl,hk⟩ := x.done; have noA : ∀ b : Addr,b ∉ (o5 CX P w K mg base N qual scope f cd A outer s H E).ex := fun b z => absurd (show b ∈ ([] : List Addr) from z) (by simp)
 refine ⟨⟨e0.mod,S.kind,rfl,rfl,Nat.le_refl _,fun y z c h1 h2 => ?_,fun y hy => ?_,fun y c _ h => ?_,fun _ => hd,Around.frames_deeper e0.frames,.inr ⟨rfl,rfl⟩,fun b z => absurd z (noA b),e0.bs,e0.bsz,fun b _ _ => noA b,fun b z => absurd z (noA b),e0.funs,e0.frf⟩,
  rfl,e0.bare,Un.kept hk,⟨_,x.toInCall.ns,fun i y v h1 h2 h3 => ?_⟩,fun y c h => ⟨_,x.cell y c h⟩,e0.hok.fresh (Nat.le_refl _),fun y c h => ?_,fun p hp => absurd (show p ∈ ([] : List (Addr × Obj)) from hp) (by simp),e0.hok.kept hk,?_⟩
 ·exact name_of_addr x.apart (PySem.mem_of_lookup h1) (PySem.mem_of_lookup h2)
 ·have hy : scope.names.lookup y = some .cell \/ scope.names.lookup y = some .free := hy
  rcases hy with hy | hy
  ·exact wG hy
  ·exact absurd rfl (S.nofree _ (PySem.mem_of_lookup hy))
 ·exact Nat.le_of_lt (x.above y c (PySem.mem_of_lookup h))
 ·have hi : i < vs.length := by
   unfold start at h2
   by_cases hi : i < vs.length
   ·exact hi
   ·rw [List.getElem?_append_right (by simpa using hi)] at h2; rw [List.getElem?_replicate] at h2
    split at h2 <;> cases h2
  have ha : vs[i]? = some v := by
   unfold start at h2; rw [List.getElem?_append_left (by simpa using hi),List.getElem?_map] at h2
   cases e : vs[i]? with
   | none => rw [e] at h2; cases h2
   | some a => rw [e] at h2; cases h2; rfl
  obtain ⟨u,hu,rv⟩ := r.get ha
  have hp : ps[i]? = some y := by
   rw [← S.pre,List.getElem?_take_of_lt (by omega)]; exact h1
  have ndP : ps.Nodup := by rw [← S.pre]; exact S.nd.sublist (List.take_sublist _ _)
  refine ⟨u,rv,?_⟩
  rcases S.par y (List.mem_of_getElem? hp) with k | k
  ·exact .inl ⟨k,vt ndP hp hu k⟩
  ·obtain ⟨c,e⟩ := wG (n := s.heap.objs.size + 1) k; refine .inr ⟨.inl k,c,e,?_⟩; have q := x.cell y c e; rw [vO ndP hp hu (by show scope.names.lookup y ≠ _; rw [k]; decide)] at q; exact q
 ·exact e0.hok.fresh (Nat.le_of_lt (x.above y c (PySem.mem_of_lookup h)))
 ·unfold start; show _ = N.length; rw [List.length_append,List.length_map,List.length_replicate]; omega
theorem ac1 {CX : p0} {P : Program} {w : World} {K : Fg} {mg : Str -> Option Value} {base : Heap} {k : Nat} {f : Addr} {name qual : Str} {params : Arguments} {body : List Stmt} {scope : Scope} {dV kV doc pm cdv ct oc : Value} {an od : Option Addr}
  {osl : Array (Option Value)} {N ps : List Str} {sp : Sp} (lk : K.lookup f = some ⟨oc,od,.func (PySem.W.fnOf name qual params body scope dV kV doc pm an cdv ct),osl⟩) (hcd : PySem.W.codeIn K cdv qual = true) (S : aq N ps scope)
  (len : ∀ vs H Q E,sp vs H Q E -> vs.length = ps.length)
  (hbody : ∀ (A : Around) (outer : List Env) (s : Shared) (H : Hp) (vs : List V) (Q : VK) (E : XK),bN k (A.deeper (envOfC qual scope s.heap.objs.size f cdv)) -> sp vs H Q E →
   ∃ t,kT (o5 CX P w K mg base N qual scope f cdv A outer s H E) body t /\ t { nx := fun _ H' => Q .non H',rt := Q } (start N vs) H) :
  fR P w K mg base CX (k + 1) f (PySem.W.fnOf name qual params body scope dV kV doc pm an cdv ct) ps sp := by
 refine ⟨len,fun A outer s H args us vs Q E hr e0 hb r hsp => ?_⟩; have hl := len _ _ _ _ hsp; have KX : K.In s.heap := e0.mod.kin.keeps fun b o e => (e0.bs b o e).1
 have lim : s.heap.NoLimit := e0.mod.nolimit.keeps fun b o e => (e0.bs b o e).1
 have hkind : ∀ y ∈ ps.zip us,scope.names.lookup y.1 = some .local \/ (scope.names.lookup y.1 = some .cell /\ ((cellsFrom (s.heap.objs.size + 1) scope.names []).lookup y.1).isSome = true) := fun ⟨n,v⟩ hy => by
  rcases S.par n (List.of_mem_zip hy).1 with q | q
  ·exact .inl q
  ·exact .inr ⟨q,PySem.W.cellsFrom_some _ _ _ (.inl q)⟩
 refine codeAny_call_function hr.depth (KX _ _ lk) rfl S.co S.gen rfl (PySem.W.codeRec_of KX hcd) (hb _ _ _ _ ?_); refine wpAny_newFunctionEnv_cells S.kind hkind fun env he s1 x => ?_
 subst he; refine ⟨lim.keeps x.toInCall.keep,codeAny_func ?_⟩; obtain ⟨t,ht,hq⟩ := hbody A outer s H vs Q E (hr.deeper _) hsp; have I : ay (o5 CX P w K mg base N qual scope f cdv A outer s H E) [] (start N vs) H s1 := aap S hr.hd e0 hl r x; refine wpAny_mono (ht [] s1 (start N vs) H _ I hq) (fun fl s' hs => ?_) fun e s' hs => hs
 have fin : ∀ {σ' : St} {H' : Hp} {v : V} {u : Value},ay (o5 CX P w K mg base N qual scope f cdv A outer s H E) [] σ' H' s' -> bw v u -> Q v H' -> CE outer P w H s Q u s' :=
  fun {σ' H' v u} J rv q => ⟨v,H',J.os,J.bare,J.base,J.hok,rv,q⟩
 cases fl with
 | ret u =>
  obtain ⟨v,σ',H',J,rv,q⟩ := hs; exact fin J rv q
 | next =>
  obtain ⟨σ',H',J,q⟩ := hs; exact fin (v := V.non) (u := Value.none) J rfl q
 | brk =>
  obtain ⟨_,_,_,q⟩ := hs; exact False.elim q
 | cont =>
  obtain ⟨_,_,_,q⟩ := hs; exact False.elim q
section
variable {X : Cx} {x : Str} {p pos : Pos} {e : Expr} {es : List Expr} {t : TA} {id T : String} {r : List V -> Hp -> VK -> Prop}
def tCB (r : List V -> Hp -> VK -> Prop) (t : TA) : TE := fun σ H Q => t σ H fun vs H1 => r vs H1 Q
theorem bH (hc : gg X (.builtin id) r) (hg : Gl X x) (hm : X.mg x = none) (hv : bootBuiltins x = some (.builtin id)) (ha : PA X (e :: es) t) (hn : x ≠ "__name__" := by decide) (hdb : (x == ("__debug__" : Str)) = false := by decide)
  (he : starEach (e :: es) X.env = (false,eval e X.env) :: starEach es X.env := by rfl) (hpl : (backTo pos (starEach es X.env)).any (·.1) = false := by rfl) : PE X (.Call (.Name x p) (e :: es) [] pos) (tCB r t) := by
 intro pins s σ H Q I h; refine wpAny_Call_Name_kw (j8 I hg hm hv ?_ hn hdb); exact PyProof.Rows.callWith_builtin1 (bp (ha pos pins s σ H _ I h) fun us s1 ⟨vs,H1,I1,r1,q1⟩ => hc pins s1 σ H1 vs us Q I1 r1 q1) he hpl
theorem f7 (hc : gg X (.type T) r) (hg : Gl X x) (hm : X.mg x = none) (hv : bootBuiltins x = some (.type T)) (ha : PA X (e :: es) t) (hn : x ≠ "__name__" := by decide) (hdb : (x == ("__debug__" : Str)) = false := by decide)
  (he : starEach (e :: es) X.env = (false,eval e X.env) :: starEach es X.env := by rfl) (hpl : (backTo pos (starEach es X.env)).any (·.1) = false := by rfl) : PE X (.Call (.Name x p) (e :: es) [] pos) (tCB r t) := by
 intro pins s σ H Q I h; refine wpAny_Call_Name_kw (j8 I hg hm hv ?_ hn hdb); exact PyProof.Rows.callWith_type1 (bp (ha pos pins s σ H _ I h) fun us s1 ⟨vs,H1,I1,r1,q1⟩ => hc pins s1 σ H1 vs us Q I1 r1 q1) he hpl
end
end L2
namespace HT
open PySem PyProof.Rows
section
variable {prog : Program} {w : World} {A : Around} {E : Value -> Shared -> Prop} {s : Shared}
def jV (n d : Nat) : Option Int -> Nat
 | none => d
 | some v => if v < 0 then (v + (n : Int)).toNat else min v.toNat n
theorem wP (n d : Nat) : jV n d none = d := rfl
theorem rB (n d k : Nat) : jV n d (some (k : Int)) = min k n := by
 show (if (k : Int) < 0 then ((k : Int) + (n : Int)).toNat else min (k : Int).toNat n) = min k n; rw [if_neg (by omega),Int.toNat_natCast]
end
end HT
namespace L2
open PySem PySem.Spec PyProof.Rows
abbrev TO := St -> Hp -> (Option Int -> Hp -> Prop) -> Prop
def PO (X : Cx) (e : Option Expr) (t : TO) : Prop :=
 ∀ (pins : List (Addr × Obj)) (s : Shared) (σ : St) (H : Hp) (Q : Option Int -> Hp -> Prop),ay X pins σ H s -> t σ H Q →
  wpAny (model X.prog X.w) X.A (evalPart e X.env) (fun u s' => ∃ o H',ay X pins σ H' s' /\ IsPart u o /\ Q o H') X.xe s
def acg : TO := fun _ H Q => Q none H
def adf (t : TE) : TO := fun σ H Q => t σ H fun x H1 => ∃ i,x = .int i /\ Q (some i) H1
section
variable {X : Cx} {e : Expr} {te : TE} {lo hi : Option Expr} {tl th : TO} {pos p2 : Pos}
theorem ji : PO X none acg := by
 intro pins s σ H Q I h; rw [evalPart_none]; exact wpAny_pure ⟨none,H,I,.none,h⟩
theorem eP (h : PE X e te) : PO X (some e) (adf te) := by
 intro pins s σ H Q I hw; rw [evalPart_some]; refine bp (h pins s σ H _ I hw) fun u s1 ⟨x,H1,I1,r1,q1⟩ => ?_
 obtain ⟨i,rfl,q⟩ := q1; obtain ⟨t,rfl⟩ := r1; exact ⟨some i,H1,I1,.int i t,q⟩
def SlR (X : Cx) (r : V -> Option Int -> Option Int -> Hp -> VK -> Prop) : Prop :=
 ∀ (pins : List (Addr × Obj)) (s : Shared) (σ : St) (H : Hp) (x : V) (v vl vu : Value) (lo hi : Option Int) (sl : Addr) (Q : VK),ay X pins σ H s -> bw x v -> s.heap.IsSliceOf sl vl vu .none -> IsPart vl lo -> IsPart vu hi -> r x lo hi H Q →
  ∃ T id,typeLookup (.type T) "__getitem__" = pure (some (.builtin id)) /\ s.TypeIs v T /\ wpAny (model X.prog X.w) X.A (getItem v (.ref sl)) (EP X pins σ Q) X.xe s
def tSl (r : V -> Option Int -> Option Int -> Hp -> VK -> Prop) (te : TE) (tl th : TO) : TE := fun σ H Q => te σ H fun x H1 => tl σ H1 fun l H2 => th σ H2 fun u H3 => r x l u H3 Q
theorem fg {r : V -> Option Int -> Option Int -> Hp -> VK -> Prop} (hr : SlR X r) (he : PE X e te) (hl : PO X lo tl) (hu : PO X hi th) : PE X (.Subscript e (.Slice lo hi none p2) pos) (tSl r te tl th) := by
 intro pins s σ H Q I h; refine Subscript_ (bp (he pins s σ H _ I h) fun v s1 ⟨x,H1,I1,r1,q1⟩ => ?_); refine wpAny_Slice (bp (hl pins s1 σ H1 _ I1 q1) fun vl s2 ⟨l,H2,I2,pl,q2⟩ => bp (hu pins s2 σ H2 _ I2 q2) fun vu s3 ⟨u,H3,I3,pu,q3⟩ => ?_); rw [evalPart_none]; refine wpAny_pure ?_; have I4 : ay X pins σ H3 { s3 with heap := s3.heap.push { cls := .type "slice",data := .fields #[vl,vu,.none] } } := I3.kept (t' := s3.toks) fun b ob q => Heap.get?_push_of_some _ q
 obtain ⟨T,id,hT,ht,hg⟩ := hr pins { s3 with heap := s3.heap.push { cls := .type "slice",data := .fields #[vl,vu,.none] } } σ H3 x v vl vu l u s3.heap.objs.size Q I4 r1 (Heap.IsSliceOf.new ..) pl pu q3; show wpAny (model X.prog X.w) X.A (subscriptTail e (.Slice lo hi none p2) v (.ref s3.heap.objs.size)) (EP X pins σ Q) X.xe { s3 with heap := s3.heap.push { cls := .type "slice",data := .fields #[vl,vu,.none] } }; exact tail_any (ops := [.ref s3.heap.objs.size,v]) ht hT hg (by with_unfolding_all rfl)
def eJ (xs : List V) (lo hi : Option Int) : List V := (xs.drop (HT.jV xs.length 0 lo)).take (HT.jV xs.length xs.length hi - HT.jV xs.length 0 lo)
theorem xJ (xs : List V) (lo hi : Option Int) : (eJ xs lo hi).length <= xs.length := by
 unfold eJ; rw [List.length_take,List.length_drop]; omega
end
def fT (n : Nat) (i : Int) : Option Nat := if 0 <= i then (if i < n then some i.toNat else none) else if -(n : Int) <= i then some (i + n).toNat else none
def fm {α : Type} (xs : List α) (i : Int) : Option α := (fT xs.length i).bind fun j => xs[j]?
theorem yp {n : Nat} {i : Int} {j : Nat} (h : fT n i = some j) : seqIndex? i n = some j /\ j < n /\ -(n : Int) <= i /\ i < n := by
 unfold fT at h
 by_cases h0 : 0 <= i
 ·rw [if_pos h0] at h
  by_cases h1 : i < n
  ·rw [if_pos h1] at h; have e : i.toNat = j := Option.some.inj h; exact ⟨by rw [seqIndex_of h0 h1,e],by omega,by omega,h1⟩
  ·rw [if_neg h1] at h; cases h
 ·rw [if_neg h0] at h
  by_cases h1 : -(n : Int) <= i
  ·rw [if_pos h1] at h; have e : (i + n).toNat = j := Option.some.inj h; exact ⟨by rw [seqIndex_neg (by omega) h1,e],by omega,h1,by omega⟩
  ·rw [if_neg h1] at h; cases h
theorem yi {α : Type} {xs : List α} {i : Int} {v : α} (h : fm xs i = some v) : ∃ j,seqIndex? i xs.length = some j /\ xs[j]? = some v /\ j < xs.length /\ -(xs.length : Int) <= i /\ i < xs.length := by
 unfold fm at h
 cases e : fT xs.length i with
 | none => rw [e] at h; cases h
 | some j =>
  rw [e] at h; obtain ⟨h1,h2,h3,h4⟩ := yp e; exact ⟨j,h1,h,h2,h3,h4⟩
theorem bE {α : Type} {xs : List α} {j : Nat} {v : α} (h : xs[j]? = some v) : fm xs (j : Int) = some v := by
 have hj : j < xs.length := (List.getElem?_eq_some_iff.mp h).1
 have e : fT xs.length (j : Int) = some j := by
  unfold fT; rw [if_pos (by omega),if_pos (by omega)]; simp
 unfold fm; rw [e]; exact h
theorem aaX {α : Type} (xs : List α) (v : α) : fm (xs ++ [v]) (-1) = some v := by
 have hl : (xs ++ [v]).length = xs.length + 1 := by simp
 have e : fT (xs ++ [v]).length (-1) = some xs.length := by
  unfold fT; rw [hl,if_neg (by decide),if_pos (by omega)]; congr 1; omega
 unfold fm; rw [e]; show (xs ++ [v])[xs.length]? = some v
 simp
def uX (b : Expr) : Prop := ∀ o i,subscripted b false o i = operate [o,i] (getItem o i)
def zU (X : Cx) (r : R2) : Prop :=
 ∀ (value slice : Expr) (pins : List (Addr × Obj)) (s : Shared) (σ : St) (H : Hp) (x y : V) (v u : Value) (Q : VK),ay X pins σ H s -> bw x v -> bw y u -> r x y H Q →
  subscripted slice false v u = operate [v,u] (getItem v u) -> wpAny (model X.prog X.w) X.A (subscriptTail value slice v u) (EP X pins σ Q) X.xe s
def MtR (X : Cx) (id : String) (r : V -> List V -> Hp -> VK -> Prop) : Prop :=
 ∀ (pins : List (Addr × Obj)) (s : Shared) (σ : St) (H : Hp) (x : V) (xs : List V) (v : Value) (us : List Value) (Q : VK),ay X pins σ H s -> bw x v -> aL xs us -> r x xs H Q →
  wpAny (model X.prog X.w) X.A (call (.builtin id) (v :: us)) (EP X pins σ Q) X.xe s
section
variable {X : Cx} {a b : Expr} {ta tb : TE} {pos : Pos}
theorem rA {r : R2} (hr : zU X r) (ha : PE X a ta) (hb : PE X b tb) (hs : uX b) : PE X (.Subscript a b pos) (vp r ta tb) := by
 intro pins s σ H Q I h; exact Subscript_ (aby ha hb I h fun v u s2 x y H2 I2 rx ry q => hr a b pins s2 σ H2 x y v u Q I2 rx ry q (hs _ _))
def zv (K : Fg) : R2 := fun x y H Q => ∃ p xs i v,x = .ref p /\ y = .int i /\ ag K H p xs /\ fm xs i = some v /\ Q v H
def acp (K : Fg) : R2 := fun x y H Q => ∃ p xs i v,x = .ref p /\ y = .int i /\ cG K H p xs /\ fm xs i = some v /\ Q v H
theorem yx : zU X (zv X.K) := by
 intro value slice pins s σ H x y v u Q I rx ry h hs; obtain ⟨p,xs,i,z,rfl,rfl,hq,he,q⟩ := h; cases rx; obtain ⟨t,rfl⟩ := ry; obtain ⟨its,r,pl,hz⟩ := I.list hq; obtain ⟨j,h1,h2,h3,h4,h5⟩ := yi he; obtain ⟨w,ew,rw'⟩ := r.get h2; have hl := r.length; have hn := tT; have fin : EP X pins σ Q w s := ⟨z,H,I,rw',q⟩
 by_cases h0 : 0 <= i
 ·have hj : i.toNat = j := by
   rw [seqIndex_of h0 h5] at h1; exact Option.some.inj h1
  exact item_listR pl.isList h0 (by omega) (by rw [hj]; simpa using ew) fin hs
 ·have hj : (i + (its.toArray.size : Int)).toNat = j := by
   rw [seqIndex_neg (by omega) h4] at h1; rw [List.size_toArray,← hl]; exact Option.some.inj h1
  exact subscriptTail_builtinR (x := w) pl.isList.typeIs slot_list_getitem.lookup
   (wpAny_getItem_list_neg (Q := fun r s' => r = w /\ EP X pins σ Q r s') pl.isList (by omega) (by rw [List.size_toArray] <;> omega) (by omega) (by rw [hj]; simpa using ew) ⟨rfl,fin⟩) hs
theorem t7 : zU X (acp X.K) := by
 intro value slice pins s σ H x y v u Q I rx ry h hs; obtain ⟨p,xs,i,z,rfl,rfl,hq,he,q⟩ := h; cases rx; obtain ⟨t,rfl⟩ := ry; obtain ⟨its,r,pl,hz⟩ := I.tuple hq; obtain ⟨j,h1,h2,h3,h4,h5⟩ := yi he; obtain ⟨w,ew,rw'⟩ := r.get h2; have hl := r.length; have hn := tT; have fin : EP X pins σ Q w s := ⟨z,H,I,rw',q⟩
 exact subscriptTail_builtinR (x := w) pl.typeIs slot_tuple_getitem.lookup
  (getItem_tuple (j := j) (Q := fun r s' => r = w /\ EP X pins σ Q r s') pl (by omega) (by omega) (by rw [List.size_toArray,← hl]; exact h1) (by simpa using ew) ⟨rfl,fin⟩) hs
theorem za (its : List Value) (n j : Nat) (u : Value) : Obj.mapSeq (·.setIfInBounds j u) { cls := .type "list",data := .seq its.toArray n } = { cls := .type "list",data := .seq (its.set j u).toArray n } := by
 simp [Obj.mapSeq]
theorem ay.lst {pins : List (Addr × Obj)} {σ : St} {H : Hp} {s : Shared} {p : Addr} {xs : List V} (I : ay X pins σ H s) (h : H p = some (.lst xs)) :
  ∃ (its : List Value) (n : Nat),aL xs its /\ s.heap.get? p = some { cls := .type "list",data := .seq its.toArray n } /\ xs.length <= sizeLine := by
 obtain ⟨z,its,n,r,e⟩ := I.hok p _ h; exact ⟨its,n,r,e,z⟩
theorem ay.lstUpd {pins : List (Addr × Obj)} {σ : St} {H : Hp} {s : Shared} {p : Addr} {xs ys : List V} {its its' : List Value} {n n' : Nat} {f : Obj -> Obj} (I : ay X pins σ H s) (h : H p = some (.lst xs))
  (ho : s.heap.get? p = some { cls := .type "list",data := .seq its.toArray n }) (hf : f { cls := .type "list",data := .seq its.toArray n } = { cls := .type "list",data := .seq its'.toArray n' }) (r : aL ys its') (hz : ys.length <= sizeLine) (t : Nat) :
  ay X pins σ (upd H p (.lst ys)) { s with heap := s.heap.update p f,toks := t } := by
 have e : (s.heap.update p f).get? p = some { cls := .type "list",data := .seq its'.toArray n' } := by
  rw [Heap.get?_update_self f ho (by rw [hf] <;> rfl),hf]
 refine I.write (x := p) (e := p) (by rw [h]; trivial) (.inl rfl) (fun b u hb q => (Heap.get?_update_other _ _ (Ne.symm hb)).trans q) ⟨_,e⟩ ?_; exact ⟨hz,its',n',r,e⟩
def adb : V -> V -> V -> Hp -> (Hp -> Prop) -> Prop := fun o i v H Q => ∃ p xs k j,o = .ref p /\ i = .int k /\ H p = some (.lst xs) /\ fT xs.length k = some j /\ Q (upd H p (.lst (xs.set j v)))
theorem jt : acN X adb := by
 intro pins s σ H o i v ov iv u Q I ro ri rv h; obtain ⟨p,xs,k,j,rfl,rfl,hp,hj,q⟩ := h; cases ro; obtain ⟨t,rfl⟩ := ri; obtain ⟨its,n,r,ho,hz⟩ := I.lst hp; obtain ⟨h1,h2,h3,h4⟩ := yp hj; have hl := r.length; have hn := tT
 have I' : ay X pins σ (upd H p (.lst (xs.set j v))) { s with heap := s.heap.update p (Obj.mapSeq (·.setIfInBounds j u)) } :=
  I.lstUpd hp ho (za its n j u) (r.set rv j) (by rw [List.length_set]; exact hz) s.toks
 by_cases h0 : 0 <= k
 ·have hk : k.toNat = j := by
   rw [seqIndex_of h0 h4] at h1; exact Option.some.inj h1
  exact PySem.W.ki_setAt ho h0 (by omega) (by rw [List.size_toArray,← hl]; exact h4) (by rw [hk]; exact ⟨_,I',q⟩)
 ·have hk : (k + (its.toArray.size : Int)).toNat = j := by
   rw [seqIndex_neg (by omega) h3] at h1; rw [List.size_toArray,← hl]; exact Option.some.inj h1
  exact PySem.W.ki_setBack ho (by omega) (by rw [List.size_toArray,← hl]; exact h3) (by omega) (by rw [hk]; exact ⟨_,I',q⟩)
theorem xi (lo hi : Option Int) (n : Nat) : (sliceBounds lo hi none n).1 = ((HT.jV n 0 lo : Nat) : Int) /\ (sliceBounds lo hi none n).2.1 = ((HT.jV n n hi : Nat) : Int) /\ (sliceBounds lo hi none n).2.2 = 1 := by
 refine ⟨?_,?_,rfl⟩
 ·cases lo with
  | none => simp [sliceBounds,HT.jV]
  | some i =>
   simp only [sliceBounds,HT.jV,Option.getD_none,show (1 : Int) > 0 by decide,if_true]
   by_cases h : i < 0
   ·simp only [h,if_true] <;> omega
   ·simp only [h,if_false] <;> omega
 ·cases hi with
  | none => simp [sliceBounds,HT.jV]
  | some i =>
   simp only [sliceBounds,HT.jV,Option.getD_none,show (1 : Int) > 0 by decide,if_true]
   by_cases h : i < 0
   ·simp only [h,if_true] <;> omega
   ·simp only [h,if_false] <;> omega
theorem vT (its : List Value) (lo hi : Option Int) : slicePick its.toArray lo hi none = ((its.drop (HT.jV its.length 0 lo)).take (HT.jV its.length its.length hi - HT.jV its.length 0 lo)).toArray := by
 obtain ⟨h1,h2,h3⟩ := xi lo hi its.toArray.size; unfold slicePick; rw [h1,h2,h3]; simp only [sliceRange_one,pick_run,List.size_toArray] <;> rfl
def ad0 (K : Fg) : V -> Option Int -> Option Int -> Hp -> VK -> Prop := fun x lo hi H Q => ∃ a xs,x = .ref a /\ ag K H a xs /\ ∀ p,H p = none -> Q (.ref p) (upd H p (.lst (eJ xs lo hi)))
theorem gi : SlR X (ad0 X.K) := by
 intro pins s σ H x v vl vu lo hi sl Q I rx hs pl pu h; obtain ⟨a,xs,rfl,hx,q⟩ := h; cases rx; obtain ⟨its,r,ht,hz⟩ := I.list hx; have hlen := r.length; refine ⟨"list",_,slot_list_getitem.lookup,ht.isList.typeIs,?_⟩; refine wpAny_getItem_list_slice ht.isList hs pl pu .none (by simp) ?_ (by rw [List.size_toArray] <;> omega); rw [vT,← hlen]; refine ⟨.ref s.heap.objs.size,_,I.laid (t' := s.toks) (o := .lst (eJ xs lo hi)) (fun b ob q => Heap.get?_push_of_some _ q) (Nat.le_refl _) ?_,rfl,q _ (I.hok.fresh (Nat.le_refl _))⟩; exact ⟨Nat.le_trans (xJ xs lo hi) hz,_,0,(r.drop (HT.jV xs.length 0 lo)).take (HT.jV xs.length xs.length hi - HT.jV xs.length 0 lo),Heap.get?_push_size _ rfl⟩
def le : V -> Bool
 | .non => true
 | .bl _ => true
 | .int _ => true
 | .str _ => true
 | _ => false
def pI : V -> V -> Bool
 | .non,.non => true
 | .bl a,.bl b => a == b
 | .bl a,.int b => (if a then 1 else 0) == b
 | .int a,.bl b => a == (if b then 1 else 0)
 | .int a,.int b => a == b
 | .str a,.str b => a == b
 | _,_ => false
theorem acD {A : Around} {s : Shared} {y x : V} {u v : Value} (ry : bw y u) (rx : bw x v) (fy : le y = true) (fx : le x = true) : SeqAt.EqAt A s u v (pI y x) := by
 cases y with
 | non =>
  cases ry
  cases x with
  | non => cases rx; exact SeqAt.EqAt.same _
  | bl b => cases rx; exact SeqAt.EqAt.none_bool b
  | int b => obtain ⟨t,rfl⟩ := rx; exact SeqAt.EqAt.none_int b t
  | str b => obtain ⟨t,rfl⟩ := rx; exact SeqAt.EqAt.none_str b t
  | _ => exact absurd (show false = true from fx) Bool.false_ne_true
 | bl a =>
  cases ry
  cases x with
  | non => cases rx; exact SeqAt.EqAt.bool_none a
  | bl b => cases rx; exact SeqAt.EqAt.bool_bool a b
  | int b => obtain ⟨t,rfl⟩ := rx; exact SeqAt.EqAt.bool_int a b t
  | str b => obtain ⟨t,rfl⟩ := rx; exact SeqAt.EqAt.bool_str a b t
  | _ => exact absurd (show false = true from fx) Bool.false_ne_true
 | int a =>
  obtain ⟨t',rfl⟩ := ry
  cases x with
  | non => cases rx; exact SeqAt.EqAt.int_none a t'
  | bl b => cases rx; exact SeqAt.EqAt.int_bool a t' b
  | int b => obtain ⟨t,rfl⟩ := rx; exact SeqAt.EqAt.int_int a t' b t
  | str b => obtain ⟨t,rfl⟩ := rx; exact SeqAt.EqAt.int_str a t' b t
  | _ => exact absurd (show false = true from fx) Bool.false_ne_true
 | str a =>
  obtain ⟨t',rfl⟩ := ry
  cases x with
  | non => cases rx; exact SeqAt.EqAt.str_none a t'
  | bl b => cases rx; exact SeqAt.EqAt.str_bool a t' b
  | int b => obtain ⟨t,rfl⟩ := rx; exact SeqAt.EqAt.str_int a t' b t
  | str b => obtain ⟨t,rfl⟩ := rx; exact SeqAt.EqAt.str_str a t' b t
  | _ => exact absurd (show false = true from fx) Bool.false_ne_true
 | _ => exact absurd (show false = true from fy) Bool.false_ne_true
def t_ (x : V) (u : Value) : Bool := match u with
 | .none => pI .non x
 | .bool b => pI (.bl b) x
 | .int i _ => pI (.int i) x
 | .str z _ => pI (.str z) x
 | _ => false
theorem aaa {x y : V} {u : Value} (r : bw y u) (f : le y = true) : t_ x u = pI y x := by
 cases y with
 | non => cases r; rfl
 | bl b => cases r; rfl
 | int i => obtain ⟨t,rfl⟩ := r; rfl
 | str z => obtain ⟨t,rfl⟩ := r; rfl
 | _ => exact absurd (show false = true from f) Bool.false_ne_true
theorem uS {x : V} : ∀ {xs : List V} {us : List Value},aL xs us -> xs.all le = true -> us.any (t_ x) = xs.any fun y => pI y x
 | _,_,.nil,_ => rfl
 | y :: xs,u :: us,.cons r t,f => by
  rw [List.all_cons,Bool.and_eq_true] at f; rw [List.any_cons,List.any_cons,aaa r f.1,uS t f.2]
theorem sJ {A : Around} {s : Shared} {x : V} {v : Value} (rx : bw x v) (fx : le x = true) : ∀ {xs : List V} {us : List Value},aL xs us -> xs.all le = true -> ∀ u ∈ us,SeqAt.EqAt A s u v (t_ x u)
 | _,_,.nil,_ => fun u hu => by cases hu
 | y :: xs,u :: us,.cons r t,f => fun u' hu => by
  rw [List.all_cons,Bool.and_eq_true] at f
  rcases List.mem_cons.mp hu with rfl | hu
  ·rw [aaa r f.1]; exact acD r rx f.1 fx
  ·exact sJ rx fx t f.2 u' hu
def yz (x : V) (xs : List V) : Bool := xs.any fun y => pI y x
def rIn (K : Fg) (neg : Bool) : R2 := fun x y H Q => ∃ p xs,y = .ref p /\ (ag K H p xs \/ cG K H p xs) /\ le x = true /\ xs.all le = true /\ Q (.bl (if neg then !yz x xs else yz x xs)) H
theorem aaI : eh X (compareOp .In) (rIn X.K false) := by
 intro pins s σ H x y v u Q I rx ry h; obtain ⟨p,xs,rfl,hq,fx,fs,q⟩ := h; cases ry
 rcases hq with hq | hq
 ·obtain ⟨its,r,pl,hz⟩ := I.list hq; refine SeqAt.in_listAt (t_ x) pl.isList (fun w hw => sJ rx fx r fs w (by simpa using hw)) ⟨.bl _,H,I,rfl,?_⟩; rw [show its.toArray.any (t_ x) = its.any (t_ x) by simp,uS r fs]; exact q
 ·obtain ⟨its,r,pl,hz⟩ := I.tuple hq; refine SeqAt.in_tupleAt (t_ x) pl (fun w hw => sJ rx fx r fs w (by simpa using hw)) ⟨.bl _,H,I,rfl,?_⟩; rw [show its.toArray.any (t_ x) = its.any (t_ x) by simp,uS r fs]; exact q
theorem qj : gg X (.builtin "len") (fun xs H Q => ∃ p ys,xs = [.ref p] /\ (ag X.K H p ys \/ cG X.K H p ys) /\ Q (.int ys.length) H) := by
 intro pins s σ H xs us Q I r h; obtain ⟨p,ys,rfl,hq,q⟩ := h; obtain ⟨u,rfl,rx⟩ := wk r; cases rx; have hn := tT
 rcases hq with hq | hq
 ·obtain ⟨its,r',pl,hz⟩ := I.list hq; have hlen := r'.length; exact Calls.call_len_list pl.isList (by simp only [List.size_toArray] <;> omega) ⟨.int ys.length,H,I.tok _,⟨s.toks + 1,by rw [List.size_toArray,hlen]⟩,q⟩
 ·obtain ⟨its,r',pl,hz⟩ := I.tuple hq; have hlen := r'.length; exact len_tuple pl (by simp only [List.size_toArray] <;> omega) ⟨.int ys.length,H,I.tok _,⟨s.toks + 1,by rw [List.size_toArray,hlen]⟩,q⟩
theorem mj : gg X (.type "list") (fun xs H Q => ∃ p ys,xs = [.ref p] /\ (ag X.K H p ys \/ cG X.K H p ys) /\ ∀ l,H l = none -> Q (.ref l) (upd H l (.lst ys))) := by
 intro pins s σ H xs us Q I r h; obtain ⟨p,ys,rfl,hq,q⟩ := h; obtain ⟨u,rfl,rx⟩ := wk r; cases rx
 have fin : ∀ (its : List Value),aL ys its -> ys.length <= sizeLine -> ∀ (h' : Heap) (c' : Nat),(∀ b o',s.heap.get? b = some o' -> h'.get? b = some o') →
   h'.get? s.heap.objs.size = some { cls := .type "list",dict := none,data := .seq its.toArray c',slots := #[] } -> EP X pins σ Q (.ref s.heap.objs.size) { s with heap := h' } := fun its r' hz h' c' kp e =>
  ⟨.ref s.heap.objs.size,_,I.laid (t' := s.toks) kp (Nat.le_refl _) (show df X.prog X.w _ h' _ (.lst ys) from ⟨hz,its,c',r',e⟩),rfl,q _ (I.hok.fresh (Nat.le_refl _))⟩
 rcases hq with hq | hq
 ·obtain ⟨its,r',pl,hz⟩ := I.list hq; have hlen := r'.length; obtain ⟨o,ho,hc,n,hd⟩ := pl.isList; exact call_list_seq p (.inl rfl) ho hc hd (fun h' c' kp e => fin its r' hz h' c' kp e) (by simp only [List.size_toArray] <;> omega)
 ·obtain ⟨its,r',pl,hz⟩ := I.tuple hq; have hlen := r'.length; obtain ⟨o,ho,hc,n,hd⟩ := pl; exact call_list_seq p (.inr rfl) ho hc hd (fun h' c' kp e => fin its r' hz h' c' kp e) (by simp only [List.size_toArray] <;> omega)
def tyV (K : Fg) (T : String) (x : V) (H : Hp) : Prop := match x with
 | .str _ => T = "str"
 | .int _ => T = "int"
 | .ref p => (T = "list" /\ ∃ xs,ag K H p xs) \/ (T = "tuple" /\ ∃ o,K.lookup p = some o /\ o.cls = .type "tuple" /\ o.dict = none) ∨
   (T = "dict" /\ ((∃ kvs,H p = some (.dK kvs)) \/ ∃ kvs,H p = some (.dT kvs))) \/ (T = "set" /\ ∃ S n,H p = some (.set S n))
 | _ => False
theorem aac {pins : List (Addr × Obj)} {σ : St} {H : Hp} {s : Shared} {T : String} {x : V} {v : Value} (I : ay X pins σ H s) (r : bw x v) (ty : tyV X.K T x H) :
  s.TypeIs v T /\ ∀ a,v = .ref a -> ∃ ob,s.heap.get? a = some ob /\ ob.dict = none := by
 cases x with
 | str z =>
  obtain ⟨t,rfl⟩ := r; cases (show T = "str" from ty); exact ⟨typeIs_str s z t,fun _ e => nomatch e⟩
 | int i =>
  obtain ⟨t,rfl⟩ := r; cases (show T = "int" from ty); exact ⟨typeIs_int s i t,fun _ e => nomatch e⟩
 | ref p =>
  cases r
  rcases ty with ⟨rfl,xs,hq⟩ | ⟨rfl,o,hk,hc,hd⟩ | ⟨rfl,hk⟩ | ⟨rfl,S,n,hk⟩
  ·obtain ⟨its,_,pl,_⟩ := I.list hq; refine ⟨pl.isList.typeIs,fun a e => ?_⟩; cases e; obtain ⟨o,n,e,c,hd,_⟩ := pl; exact ⟨o,e,hd⟩
  ·refine ⟨⟨o,I.kIn p o hk,hc⟩,fun a e => ?_⟩; cases e; exact ⟨o,I.kIn _ o hk,hd⟩
  ·have z : ∃ o,s.heap.get? p = some o /\ o.ExactDict := by
    rcases hk with ⟨kvs,hk⟩ | ⟨kvs,hk⟩
    ·obtain ⟨_,_,_,_,o,_,_,e,ex,_⟩ := I.hok p _ hk; exact ⟨o,e,ex⟩
    ·obtain ⟨_,_,_,_,o,_,_,e,ex,_⟩ := I.hok p _ hk; exact ⟨o,e,ex⟩
   obtain ⟨o,e,ex⟩ := z; refine ⟨⟨o,e,ex.1⟩,fun a e2 => ?_⟩; cases e2; exact ⟨o,e,ex.2.1⟩
  ·obtain ⟨o,_,_,_,e,ex,_⟩ := I.hok p _ hk; refine ⟨⟨o,e,ex.1⟩,fun a e2 => ?_⟩; cases e2; exact ⟨o,e,ex.2.1⟩
 | _ => exact False.elim ty
def aef (K : Fg) (T : String) (r : V -> List V -> Hp -> VK -> Prop) (to : TE) : TE := fun σ H Q => to σ H fun x H1 => tyV K T x H1 /\ r x [] H1 Q
def tBM (K : Fg) (T : String) (r : V -> List V -> Hp -> VK -> Prop) (to : TE) (t : TA) : TE := fun σ H Q => to σ H fun x H1 => tyV K T x H1 /\ t σ H1 fun xs H2 => r x xs H2 Q
variable {o e : Expr} {es : List Expr} {to : TE} {t : TA} {name : Str} {apos cpos : Pos} {T id : String} {r : V -> List V -> Hp -> VK -> Prop}
theorem acx (pa : PlainAttrs T) (slot : Slot T name id) (hty : typeOf (.builtin id) = pure (.type "method_descriptor")) (hm : MtR X id r) (ho : PE X o to)
  (hbase : attributeBase o name X.env (eval o X.env) = eval o X.env := by rfl) (hline : (apos.endLine == cpos.line) = true := by rfl) : PE X (.Call (.Attribute o name apos) [] [] cpos) (aef X.K T r to) := by
 intro pins s σ H Q I h; refine wpAny_Call_method0_late hbase hline (bp (ho pins s σ H _ I h) fun v s1 ⟨x,H1,I1,r1,ty,q1⟩ => ?_); obtain ⟨h1,h2⟩ := aac I1 r1 ty; exact ⟨T,id,pa,slot,hty,h1,h2,Calls.callWith_builtin rfl (PySem.evalArgs_none (hm pins s1 σ H1 x [] v [] Q I1 r1 .nil q1))⟩
theorem gw (pa : PlainAttrs T) (slot : Slot T name id) (hty : typeOf (.builtin id) = pure (.type "method_descriptor")) (hm : MtR X id r) (ho : PE X o to) (ha : PA X (e :: es) t)
  (hbase : attributeBase o name X.env (eval o X.env) = eval o X.env := by rfl)
  (hfew : ((backTo cpos (starEach (e :: es) X.env)).all (fun x => !x.1) && (backToKw cpos (keywordEach [] X.env)).all (fun x => x.1.isSome)
   && decide ((e :: es).length + ([] : List Keyword).length + (if ([] : List Keyword).isEmpty then 0 else 1) < 30)) = true := by rfl)
  (hline : (apos.endLine == cpos.line) = true := by rfl) (hs : starEach (e :: es) X.env = (false,eval e X.env) :: starEach es X.env := by rfl) (hplain : (backTo cpos (starEach es X.env)).any (·.1) = false := by rfl) :
  PE X (.Call (.Attribute o name apos) (e :: es) [] cpos) (tBM X.K T r to t) := by
 intro pins s σ H Q I h; refine wpAny_Call_method_late hbase hfew hline rfl (bp (ho pins s σ H _ I h) fun v s1 ⟨x,H1,I1,r1,ty,q1⟩ => ?_); obtain ⟨h1,h2⟩ := aac I1 r1 ty; refine ⟨T,id,pa,slot,hty,h1,h2,?_⟩; have hA := ha cpos pins s1 σ H1 _ I1 q1; rw [hs] at hA ⊢; refine Calls.callWith_builtin (by show (false || (backTo cpos (starEach es X.env)).any (·.1)) = false; rw [hplain] <;> rfl) (Calls.evalArgs_plain ?_); exact bp hA fun us s2 ⟨vs,H2,I2,r2,q2⟩ => hm pins s2 σ H2 x vs v us Q I2 r1 r2 q2
end
def MtM (X : Cx) (id : String) (r : V -> List V -> Hp -> VK -> Prop) : Prop :=
 ∀ (pins : List (Addr × Obj)) (s : Shared) (σ : St) (H : Hp) (x : V) (xs : List V) (v : Value) (us : List Value) (Q : VK),ay X pins σ H s -> bw x v -> aL xs us -> r x xs H Q →
  wpAny (model X.prog X.w) X.A (call (.builtin id) (v :: us)) (EP X pins σ Q) X.xe s
theorem aL.one : ∀ {x : V} {us : List Value},aL [x] us -> ∃ u,us = [u] /\ bw x u
 | _,_,.cons r .nil => ⟨_,rfl,r⟩
theorem aL.zero : ∀ {us : List Value},aL [] us -> us = []
 | _,.nil => rfl
theorem aL.reverse {xs : List V} {us : List Value} (h : aL xs us) : aL xs.reverse us.reverse := by
 induction h with
 | nil => exact .nil
 | cons r t ih => rw [List.reverse_cons,List.reverse_cons]; exact aL.append ih (.cons r .nil)
theorem aL.rep {xs : List V} {us : List Value} (h : aL xs us) : ∀ k : Nat,aL (List.replicate k xs).flatten (List.replicate k us).flatten
 | 0 => .nil
 | k + 1 => by
  rw [List.replicate_succ,List.replicate_succ,List.flatten_cons,List.flatten_cons]; exact aL.append h (aL.rep h k)
theorem vG (its : List Value) : ∀ (k : Nat) (acc : List Value),
  List.foldl (fun x1 x2 => x1 ++ x2) acc.toArray (List.replicate k its.toArray) = (acc ++ (List.replicate k its).flatten).toArray
 | 0,acc => by simp
 | k + 1,acc => by
  have e : acc.toArray ++ its.toArray = (acc ++ its).toArray := by simp
  have e2 : (acc ++ its) ++ (List.replicate k its).flatten = acc ++ (List.replicate (k + 1) its).flatten := by
   rw [List.replicate_succ,List.flatten_cons,List.append_assoc]
  rw [← e2,← vG its k (acc ++ its),← e,List.replicate_succ,List.foldl_cons]
section
variable {X : Cx} {pins : List (Addr × Obj)} {σ : St} {H : Hp} {s : Shared} {l b : Addr} {xs ys zs : List V}
theorem ay.lset {its its' : List Value} {n : Nat} {f : Array Value -> Array Value} {t' : Nat} (I : ay X pins σ H s) (hH : H l = some (.lst xs))
  (e : s.heap.get? l = some { cls := .type "list",data := .seq its.toArray n }) (hf : f its.toArray = its'.toArray) (hv : aL ys its') (hz : ys.length <= sizeLine) :
  ay X pins σ (upd H l (.lst ys)) { s with heap := s.heap.update l (Obj.mapSeq f),toks := t' } := by
 have q := PySem.IsL.update e f; rw [hf] at q; refine I.write (x := l) (e := l) (by rw [hH]; exact trivial) (.inl rfl) (fun b' u hb hu => (Heap.get?_update_other s.heap (Obj.mapSeq f) (Ne.symm hb)).trans hu) ⟨_,q⟩ ?_; exact ⟨hz,its',_,hv,q⟩
theorem ay.lnew {its : List Value} {t' : Nat} (I : ay X pins σ H s) (hv : aL ys its) (hz : ys.length <= sizeLine) :
  ay X pins σ (upd H s.heap.objs.size (.lst ys)) { s with heap := s.heap.push { cls := .type "list",data := .seq its.toArray },toks := t' } :=
 I.laid (fun _ _ q => Heap.get?_push_of_some _ q) (Nat.le_refl _) ⟨hz,its,0,hv,Heap.get?_push_size _ rfl⟩
theorem ay.fresh (I : ay X pins σ H s) : H s.heap.objs.size = none := I.hok.fresh (Nat.le_refl _)
theorem ay.lstM (I : ay X pins σ H s) (hH : H l = some (.lst xs)) : xs.length <= sizeLine /\ ∃ (its : List Value) (n : Nat),aL xs its /\ xs.length = its.length /\ s.heap.get? l = some { cls := .type "list",data := .seq its.toArray n } := by
 obtain ⟨z,its,n,r,e⟩ := I.hok l _ hH; exact ⟨z,its,n,r,r.length,e⟩
theorem xu {n : Nat} (h : n <= sizeLine) : Builtin.List.listTooLong n = false := by
 unfold Builtin.List.listTooLong; exact decide_eq_false (by omega)
end
section
variable {X : Cx}
def ab8 : V -> List V -> Hp -> VK -> Prop := fun x vs H Q => ∃ l xs y,x = .ref l /\ vs = [y] /\ H l = some (.lst xs) /\ xs.length < sizeLine /\ Q .non (upd H l (.lst (xs ++ [y])))
theorem dc : MtM X "list.append" ab8 := by
 intro pins s σ H x vs v us Q I rx rv h; obtain ⟨l,xs,y,rfl,rfl,hH,hz,q⟩ := h; cases rx; obtain ⟨u,rfl,ru⟩ := rv.one; obtain ⟨z,its,n,r,hl,e⟩ := I.lstM hH; refine call_meets F.slot_list_append ⟨_,e,rfl⟩ F.entry_list_append (F.args_list_append_2 _ _) (PySem.list_append l its.toArray n u (by rw [List.size_toArray]; omega)) ⟨e,?_⟩; refine ⟨.non,_,I.lset (its' := its ++ [u]) hH e (by simp) (r.append (.cons ru .nil)) ?_,rfl,q⟩; rw [List.length_append,List.length_singleton]; omega
def acl : V -> List V -> Hp -> VK -> Prop := fun x vs H Q => ∃ l b xs zs,x = .ref l /\ vs = [.ref b] /\ H l = some (.lst xs) /\ H b = some (.lst zs) /\ xs.length + zs.length <= sizeLine /\ Q .non (upd H l (.lst (xs ++ zs)))
theorem vx : MtM X "list.extend" acl := by
 intro pins s σ H x vs v us Q I rx rv h; obtain ⟨l,b,xs,zs,rfl,rfl,hH,hB,hz,q⟩ := h; cases rx; obtain ⟨u,rfl,ru⟩ := rv.one; cases ru; obtain ⟨z,its,n,r,hl,e⟩ := I.lstM hH; obtain ⟨z2,its2,n2,r2,hl2,e2⟩ := I.lstM hB; have hsz : its.toArray.size + its2.toArray.size <= sizeLine := by rw [List.size_toArray,List.size_toArray]; omega
 have hlong : ¬ (!its.toArray.isEmpty && Builtin.List.listTooLong (its.toArray.size + its2.toArray.size)) = true := by
  rw [xu hsz,Bool.and_false]; exact Bool.false_ne_true
 refine call_meets F.slot_list_extend ⟨_,e,rfl⟩ F.entry_list_extend (F.args_list_extend_2 _ _)
  (AutoSeq1.list_extend_list_list_0 l its.toArray n b its2.toArray n2 hlong (by rw [List.size_toArray]; omega) (by omega)) ⟨e,e2,?_⟩
 refine ⟨.non,_,I.lset (its' := its ++ its2) hH e (by simp) (r.append r2) ?_,rfl,q⟩; rw [List.length_append]; omega
def abE : V -> List V -> Hp -> VK -> Prop := fun x vs H Q => ∃ l xs,x = .ref l /\ vs = [] /\ H l = some (.lst xs) /\ Q .non (upd H l (.lst xs.reverse))
theorem zi : MtM X "list.reverse" abE := by
 intro pins s σ H x vs v us Q I rx rv h; obtain ⟨l,xs,rfl,rfl,hH,q⟩ := h; cases rx; have hus := rv.zero; subst hus; obtain ⟨z,its,n,r,hl,e⟩ := I.lstM hH; refine call_meets F.slot_list_reverse ⟨_,e,rfl⟩ F.entry_list_reverse (F.args_list_reverse_1 _) (AutoSeq1.list_reverse_list_0 l its.toArray n (by rw [List.size_toArray]; omega)) ⟨e,?_⟩; refine ⟨.non,_,I.lset (its' := its.reverse) hH e (by simp) r.reverse ?_,rfl,q⟩; rw [List.length_reverse]; omega
def aee : R2 := fun x y H Q => ∃ l b xs zs,x = .ref l /\ y = .ref b /\ H l = some (.lst xs) /\ H b = some (.lst zs) /\ xs.length + zs.length <= sizeLine /\ ∀ p,H p = none -> Q (.ref p) (upd H p (.lst (xs ++ zs)))
theorem iR : eh X (binaryOp .Add) aee := by
 intro pins s σ H x y v u Q I rx ry h; obtain ⟨l,b,xs,zs,rfl,rfl,hH,hB,hz,q⟩ := h; cases rx; cases ry; obtain ⟨z,its,n,r,hl,e⟩ := I.lstM hH; obtain ⟨z2,its2,n2,r2,hl2,e2⟩ := I.lstM hB; refine PySem.P.add_list e e2 ?_ (by rw [List.size_toArray,List.size_toArray]; omega); have ea : its.toArray ++ its2.toArray = (its ++ its2).toArray := by simp
 rw [ea]; exact ⟨.ref _,_,I.lnew (t' := s.toks) (r.append r2) (by rw [List.length_append]; omega),rfl,q _ I.fresh⟩
def adY : R2 := fun x y H Q => ∃ l k xs,x = .ref l /\ y = .int k /\ H l = some (.lst xs) /\ -(2 ^ 63) <= k /\ k < 2 ^ 63 /\ xs.length * k.toNat <= sizeLine ∧
 ∀ p,H p = none -> Q (.ref p) (upd H p (.lst (List.replicate k.toNat xs).flatten))
theorem ab6 {α : Type} (xs : List α) (k : Nat) : (List.replicate k xs).flatten.length = k * xs.length := by
 induction k with
 | zero => simp
 | succ k ih => rw [List.replicate_succ,List.flatten_cons,List.length_append,ih,Nat.succ_mul,Nat.add_comm]
theorem act : eh X (binaryOp .Mult) adY := by
 intro pins s σ H x y v u Q I rx ry h; obtain ⟨l,k,xs,rfl,rfl,hH,h1,h2,hz,q⟩ := h; cases rx; obtain ⟨t,rfl⟩ := ry; obtain ⟨z,its,n,r,hl,e⟩ := I.lstM hH; have hlen : its.toArray.size * k.toNat <= sizeLine := by rw [List.size_toArray,← hl]; exact hz
 have hcap : ¬ its.toArray.size * k.toNat > (2 ^ 63 - 1) / 8 := by
  have : (sizeLine : Nat) <= (2 ^ 63 - 1) / 8 := by decide
  omega
 have hfit : ¬ (!Builtin.List.listFitsIndex k) = true := by
  rw [fitsIndex_both h1 h2]; exact Bool.false_ne_true
 have hlong : ¬ Builtin.List.listTooLong (its.toArray.size * k.toNat) = true := by
  rw [xu hlen]; exact Bool.false_ne_true
 have hnew : List.foldl (fun x1 x2 => x1 ++ x2) #[] (List.replicate (if its.toArray.isEmpty = true then 0 else k.toNat) its.toArray) = (List.replicate k.toNat its).flatten.toArray := by
  have f0 : ∀ m : Nat,List.foldl (fun x1 x2 => x1 ++ x2) #[] (List.replicate m its.toArray) = (List.replicate m its).flatten.toArray := fun m => by
   have := vG its m []; rw [List.nil_append] at this; exact this
  rw [f0]
  cases its with
  | nil => simp
  | cons a r' => rw [if_neg (by simp)]
 refine wpAny_binaryOp_repeat_ref (T := "list") (U := "int") (by decide) ⟨_,e,rfl⟩ (fun s' => typeIs_int s' k t) noFill_list_mul F.fills_int_mul F.slot_int_rmul repeat_list F.slot_int_index.lookup
  (call_meets F.slot_int_rmul (typeIs_int s k t) F.entry_int_rmul (F.args_int_rmul_2 _ _) (int___rmul___int_list k t l its.toArray n)
   ⟨e,rfl,⟨_,e,rfl⟩,call_meets F.slot_list_mul ⟨_,e,rfl⟩ F.entry_list_mul (F.args_list_mul_2 _ _) (AutoListH.list___mul___list_int_3 l its.toArray n k t hfit hcap hlong) ⟨e,?_⟩⟩)
 rw [hnew]; exact ⟨.ref _,_,I.lnew (t' := s.toks) (r.rep k.toNat) (by rw [ab6,Nat.mul_comm]; exact hz),rfl,q _ I.fresh⟩
end
theorem aL.ints : ∀ {ns : List Int} {us : List Value},aL (ns.map V.int) us -> IntsAre us ns
 | [],us,h => by
  rw [List.map_nil] at h; cases h; exact IntsAre.nil
 | n :: ns,us,h => by
  rw [List.map_cons] at h
  cases h with
  | cons r t =>
   obtain ⟨k,rfl⟩ := r; exact IntsAre.cons n k (aL.ints t)
theorem qa : ∀ {us : List Value} {ns : List Int},IntsAre us ns -> aL (ns.map V.int) us
 | _,_,.nil => by rw [List.map_nil]; exact Paired.nil
 | _,_,.cons n t h => by rw [List.map_cons]; exact Paired.cons (show bw (V.int n) (Value.int n t) from ⟨t,rfl⟩) (qa h)
theorem aL.ref1 {a : Addr} {us : List Value} (r : aL [V.ref a] us) : us = [Value.ref a] := by
 cases r with
 | cons r t =>
  cases t; cases r; rfl
theorem aL.int2 {i j : Int} {us : List Value} (r : aL [V.int i,V.int j] us) : ∃ t u,us = [Value.int i t,Value.int j u] := by
 cases r with
 | cons r t =>
  cases t with
  | cons r2 t2 =>
   cases t2; obtain ⟨t,rfl⟩ := r; obtain ⟨u,rfl⟩ := r2; exact ⟨t,u,rfl⟩
mutual
inductive Dp (K : Fg) (H : Hp) : V -> PyData -> Prop
 | non : Dp K H .non .none
 | bl (b : Bool) : Dp K H (.bl b) (.bool b)
 | int (i : Int) : Dp K H (.int i) (.int i)
 | str (x : Str) : Dp K H (.str x) (.str x)
 | lst {a : Addr} {xs : List V} {ds : List PyData} : ag K H a xs -> o_ K H xs ds -> Dp K H (.ref a) (.list ds)
 | tup {a : Addr} {xs : List V} {ds : List PyData} : cG K H a xs -> o_ K H xs ds -> Dp K H (.ref a) (.tuple ds)
inductive o_ (K : Fg) (H : Hp) : List V -> List PyData -> Prop
 | nil : o_ K H [] []
 | cons {v : V} {vs : List V} {d : PyData} {ds : List PyData} : Dp K H v d -> o_ K H vs ds -> o_ K H (v :: vs) (d :: ds)
end
section
variable {X : Cx} {pins : List (Addr × Obj)} {σ : St} {H : Hp} {s : Shared}
mutual
theorem Dp.reads (I : ay X pins σ H s) : ∀ (d : PyData) (v : V) (u : Value),Dp X.K H v d -> bw v u -> ∃ as,Reads s.heap u d as
 | .none,_,_,h,r => by
  cases h; cases r; exact ⟨_,Reads.none⟩
 | .bool b,_,_,h,r => by
  cases h; cases r; exact ⟨_,Reads.bool b⟩
 | .int i,_,_,h,r => by
  cases h; obtain ⟨t,rfl⟩ := r; exact ⟨_,Reads.int i t⟩
 | .str x,_,_,h,r => by
  cases h; obtain ⟨t,rfl⟩ := r; exact ⟨_,Reads.str x t⟩
 | .list ds,_,_,h,r => by
  cases h with
  | lst hs ha =>
   cases r; obtain ⟨its,rv,⟨o,n,ho,hc,_,hd⟩,_⟩ := I.list hs; obtain ⟨as,hr⟩ := Dp.readsAll I ds _ its ha rv; exact ⟨_,Reads.list ho hc hd hr⟩
 | .tuple ds,_,_,h,r => by
  cases h with
  | tup hs ha =>
   cases r; obtain ⟨its,rv,⟨o,ho,hc,n,hd⟩,_⟩ := I.tuple hs; obtain ⟨as,hr⟩ := Dp.readsAll I ds _ its ha rv; exact ⟨_,Reads.tuple ho hc hd hr⟩
 | .dict _,_,_,h,_ => by cases h
theorem Dp.readsAll (I : ay X pins σ H s) : ∀ (ds : List PyData) (vs : List V) (us : List Value),o_ X.K H vs ds -> aL vs us -> ∃ as,ReadsAll s.heap us ds as
 | [],_,_,h,r => by
  cases h; cases r; exact ⟨_,ReadsAll.nil⟩
 | d :: ds,_,_,h,r => by
  cases h with
  | cons h1 h2 =>
   cases r with
   | cons r1 r2 =>
    obtain ⟨as,q1⟩ := Dp.reads I d _ _ h1 r1; obtain ⟨bs,q2⟩ := Dp.readsAll I ds _ _ h2 r2; exact ⟨_,ReadsAll.cons q1 q2⟩
end
end
section
variable {X : Cx}
def ad6 (K : Fg) : R2 := fun x y H Q => ∃ d e,Dp K H x d /\ Dp K H y e /\ SeqAt.shaped d = true /\ SeqAt.shaped e = true /\ Q (.bl (PyData.eqv d e)) H
def adZ (K : Fg) : R2 := fun x y H Q => ∃ d e,Dp K H x d /\ Dp K H y e /\ SeqAt.shaped d = true /\ SeqAt.shaped e = true /\ Q (.bl (!PyData.eqv d e)) H
theorem acM (hu : X.A.units + 64 < cLine) : eh X (compareOp .Eq) (ad6 X.K) := by
 intro pins s σ H x y v u Q I rx ry h; obtain ⟨d,e,hd,he,sd,se,q⟩ := h; obtain ⟨as,r1⟩ := Dp.reads I d x v hd rx; obtain ⟨bs,r2⟩ := Dp.reads I e y u he ry; exact SeqAt.compareEq_shaped r1 r2 sd se hu ⟨.bl _,H,I,rfl,q⟩
theorem acZ (hu : X.A.units + 64 < cLine) : eh X (compareOp .NotEq) (adZ X.K) := by
 intro pins s σ H x y v u Q I rx ry h; obtain ⟨d,e,hd,he,sd,se,q⟩ := h; obtain ⟨as,r1⟩ := Dp.reads I d x v hd rx; obtain ⟨bs,r2⟩ := Dp.reads I e y u he ry; exact SeqAt.compareNe_shaped r1 r2 sd se hu ⟨.bl _,H,I,rfl,q⟩
end
abbrev z0 (h : Heap) (c : Addr) (v : Option Value) : Prop := h.IsCell c v
def adQ (scope sc : Scope) : Scope :=
 { scope with names := scope.names.map fun (n,k) => if (k == .free && sc.kind == .function && sc.names.lookup n == some .cell) then (n,.cell) else (n,k) }
def bQ (cells : List (Str × Addr)) : List (Str × NameKind) -> List (Str × Addr) -> List (Str × Addr)
 | [],acc => acc
 | (n,k) :: r,acc => if k == .free then bQ cells r ((n,(cells.lookup n).getD 0) :: acc) else bQ cells r acc
theorem qJ (env : Env) (f : Str × NameKind -> List (Str × Addr) -> Sem (ForInStep (List (Str × Addr))))
  (hf : ∀ n k c,f (n,k) c = if k == .free then (do let a ← cellOf env n; pure (.yield ((n,a) :: c))) else pure (.yield c)) :
  ∀ (names : List (Str × NameKind)) (acc : List (Str × Addr)),(∀ y ∈ names,y.2 = .free -> ∃ c,env.cells.lookup y.1 = some c) -> forIn names acc f = pure (bQ env.cells names acc)
 | [],acc,_ => by rw [List.forIn_nil]; rfl
 | (n,k) :: r,acc,h => by
  rw [List.forIn_cons,hf]; have ih := fun acc => qJ env f hf r acc fun y hy => h y (List.mem_cons_of_mem _ hy)
  unfold bQ
  by_cases hk : (k == NameKind.free) = true
  ·rw [if_pos hk,if_pos hk]; obtain ⟨c,hc⟩ := h (n,k) List.mem_cons_self (by simpa using hk); have e : cellOf env n = pure c := by unfold cellOf; rw [hc]
   rw [e]; have e2 : (env.cells.lookup n).getD 0 = c := by rw [hc]; rfl
   rw [e2]; exact ih _
  ·rw [if_neg hk,if_neg hk]; exact ih _
theorem zf {scope : Scope} {env : Env} (h : ∀ y ∈ scope.names,y.2 = .free -> ∃ c,env.cells.lookup y.1 = some c) : closureFor scope env = pure (bQ env.cells scope.names []) := by
 simp only [closureFor]; rw [qJ env _ (fun n k c => rfl) scope.names [] h]; rfl
theorem o8 {α : Type} : ∀ {l : List (Str × α)} {n : Str} {c : α},(n,c) ∈ l -> ∃ c',l.lookup n = some c'
 | (k,v) :: r,n,c,h => by
  rw [List.lookup_cons]
  cases hb : n == k with
  | true => exact ⟨_,rfl⟩
  | false =>
   rcases List.mem_cons.mp h with e | h
   ·cases e; simp at hb
   ·exact o8 h
theorem jy {cells : List (Str × Addr)} : ∀ {names : List (Str × NameKind)} {acc : List (Str × Addr)} {n : Str} {c : Addr},(n,c) ∈ bQ cells names acc -> (n,c) ∈ acc \/ ((n,.free) ∈ names /\ c = (cells.lookup n).getD 0)
 | [],_,_,_,h => .inl h
 | (m,k) :: r,acc,n,c,h => by
  unfold bQ at h
  split at h
  ·rename_i hk; have hk : k = .free := by simpa using hk
   rcases jy h with h | ⟨h1,h2⟩
   ·rcases List.mem_cons.mp h with e | h
    ·cases e; exact .inr ⟨hk ▸ List.mem_cons_self,rfl⟩
    ·exact .inl h
   ·exact .inr ⟨List.mem_cons_of_mem _ h1,h2⟩
  ·rcases jy h with h | ⟨h1,h2⟩
   ·exact .inl h
   ·exact .inr ⟨List.mem_cons_of_mem _ h1,h2⟩
theorem m5 {cells : List (Str × Addr)} : ∀ {names : List (Str × NameKind)} {acc : List (Str × Addr)} {p : Str × Addr},p ∈ acc -> p ∈ bQ cells names acc
 | [],_,_,h => h
 | (m,k) :: r,acc,p,h => by
  unfold bQ
  split
  ·exact m5 (List.mem_cons_of_mem _ h)
  ·exact m5 h
theorem mP {cells : List (Str × Addr)} : ∀ {names : List (Str × NameKind)} {acc : List (Str × Addr)} {n : Str},(n,.free) ∈ names -> (n,(cells.lookup n).getD 0) ∈ bQ cells names acc
 | (m,k) :: r,acc,n,h => by
  unfold bQ
  rcases List.mem_cons.mp h with e | h
  ·cases e; exact m5 List.mem_cons_self
  ·split
   ·exact mP h
   ·exact mP h
theorem jU : ∀ {names : List (Str × NameKind)} {h : Heap} {acc : List (Str × Addr)} {x : Str} {c : Addr},(x,c) ∈ cellsFrom h.objs.size names acc →
  (x,c) ∈ acc \/ ((x,.cell) ∈ names /\ h.objs.size <= c /\ z0 (pushCells h names) c none)
 | [],_,_,_,_,h => .inl h
 | (n,k) :: r,h,acc,x,c,hm => by
  unfold cellsFrom at hm; unfold pushCells
  split at hm
  ·rename_i hk; rw [if_pos hk]; have hk : k = .cell := by simpa using hk
   rw [← Heap.size_push h { cls := .type "cell",data := .cell none }] at hm
   rcases jU hm with hm | ⟨h1,h2,h3⟩
   ·rcases List.mem_cons.mp hm with e | hm
    ·cases e; exact .inr ⟨hk ▸ List.mem_cons_self,Nat.le_refl _,_,pushCells_keeps r _ _ _ (Heap.get?_push_size _ rfl),rfl⟩
    ·exact .inl hm
   ·rw [Heap.size_push] at h2; exact .inr ⟨List.mem_cons_of_mem _ h1,Nat.le_of_succ_le h2,h3⟩
  ·rename_i hk; rw [if_neg hk]
   rcases jU hm with hm | ⟨h1,h2,h3⟩
   ·exact .inl hm
   ·exact .inr ⟨List.mem_cons_of_mem _ h1,h2,h3⟩
theorem mH : ∀ {names : List (Str × NameKind)} {n : Nat} {acc : List (Str × Addr)} {p : Str × Addr},p ∈ acc -> p ∈ cellsFrom n names acc
 | [],_,_,_,h => h
 | (m,k) :: r,n,acc,p,h => by
  unfold cellsFrom
  split
  ·exact mH (List.mem_cons_of_mem _ h)
  ·exact mH h
theorem qC : ∀ {names : List (Str × NameKind)} {n : Nat} {acc : List (Str × Addr)} {x : Str},(x,.cell) ∈ names -> ∃ c,(x,c) ∈ cellsFrom n names acc
 | (m,k) :: r,n,acc,x,h => by
  unfold cellsFrom
  rcases List.mem_cons.mp h with e | h
  ·cases e; exact ⟨n,mH List.mem_cons_self⟩
  ·split
   ·exact qC h
   ·exact qC h
theorem rc : ∀ {names : List (Str × NameKind)} {h : Heap} {acc : List (Str × Addr)} {x y : Str} {c : Addr},(∀ p ∈ acc,p.2 < h.objs.size) -> (∀ x y c,(x,c) ∈ acc -> (y,c) ∈ acc -> x = y) →
  (x,c) ∈ cellsFrom h.objs.size names acc -> (y,c) ∈ cellsFrom h.objs.size names acc -> x = y
 | [],_,_,_,_,_,_,hi,h1,h2 => hi _ _ _ h1 h2
 | (n,k) :: r,h,acc,x,y,c,hl,hi,h1,h2 => by
  unfold cellsFrom at h1 h2
  split at h1
  ·rename_i hk; rw [if_pos hk] at h2; rw [← Heap.size_push h { cls := .type "cell",data := .cell none }] at h1 h2; refine rc (h := h.push _) (fun p hp => ?_) (fun x y c a b => ?_) h1 h2
   ·rw [Heap.size_push]
    rcases List.mem_cons.mp hp with rfl | hp
    ·exact Nat.lt_succ_self _
    ·exact Nat.lt_succ_of_lt (hl p hp)
   ·rcases List.mem_cons.mp a with e | a <;> rcases List.mem_cons.mp b with e' | b
    ·cases e; cases e'; rfl
    ·cases e; exact absurd (hl _ b) (Nat.lt_irrefl _)
    ·cases e'; exact absurd (hl _ a) (Nat.lt_irrefl _)
    ·exact hi _ _ _ a b
  ·rename_i hk; rw [if_neg hk] at h2; exact rc hl hi h1 h2
theorem x9 {M : Model} {A : Around} {E : Value -> Shared -> Prop} {s : Shared} {scope : Scope} {globals : Addr} {closure : List (Str × Addr)} {qual : Str} {func : Option Addr} {code : Value} {around : Env} {builtins : Addr} {Q : Env -> Shared -> Prop}
  (h : Q (newEnv scope s.heap.objs.size globals (cellsFrom (s.heap.objs.size + 1) scope.names closure) qual func code (some around) builtins)
   { s with heap := pushCells (s.heap.push { cls := .type "dict",data := .dict #[] }) scope.names }) :
  wpAny M A (newFunctionEnv scope globals closure [] qual func code (some around) builtins) Q E s := by
 simp only [newFunctionEnv,Option.isSome_some,if_true]; refine wpAny_bind (wpAny_alloc ?_); refine wpAny_bind (wpAny_layCells _ (fun n k c => rfl) scope.names closure _ _ ?_); rw [show ({ s with heap := s.heap.push { cls := .type "dict",data := .dict #[] } } : Shared).heap.objs.size = s.heap.objs.size + 1 from Heap.size_push ..]; rw [List.forIn_nil]; exact wpAny_bind (wpAny_pure (wpAny_pure h))
theorem nW {sc : Scope} : ∀ {names : List (Str × NameKind)} {x : Str} {k : NameKind},
  (names.map fun (n,k) => if (k == NameKind.free && sc.kind == .function && sc.names.lookup n == some .cell) then (n,NameKind.cell) else (n,k)).lookup x = some k →
  ∃ k',names.lookup x = some k' /\ (k = k' \/ (k' = .free /\ k = .cell))
 | [],_,_,h => by simp at h
 | (n,k₀) :: r,x,k,h => by
  have ih := @nW sc r x k; have h' : List.lookup x ((if (k₀ == NameKind.free && sc.kind == .function && sc.names.lookup n == some .cell) = true then (n,NameKind.cell) else (n,k₀)) :: (r.map _)) = some k := h
  cases hx : x == n with
  | true =>
   simp only [List.lookup_cons,hx]
   by_cases hc : (k₀ == NameKind.free && sc.kind == .function && sc.names.lookup n == some .cell) = true
   ·rw [if_pos hc] at h'; simp only [List.lookup_cons,hx] at h'; cases h'; simp only [Bool.and_eq_true,beq_iff_eq] at hc; exact ⟨k₀,rfl,.inr ⟨hc.1.1,rfl⟩⟩
   ·rw [if_neg hc] at h'; simp only [List.lookup_cons,hx] at h'; cases h'; exact ⟨_,rfl,.inl rfl⟩
  | false =>
   simp only [List.lookup_cons,hx]
   by_cases hc : (k₀ == NameKind.free && sc.kind == .function && sc.names.lookup n == some .cell) = true
   ·rw [if_pos hc] at h'; simp only [List.lookup_cons,hx] at h'; exact ih h'
   ·rw [if_neg hc] at h'; simp only [List.lookup_cons,hx] at h'; exact ih h'
structure tS (N : List Str) (sc scope : Scope) (own : List (Str × Nat)) : Prop where
 kind : scope.kind = .function
 uniq : ∀ y ∈ scope.names,scope.names.lookup y.1 = some y.2
 ix : ∀ p ∈ own,N[p.2]? = some p.1
 free : ∀ y ∈ scope.names,y.2 = .free -> sc.names.lookup y.1 = some .cell \/ sc.names.lookup y.1 = some .free
 own : ∀ y ∈ scope.names,y.2 = .local \/ y.2 = .cell -> y.1 ∈ own.map (·.1) \/ y.1 ∉ N
def bJ (σ : St) : List Nat -> St
 | [] => σ
 | v :: vs => (bJ σ vs).set v none
theorem nw (σ : St) : ∀ vs : List Nat,(bJ σ vs).length = σ.length
 | [] => rfl
 | v :: vs => by unfold bJ; rw [List.length_set,nw σ vs]
theorem qg {σ : St} {i : Nat} {x : V} : ∀ {vs : List Nat},(bJ σ vs)[i]? = some (some x) -> σ[i]? = some (some x) /\ i ∉ vs
 | [],h => ⟨h,by simp⟩
 | v :: vs,h => by
  unfold bJ at h
  by_cases hi : v = i
  ·subst hi
   by_cases hv : v < (bJ σ vs).length
   ·rw [List.getElem?_set_self hv] at h; cases h
   ·rw [List.getElem?_eq_none (by simpa using hv)] at h; cases h
  ·rw [List.getElem?_set_ne hi] at h; obtain ⟨h1,h2⟩ := qg h; exact ⟨h1,by simp only [List.mem_cons,not_or]; exact ⟨fun e => hi e.symm,h2⟩⟩
abbrev Cx.blk (X : Cx) (s : Shared) (H : Hp) (scope : Scope) (cenv : Env) (fp : List Addr) : Cx := { X with s_0 := s,H_0 := H,env := cenv,outer := X.stack,ex := fp,fn := fun x => scope.names.lookup x == some .cell,pn := [],xe := fun _ _ => False }
section
variable {X : Cx} {pins : List (Addr × Obj)} {σ : St} {H : Hp} {s : Shared}
theorem xT {scope : Scope} {own : List (Str × Nat)} {fp : List Addr} (I : ay X pins σ H s) (ok : tS X.N X.env.scope scope own) (hN : X.N.Nodup) (hfp : ∀ b ∈ fp,kO X pins H b /\ b < s.heap.objs.size) :
  ay (X.blk s H scope (compEnvC scope (cellsFrom (s.heap.objs.size + 1) scope.names (bQ X.env.cells scope.names [])) s.heap.objs.size X.env) fp) [] (bJ σ (own.map (·.2))) H { s with heap := pushCells (s.heap.push { cls := .type "dict",data := .dict #[] }) scope.names } := by
 have hfree : ∀ y ∈ scope.names,y.2 = .free -> ∃ c,X.env.cells.lookup y.1 = some c := fun y hy e => by
  rcases ok.free y hy e with k | k
  ·exact I.ok.has _ (.inl k)
  ·exact I.ok.has _ (.inr k)
 generalize hcenv : compEnvC scope (cellsFrom (s.heap.objs.size + 1) scope.names (bQ X.env.cells scope.names [])) s.heap.objs.size X.env = cenv; have kp : ∀ b o,s.heap.get? b = some o -> (pushCells (s.heap.push { cls := .type "dict",data := .dict #[] }) scope.names).get? b = some o := fun b o e => pushCells_keeps _ _ _ _ (Heap.get?_push_of_some _ e)
 have hL : cenv.locals = s.heap.objs.size := by rw [← hcenv]; rfl
 have hcl : cenv.cells = cellsFrom (s.heap.objs.size + 1) scope.names (bQ X.env.cells scope.names []) := by rw [← hcenv]; rfl
 have hsc : cenv.scope = adQ scope X.env.scope := by rw [← hcenv]; rfl
 rw [← Heap.size_push s.heap { cls := .type "dict",data := .dict #[] }] at hcl
 have cm : ∀ {y c},(y,c) ∈ bQ X.env.cells scope.names [] -> X.env.cells.lookup y = some c /\ c < s.heap.objs.size := fun {y c} hm => by
  rcases jy hm with hm | ⟨h1,rfl⟩
  ·cases hm
  ·obtain ⟨c,hc⟩ := hfree _ h1 rfl; rw [hc]; obtain ⟨w,z⟩ := I.cell _ _ hc; exact ⟨rfl,z.lt⟩
 have mem : ∀ {y c},cenv.cells.lookup y = some c -> (X.env.cells.lookup y = some c /\ c < s.heap.objs.size) \/ (s.heap.objs.size + 1 <= c /\ z0 (pushCells (s.heap.push { cls := .type "dict",data := .dict #[] }) scope.names) c none) := fun {y c} e => by
  rw [hcl] at e
  rcases jU (PySem.mem_of_lookup e) with hm | ⟨_,h2,h3⟩
  ·exact .inl (cm hm)
  ·rw [Heap.size_push] at h2; exact .inr ⟨h2,h3⟩
 have look : ∀ {y},scope.names.lookup y = some .free -> ∃ c,cenv.cells.lookup y = some c /\ X.env.cells.lookup y = some c := fun {y} hl => by
  have hy : (y,NameKind.free) ∈ scope.names := PySem.mem_of_lookup hl; obtain ⟨c',e'⟩ := o8 (mH (names := scope.names) (n := (s.heap.push { cls := .type "dict",data := .dict #[] }).objs.size) (mP (cells := X.env.cells) (acc := []) hy)); rw [← hcl] at e'; refine ⟨c',e',?_⟩; rw [hcl] at e'
  rcases jU (PySem.mem_of_lookup e') with hm | ⟨h1,_,_⟩
  ·exact (cm hm).1
  ·have := ok.uniq _ h1; rw [hl] at this; cases this
 have okB : (X.blk s H scope cenv fp).Ok := by
  refine ⟨I.ok.mod,by show cenv.scope.kind = _; rw [hsc]; exact ok.kind,by show cenv.globals = _; rw [← hcenv]; exact I.ok.glob,by show cenv.builtins = _; rw [← hcenv]; exact I.ok.blt,by show s.heap.objs.size <= cenv.locals; rw [hL]; exact Nat.le_refl _,
   fun y z c e1 e2 => ?_,fun y hy => ?_,fun y c z e => ?_,I.ok.hd,I.ok.frames,.inl rfl,fun b hb => ⟨?_,fun y c e z => ?_⟩,I.bs,Nat.le_trans I.ok.bsz I.sz,fun b o e hb => ?_,fun b hb z => ?_,I.stack,I.stkFree⟩
  ·have e1 : cenv.cells.lookup y = some c := e1; have e2 : cenv.cells.lookup z = some c := e2; rw [hcl] at e1 e2; refine rc (fun p hp => ?_) (fun y z c a b => I.ok.inj y z c (cm a).1 (cm b).1) (PySem.mem_of_lookup e1) (PySem.mem_of_lookup e2); rw [Heap.size_push]; exact Nat.lt_succ_of_lt (cm (y := p.1) (c := p.2) hp).2
  ·show ∃ c,cenv.cells.lookup y = some c
   have key : ∀ k,cenv.kindOf y = some k -> (k = .cell \/ k = .free) -> ∃ c,cenv.cells.lookup y = some c := fun k hk hk' => by
    unfold Env.kindOf at hk; rw [hsc] at hk; obtain ⟨k',e,r⟩ := nW hk
    have : k' = .cell \/ k' = .free := by
     rcases r with rfl | ⟨rfl,_⟩
     ·exact hk'
     ·exact .inr rfl
    rcases this with rfl | rfl
    ·obtain ⟨c,hm⟩ := qC (n := (s.heap.push { cls := .type "dict",data := .dict #[] }).objs.size) (acc := bQ X.env.cells scope.names []) (PySem.mem_of_lookup e); obtain ⟨c',e'⟩ := o8 hm; exact ⟨c',by rw [hcl]; exact e'⟩
    ·obtain ⟨c,h1,_⟩ := look e; exact ⟨c,h1⟩
   rcases hy with hy | hy
   ·exact key _ hy (.inl rfl)
   ·exact key _ hy (.inr rfl)
  ·have z : (scope.names.lookup y == some NameKind.cell) = true := z; have z : scope.names.lookup y = some .cell := by simpa using z
   have e : cenv.cells.lookup y = some c := e; rw [hcl] at e
   rcases jU (PySem.mem_of_lookup e) with hm | ⟨_,h2,_⟩
   ·rcases jy hm with hm | ⟨h1,_⟩
    ·cases hm
    ·have q := ok.uniq _ h1; rw [z] at q; cases q
   ·rw [Heap.size_push] at h2; exact Nat.le_of_succ_le h2
  ·show b ≠ cenv.locals; rw [hL]; exact Nat.ne_of_lt (hfp b hb).2
  ·have e : cenv.cells.lookup y = some c := e
   rcases mem e with ⟨h1,_⟩ | ⟨h1,_⟩
   ·exact (hfp b hb).1.2.2.2.2.1 y c h1 z
   ·have h2 : s.heap.objs.size + 1 <= b := by rw [← z]; exact h1
    exact absurd (Nat.lt_of_lt_of_le (hfp b hb).2 (Nat.le_of_succ_le h2)) (Nat.lt_irrefl _)
  ·rcases (hfp b hb).1.2.2.2.1 with z | z
   ·exact I.ok.noex b o e z
   ·exact absurd (Nat.lt_of_lt_of_le (Heap.lt_size e) (Nat.le_trans I.ok.bsz z)) (Nat.lt_irrefl _)
  ·rcases List.mem_cons.mp (I.stkSub b z) with z | z
   ·exact (hfp b hb).1.2.1 z
   ·exact (hfp b hb).1.2.2.1 z
 refine ⟨okB,rfl,I.bare,Un.kept kp,⟨fun _ => none,?_,fun i y av e1 e2 e3 => ?_⟩,fun y c e => ?_,?_,fun y c e => ?_,fun p hp => ?_,I.hok.kept kp,by rw [nw]; exact I.len⟩
 ·show Heap.Ns _ cenv.locals _; rw [hL]; exact Heap.Ns.keeps (Heap.Ns.new ..) fun b o e => pushCells_keeps _ _ _ _ e
 ·obtain ⟨e2,hne⟩ := qg e2
  have hfr : scope.names.lookup y = some .free /\ (cenv.kindOf y = some .cell \/ cenv.kindOf y = some .free) := by
   have key : ∀ k,cenv.scope.names.lookup y = some k -> k = .local \/ k = .cell \/ k = .free -> scope.names.lookup y = some .free /\ (cenv.kindOf y = some .cell \/ cenv.kindOf y = some .free) := fun k hk hk' => by
    have hk0 := hk; rw [hsc] at hk; obtain ⟨k',e,r⟩ := nW hk
    have no : ¬ (k' = .local \/ k' = .cell) := fun hh => by
     rcases ok.own _ (PySem.mem_of_lookup e) hh with e' | e'
     ·obtain ⟨p,hp,hpy⟩ := List.mem_map.mp e'; have e3 := ok.ix p hp; have : p.1 = y := hpy; rw [this] at e3; exact hne (List.mem_map.mpr ⟨p,hp,sH hN e3 e1⟩)
     ·exact e' (List.mem_of_getElem? e1)
    rcases r with rfl | ⟨rfl,rfl⟩
    ·rcases hk' with rfl | rfl | rfl
     ·exact absurd (.inl rfl) no
     ·exact absurd (.inr rfl) no
     ·exact ⟨e,.inr hk0⟩
    ·exact ⟨e,.inl hk0⟩
   have e3 : z7 cenv.scope y := e3
   rcases e3 with e3 | e3 | e3
   ·exact key _ e3 (.inl rfl)
   ·exact key _ e3 (.inr (.inl rfl))
   ·exact key _ e3 (.inr (.inr rfl))
  obtain ⟨m,hn,hl⟩ := I.loc; have hvis : z7 X.env.scope y := (ok.free _ (PySem.mem_of_lookup hfr.1) rfl).elim (fun k => .inr (.inl k)) (fun k => .inr (.inr k)); obtain ⟨w,r,q⟩ := hl i y av e1 e2 hvis; refine ⟨w,r,.inr ⟨hfr.2,?_⟩⟩; obtain ⟨c,h1,h2⟩ := look hfr.1
  rcases q with ⟨k,_⟩ | ⟨_,c',e',z⟩
  ·have k : X.env.scope.names.lookup y = some .local := k
   rcases ok.free _ (PySem.mem_of_lookup hfr.1) rfl with k' | k' <;> rw [show X.env.scope.names.lookup y = _ from k'] at k <;> cases k
  ·rw [h2] at e'; cases e'; exact ⟨c,h1,z.keeps kp⟩
 ·have e : cenv.cells.lookup y = some c := e
  rcases mem e with ⟨h1,_⟩ | ⟨_,z⟩
  ·obtain ⟨w,z⟩ := I.cell y c h1; exact ⟨w,z.keeps kp⟩
  ·exact ⟨_,z⟩
 ·show H cenv.locals = none; rw [hL]; exact I.hok.fresh (Nat.le_refl _)
 ·have e : cenv.cells.lookup y = some c := e
  rcases mem e with ⟨h1,_⟩ | ⟨h1,_⟩
  ·exact I.freeC y c h1
  ·exact I.hok.fresh (Nat.le_of_succ_le h1)
 ·exact absurd (show p ∈ ([] : List (Addr × Obj)) ++ [] from hp) (by simp)
theorem acQ {E : Value -> Shared -> Prop} {D : Addr} {xs : List V} {y : V} {v : Value} {Q : Value -> Shared -> Prop} (I : ay X pins σ H s) (hD : H D = some (.lst xs)) (hz : xs.length < sizeLine) (r : bw y v)
  (h : ∀ s',ay X pins σ (upd H D (.lst (xs ++ [y]))) s' -> Q .none s') : wpAny (model X.prog X.w) X.A (call (.builtin "list.append") [.ref D,v]) Q E s := by
 obtain ⟨hz',its,n,ri,e⟩ := I.hok D _ hD; have hl := ri.length; refine append_at (hsz := by rw [List.size_toArray]; omega) e fun h' sb ho' => ?_
 refine h { s with heap := h' } (I.write (t' := s.toks) (by rw [hD]; trivial) (.inl rfl) (fun b u hb q => (sb.2 b hb).trans q) ⟨_,ho'⟩ ⟨by rw [List.length_append]; exact hz,its ++ [v],n + 1,ri.append (.cons r .nil),?_⟩); rw [ho']
 simp
def PTs (X : Cx) (ifs : List Expr) (t : TT) : Prop :=
 ∀ (pins : List (Addr × Obj)) (s : Shared) (σ : St) (H : Hp) (Q : Bool -> Hp -> Prop),ay X pins σ H s -> t σ H Q →
  wpAny (model X.prog X.w) X.A (forIn ifs true fun c r => if r = true then do let ok ← isTrue c X.env (eval c X.env); pure (ForInStep.yield ok) else pure (ForInStep.yield r)) (TP X pins σ Q) X.xe s
def wL : TT := fun _ H Q => Q true H
theorem bt : PTs X [] wL := fun _ _ _ H _ I h => wpAny_tests_nil ⟨H,I,h⟩
theorem abR {c : Expr} {t : TT} (h : PT X c t) : PTs X [c] t := fun pins s σ H Q I hw => wpAny_tests_one (h pins s σ H Q I hw)
end
theorem uQ {α : Type} {t : Sem α} {Q Q' : α -> Shared -> Prop} {M : Model} {A : Around} {E : Value -> Shared -> Prop} {s : Shared} (h : wpAny M A t Q (fun _ _ => False) s) (hQ : ∀ a s,Q a s -> Q' a s) : wpAny M A t Q' E s := wpAny_mono h hQ fun _ _ z => False.elim z
theorem wO {prog : Program} {w : World} {A : Around} {R : Result -> Shared -> Prop} {s : Shared} {elt target iter : Expr} {ifs : List Expr} {scope : Scope} {pos : Pos} {it acc : Value} {env : Env} (I : Nat -> Shared -> Prop)
  (turn : ∀ n s,I n s -> wpAny (model prog w) A (pyNext it) (fun r s₁ => match r with
   | none => R (.ok .next) s₁
   | some v => wpAny (model prog w) A (letOwnedTupleGo target it v) (fun _ s₁' => wpAny (model prog w) A (assign target env v) (fun _ s₂ =>
     wpAny (model prog w) A (forIn ifs true fun c r => if r = true then do let ok ← isTrue c env (eval c env); pure (ForInStep.yield ok) else pure (ForInStep.yield r)) (fun ok s₃ =>
      if ok = true then wpAny (model prog w) A (eval elt env) (fun x s₄ =>
       wpAny (model prog w) A (call (.builtin "list.append") [acc,x]) (fun _ s₅ => ∃ m,m < n /\ I m s₅) (notedBy (model prog w) A env fun e s' => R (.error e) s') s₄) (notedBy (model prog w) A env fun e s' => R (.error e) s') s₃
      else ∃ m,m < n /\ I m s₃) (notedBy (model prog w) A env fun e s' => R (.error e) s') s₂) (notedBy (model prog w) A env fun e s' => R (.error e) s') s₁') (notedBy (model prog w) A env fun e s' => R (.error e) s') s₁) (notedBy (model prog w) A env fun e s' => R (.error e) s') s)
  (n : Nat) (h : I n s) :
  codeAny (model prog w) A (.compLoop (.ListComp elt [⟨target,iter,ifs,0⟩] scope pos) 0 it acc env) R s := by
 refine codeAny_loop rfl I (fun n s hI => ?_) n h; show wpAny _ A ((compTurn (.ListComp elt [⟨target,iter,ifs,0⟩] scope pos) 0 it acc env).onRaise (fun x => do noteFrame x env; theTreesLotGoes x)) _ _ s; refine wpAny_noted ?_; rw [compTurn_list]; refine wpAny_bind (wpAny_standAt (wpAny_bind (wpAny_mono (turn n s hI) (fun r s₁ h₁ => ?_) fun _ _ h' => h')))
 cases r with
 | none => exact wpAny_pure h₁
 | some v =>
  refine wpAny_bind (wpAny_mono h₁ (fun _ s₁' h₁' => ?_) fun _ _ h' => h'); refine wpAny_bind (wpAny_mono h₁' (fun _ s₂ h₂ => wpAny_bind (wpAny_mono h₂ (fun ok s₃ h₃ => ?_) fun _ _ h' => h')) fun _ _ h' => h')
  cases ok with
  | false => exact wpAny_pure ⟨rfl,h₃⟩
  | true =>
   exact wpAny_bind (wpAny_bind (wpAny_mono h₃ (fun x s₄ h₄ => wpAny_bind (wpAny_mono h₄ (fun _ s₅ h₅ => wpAny_pure (wpAny_pure ⟨rfl,h₅⟩)) fun _ _ h' => h')) fun _ _ h' => h'))
section
variable {X : Cx}
def tLc (wi : TI) (g : TG) (tt : TT) (te : TE) (vs : List Nat) : TE := fun σ H Q => wi σ H fun J H1 => ∀ D,H1 D = none -> ∃ W : Nat -> Nat -> Hp -> Prop,(∃ m,W 0 m (upd H1 D (.lst []))) /\ ∀ i m H,W i m H →
 (J.stop i H /\ Q (.ref D) H) \/ (J.go i H /\ ∃ Nx : Hp -> Prop,(∀ H',Nx H' -> ∃ m',m' < m /\ W (i + 1) m' H') /\ ∀ x H',J.yld i H x H' -> g x (bJ σ vs) H' fun σ2 H2 => bJ σ2 vs = bJ σ vs /\ tt σ2 H2 fun b H3 =>
  if b = true then te σ2 H3 fun y H4 => ∃ acc,H4 D = some (.lst acc) /\ acc.length < sizeLine /\ Nx (upd H4 D (.lst (acc ++ [y]))) else Nx H3)
theorem yg {pins : List (Addr × Obj)} {s : Shared} {σ : St} {H : Hp} {Q : VK} {elt tg iter : Expr} {ifs : List Expr} {scope : Scope} {own : List (Str × Nat)} {pos pos' : Pos} {wi : TI} {g : TG} {tt : TT} {te : TE} {use : Option (Value -> Sem Unit)} {Qf : Value -> Shared -> Prop}
  (hc : X.calm = true) (hN : X.N.Nodup) (I : ay X pins σ H s) (hi : PI X tg iter wi) (ok : tS X.N X.env.scope scope own)
  (hg : ∀ (s : Shared) (H : Hp) (C : Addr) (cl : List (Str × Addr)) (fp : List Addr),PG (X.blk s H scope (compEnvC scope cl C X.env) fp) tg g) (ht : ∀ (s : Shared) (H : Hp) (C : Addr) (cl : List (Str × Addr)) (fp : List Addr),PTs (X.blk s H scope (compEnvC scope cl C X.env) fp) ifs tt)
  (he : ∀ (s : Shared) (H : Hp) (C : Addr) (cl : List (Str × Addr)) (fp : List Addr),PE (X.blk s H scope (compEnvC scope cl C X.env) fp) elt te) (hs : ∀ x,foldedSetIterable iter X.env x = pure x)
  (h : tLc wi g tt te (own.map (·.2)) σ H Q)
  (hRR : ∀ D C s' m H',ay X pins σ H' s' -> Q (.ref D) H' -> s'.heap.Ns C m -> kO X pins H' C -> compPost (model X.prog X.w) X.A X.xe use Qf (.ref D) C (.ok .next) s') :
  wpAny (model X.prog X.w) X.A (comprehension (.ListComp elt [⟨tg,iter,ifs,0⟩] scope pos) scope X.env pos' (newList []) false (eval iter X.env) use) Qf X.xe s := by
 have hfree : ∀ y ∈ scope.names,y.2 = .free -> ∃ c,X.env.cells.lookup y.1 = some c := fun y hy e => by
  rcases ok.free y hy e with k | k
  ·exact I.ok.has _ (.inl k)
  ·exact I.ok.has _ (.inr k)
 refine wpAny_comprehension_free (use := use) rfl hs (zf hfree) ok.kind (fun y hy e => by rw [ok.uniq y hy,e])
  (bp (hi pins s σ H _ I h) fun xv s1 hx => bp hx fun itv s2 h2 => ?_)
 obtain ⟨it,fp,tn,J,H2,e,I2,T,st2,f2,q⟩ := h2; subst e; refine wpAny_newObj_type (x9 ?_) (by show 0 <= sizeLine; decide); generalize hD : s2.heap.objs.size = D; have hDn : H2 D = none := I2.hok.fresh (Nat.le_of_eq hD); obtain ⟨W,⟨m0,w0⟩,turn⟩ := q D hDn; generalize hs3 : ({ s2 with heap := s2.heap.push { cls := .type "list",data := .seq ([] : List Value).toArray } } : Shared) = s3
 have I3 : ay X pins σ (upd H2 D (.lst [])) s3 := by
  rw [← hs3]; refine I2.laid (t' := s2.toks) (fun b o e => Heap.get?_push_of_some _ e) (Nat.le_of_eq hD) ⟨Nat.zero_le _,[],0,.nil,?_⟩; rw [← hD]; exact Heap.get?_push_size _ rfl
 have h3 : s3.heap = s2.heap.push { cls := .type "list",data := .seq ([] : List Value).toArray } := by rw [← hs3]
 have sz : ∀ b ∈ fp,b < s2.heap.objs.size := fun b hb => by
  obtain ⟨o,e,_⟩ := T.obj _ _ st2 b hb; exact Heap.lt_size e
 have f3 : ∀ b ∈ fp,kO X pins (upd H2 D (.lst [])) b /\ b < s3.heap.objs.size := fun b hb => by
  have hlt := sz b hb; refine ⟨⟨?_,(f2 b hb).2⟩,by rw [h3,Heap.size_push]; exact Nat.lt_succ_of_lt hlt⟩; rw [aK (by rw [← hD]; exact Nat.ne_of_lt hlt)]; exact (f2 b hb).1
 have st3 : tn 0 s3.heap := T.keep _ _ _ st2 fun b _ o e => by rw [h3]; exact Heap.get?_push_of_some _ e
 have I4 := xT I3 ok hN f3; have pg := hg s3 (upd H2 D (.lst [])) s3.heap.objs.size (cellsFrom (s3.heap.objs.size + 1) scope.names (bQ X.env.cells scope.names [])) fp; have pt := ht s3 (upd H2 D (.lst [])) s3.heap.objs.size (cellsFrom (s3.heap.objs.size + 1) scope.names (bQ X.env.cells scope.names [])) fp; have pe := he s3 (upd H2 D (.lst [])) s3.heap.objs.size (cellsFrom (s3.heap.objs.size + 1) scope.names (bQ X.env.cells scope.names [])) fp; show codeAny _ _ (.compStart (.ListComp elt [⟨tg,iter,ifs,0⟩] scope pos) 0 (.ref it) (.ref D) (compEnvC scope (cellsFrom (s3.heap.objs.size + 1) scope.names (bQ X.env.cells scope.names [])) s3.heap.objs.size X.env)) (compPost (model X.prog X.w) X.A X.xe use Qf (.ref D) s3.heap.objs.size) { s3 with heap := pushCells (s3.heap.push { cls := .type "dict",data := .dict #[] }) scope.names }; have nfp : ∀ b ∈ fp,(upd H2 D (.lst [])) b = none := fun b hb => (f3 b hb).1.1
 generalize hce : compEnvC scope (cellsFrom (s3.heap.objs.size + 1) scope.names (bQ X.env.cells scope.names [])) s3.heap.objs.size X.env = ce at I4 pg pt pe ⊢; have cL : ce.locals = s3.heap.objs.size := by subst hce; rfl
 generalize hH3 : upd H2 D (.lst []) = H3 at I3 I4 pg pt pe w0 nfp f3; generalize hs4 : ({ s3 with heap := pushCells (s3.heap.push { cls := .type "dict",data := .dict #[] }) scope.names } : Shared) = s4 at I4 ⊢; have st4 : tn 0 s4.heap := T.keep _ _ _ st3 fun b _ o e => by rw [← hs4]; exact pushCells_keeps _ _ _ _ (Heap.get?_push_of_some _ e)
 have stat : ∀ {σ' : St} {H' : Hp} {s' : Shared},ay (X.blk s3 H3 scope ce fp) [] σ' H' s' -> (∀ b ∈ fp,H' b = none) -> ∀ b ∈ fp,kO (X.blk s3 H3 scope ce fp) [] H' b := fun {σ' H' s'} I' hn b hb =>
  ⟨hn b hb,(I'.ok.exf b hb).1,I'.ok.exfs b hb,.inl hb,fun x c e => (I'.ok.exf b hb).2 x c e,fun p hp => absurd (show p ∈ ([] : List (Addr × Obj)) ++ [] from hp) (by simp)⟩
 have loop : codeAny (model X.prog X.w) X.A (.compLoop (.ListComp elt [⟨tg,iter,ifs,0⟩] scope pos) 0 (.ref it) (.ref D) ce) (compPost (model X.prog X.w) X.A X.xe use Qf (.ref D) s3.heap.objs.size) s4 := by
  refine wO (fun n s' => ∃ i H',ay (X.blk s3 H3 scope ce fp) [] (bJ σ (own.map (·.2))) H' s' /\ tn i s'.heap /\ (∀ b ∈ fp,H' b = none) /\ W i n H') ?_ m0 ⟨0,H3,I4,st4,nfp,w0⟩; rintro n s5 ⟨i,H5,I5,st5,n5,w5⟩
  rcases turn i n H5 w5 with ⟨stop,qq⟩ | ⟨go,Nx,hNx,step⟩
  ·have td := T.done (X.blk s3 H3 scope ce fp) rfl rfl rfl hc i [] s5 _ H5 (fun _ _ => False) I5 (stat I5 n5) st5 stop; refine uQ td fun r s6 ⟨hr,I6⟩ => ?_
   subst hr; have I7 : ay X pins σ H5 s6 := I3.call' (ch := fp) I6.os I6.base I6.hok I6.bare fun b hb => ⟨(f3 b hb).1.2.2.2.1,(f3 b hb).1.2.1,(f3 b hb).1.2.2.2.2.1,(f3 b hb).1.2.2.2.2.2⟩
   have nC : H5 s3.heap.objs.size = none := by
    have z : H5 ce.locals = none := I6.free; rw [cL] at z; exact z
   obtain ⟨m,hn,_⟩ := I6.loc; have hn : s6.heap.Ns ce.locals m := hn; rw [cL] at hn; exact hRR D s3.heap.objs.size s6 m H5 I7 qq hn (I3.fpOk (Nat.le_refl _) nC)
  ·have ti := T.item (X.blk s3 H3 scope ce fp) rfl rfl rfl hc i [] s5 _ H5 (fun _ _ => False) I5 (stat I5 n5) st5 go; refine uQ ti fun r s6 ⟨u,hr,h6⟩ => ?_
   subst hr; refine uQ h6 fun _ s7 ⟨x,H7,I7,r7,y7,st7,n7⟩ => ?_
   have I7' := I7.pinned (stat I7 n7) (T.obj _ _ st7); refine uQ (pg _ s7 _ H7 x u _ I7' r7 (step x H7 y7)) fun _ s8 ⟨σ8,H8,I8,hw8,q8⟩ => ?_
   refine uQ (pt _ s8 σ8 H8 _ I8 q8) fun b s9 ⟨H9,I9,q9⟩ => ?_
   have fin : ∀ {s' : Shared} {H' : Hp},ay (X.blk s3 H3 scope ce fp) ([] ++ qN fp s7.heap) σ8 H' s' -> Nx H' -> ∃ m,m < n /\ ∃ i H',ay (X.blk s3 H3 scope ce fp) [] (bJ σ (own.map (·.2))) H' s' /\ tn i s'.heap /\ (∀ b ∈ fp,H' b = none) /\ W i m H' := fun {s' H'} I' nx => by
    obtain ⟨m',hm,w'⟩ := hNx H' nx
    have pin' : ∀ b ∈ fp,∀ o,s7.heap.get? b = some o -> s'.heap.get? b = some o /\ H' b = none := fun b hb o e =>
     let z := I'.pin (b,o) (List.mem_append_right _ (List.mem_append_right _ (pr hb e)))
     ⟨z.1,z.2.1⟩
    have hl : (bJ σ (own.map (·.2))).length = σ8.length := by rw [← hw8,nw]
    refine ⟨m',hm,i + 1,H',(I'.unpinned (pins := [])).weak hl (fun j v e => ?_),T.keep _ _ _ st7 fun b hb o e => (pin' b hb o e).1,fun b hb => ?_,w'⟩
    ·rw [← hw8] at e; exact (qg e).1
    ·obtain ⟨o,e,_⟩ := T.obj _ _ st7 b hb; exact (pin' b hb o e).2
   cases b with
   | false =>
    simp only [Bool.false_eq_true,if_false] at q9 ⊢; exact fin I9 q9
   | true =>
    simp only [if_true] at q9 ⊢; refine uQ (pe _ s9 σ8 H9 _ I9 q9) fun z s10 ⟨yv,H10,I10,r10,acc,hD10,hz10,nx⟩ => ?_
    exact acQ (X := X.blk s3 H3 scope ce fp) I10 hD10 hz10 r10 fun s11 I11 => fin I11 nx
 exact codeAny_compStart_list loop (T.self X.A 0 _ _ _ st4 loop)
theorem dB {elt tg iter : Expr} {ifs : List Expr} {scope : Scope} {own : List (Str × Nat)} {pos : Pos} {wi : TI} {g : TG} {tt : TT} {te : TE} (hc : X.calm = true) (hN : X.N.Nodup) (hi : PI X tg iter wi) (ok : tS X.N X.env.scope scope own)
  (hg : ∀ (s : Shared) (H : Hp) (C : Addr) (cl : List (Str × Addr)) (fp : List Addr),PG (X.blk s H scope (compEnvC scope cl C X.env) fp) tg g) (ht : ∀ (s : Shared) (H : Hp) (C : Addr) (cl : List (Str × Addr)) (fp : List Addr),PTs (X.blk s H scope (compEnvC scope cl C X.env) fp) ifs tt)
  (he : ∀ (s : Shared) (H : Hp) (C : Addr) (cl : List (Str × Addr)) (fp : List Addr),PE (X.blk s H scope (compEnvC scope cl C X.env) fp) elt te) (hs : ∀ x,foldedSetIterable iter X.env x = pure x := by intro _; rfl) :
  PE X (.ListComp elt [⟨tg,iter,ifs,0⟩] scope pos) (tLc wi g tt te (own.map (·.2))) := by
 intro pins s σ H Q I h; rw [eval_ListComp]; refine yg hc hN I hi ok hg ht he hs h fun D C s' m H' I' q hn f => ⟨m,hn,fun h'' sb => ?_⟩
 obtain ⟨f0,f1,f2,f3,f4,f5⟩ := f; exact ⟨.ref D,H',I'.turned (t' := s'.toks) (fun b o hb e => (sb.2 b hb).trans e) f0 f1 f3 f4 f5,rfl,q⟩
theorem cU {i : Nat} {y : Str} {py : Pos} {elt tg iter : Expr} {ifs : List Expr} {scope : Scope} {own : List (Str × Nat)} {pos spos : Pos} {wi : TI} {g : TG} {tt : TT} {te : TE} (hc : X.calm = true) (hN : X.N.Nodup) (hy : X.N[i]? = some y) (hyl : X.env.scope.names.lookup y = some .local)
  (hsw : swapsWith (.ListComp elt [⟨tg,iter,ifs,0⟩] scope pos) (some (.Name y py)) spos.line X.env = pure true) (hi : PI X tg iter wi) (ok : tS X.N X.env.scope scope own)
  (hg : ∀ (s : Shared) (H : Hp) (C : Addr) (cl : List (Str × Addr)) (fp : List Addr),PG (X.blk s H scope (compEnvC scope cl C X.env) fp) tg g) (ht : ∀ (s : Shared) (H : Hp) (C : Addr) (cl : List (Str × Addr)) (fp : List Addr),PTs (X.blk s H scope (compEnvC scope cl C X.env) fp) ifs tt)
  (he : ∀ (s : Shared) (H : Hp) (C : Addr) (cl : List (Str × Addr)) (fp : List Addr),PE (X.blk s H scope (compEnvC scope cl C X.env) fp) elt te) (hs : ∀ x,foldedSetIterable iter X.env x = pure x := by intro _; rfl) :
  PS X (.Assign [.Name y py] (.ListComp elt [⟨tg,iter,ifs,0⟩] scope pos) spos) (y8 (tLc wi g tt te (own.map (·.2))) (gV i)) := by
 intro pins s σ H D I h; rw [exec_Assign_Name_used _ _ _ _ hsw]; refine wpAny_bind (wpAny_standAt (wpAny_bind ?_)); show wpAny _ X.A (do let _ ← comprehension (.ListComp elt [⟨tg,iter,ifs,0⟩] scope pos) scope X.env (firstIterPos [⟨tg,iter,ifs,0⟩] pos) (newList []) false (eval iter X.env) (some (assign (.Name y py) X.env))) _ _ s; have h : tLc wi g tt te (own.map (·.2)) σ H (fun x H1 => gV i x σ H1 D.nx) := h; refine wpAny_bind (bp (yg (Qf := fun _ s' => SP X pins D .next s') hc hN I hi ok hg ht he hs h fun L C s' m H' I' q hn f => ?_) fun _ s' hq => wpAny_pure (wpAny_pure hq)); show wpAny _ _ (assign (.Name y py) X.env (.ref L)) _ _ _; refine wpAny_assign_Name (vK (v := V.ref L) I' hN hy (.inl hyl) rfl (fun s2 I2 ⟨a,sb,ha⟩ => ?_) (.inr hyl)); obtain ⟨f0,f1,f2,f3,f4,f5⟩ := f
 have haC : C ≠ a := by
  rcases ha with z | z
  ·rw [z]; exact f1
  ·exact fun e => f4 y a z e.symm
 refine ⟨m,hn.sameBut sb haC,fun h3 sb3 => ?_⟩; exact ⟨_,H',I2.turned (t' := s2.toks) (fun b o hb e => (sb3.2 b hb).trans e) f0 f1 f3 f4 f5,q⟩
theorem dN {elt : Expr} {gs : List Comprehension} {scope : Scope} {pos py : Pos} {y : Str} {l : Nat} {env : Env} (hk : env.scope.kind = .function) (hy : env.scope.names.lookup y = some .local) (hl : (py.line == pos.line) = true)
  (ha : (scope.names.any fun (n,k) => n == y && (k == .local || k == .cell)) = false) : swapsWith (.ListComp elt gs scope pos) (some (.Name y py)) l env = pure true := by
 have ky : env.kindOf y = some .local := hy; have hb : env.blockKind = .function := by unfold Env.blockKind; rw [hk]; rfl
 unfold swapsWith; simp only [hb,ky,ha,Expr.pos,hl]; rfl
end
def acG (N : List Str) (sc scope : Scope) (own : List (Str × Nat)) : Bool :=
 (match scope.kind with | .function => true | _ => false) && (scope.names.all fun y => decide (scope.names.lookup y.1 = some y.2)) && (own.all fun p => decide (N[p.2]? = some p.1)) &&
  (scope.names.all fun y => match y.2 with
   | .free => (match sc.names.lookup y.1 with | some .cell => true | some .free => true | _ => false)
   | .local => decide (y.1 ∈ own.map (·.1)) || decide (y.1 ∉ N)
   | .cell => decide (y.1 ∈ own.map (·.1)) || decide (y.1 ∉ N)
   | _ => true)
theorem a_ {N : List Str} {sc scope : Scope} {own : List (Str × Nat)} (h : acG N sc scope own = true) : tS N sc scope own := by
 unfold acG at h; simp only [Bool.and_eq_true,List.all_eq_true,decide_eq_true_eq] at h; obtain ⟨⟨⟨h1,h2⟩,h3⟩,h4⟩ := h; refine ⟨?_,h2,h3,fun y hy e => ?_,fun y hy e => ?_⟩
 ·split at h1
  ·assumption
  ·cases h1
 ·have q := h4 y hy; simp only [e] at q
  split at q <;> first | exact .inl (by assumption) | exact .inr (by assumption) | cases q
 ·have q := h4 y hy
  rcases e with e | e <;> (simp only [e,Bool.or_eq_true,decide_eq_true_eq] at q; exact q)
def abg (i : Expr) : Prop := ∀ ov iv,subscripted i false ov iv = operate [ov,iv] (getItem ov iv)
theorem yM {prog : Program} {w : World} {A : Around} {E : Value -> Shared -> Prop} {s : Shared} {env : Env} {value slice : Expr} {pos : Pos} {T id : String} {Q : Value -> Shared -> Prop}
  (hl : typeLookup (.type T) "__getitem__" = pure (some (.builtin id))) (hs : abg slice)
  (h : wpAny (model prog w) A (eval value env) (fun o s₁ => wpAny (model prog w) A (eval slice env) (fun i s₂ => s₂.TypeIs o T /\ wpAny (model prog w) A (getItem o i) Q E s₂) E s₁) E s) :
  wpAny (model prog w) A (eval (.Subscript value slice pos) env) Q E s := by
 refine Subscript_ (wpAny_mono h (fun o s₁ h₁ => wpAny_mono h₁ (fun i s₂ h₂ => ?_) fun _ _ x => x) fun _ _ x => x); obtain ⟨hT,h₂⟩ := h₂; unfold subscriptTail; refine wpAny_bind ?_; rw [getitemInPython_of_ne hT.not_modules]; refine wpAny_bind (wpAny_specialOf hT hl ?_)
 have fin : wpAny (model prog w) A (subscripted slice false o i) (fun r s₃ => wpAny (model prog w) A (letTemporaryGo value o r >>= fun _ => pure r) Q E s₃) E s₂ := by
  rw [hs o i]; exact wpAny_operating (wpAny_mono h₂ (fun r s₃ h₃ => wpAny_bind (wpAny_letTemporaryGo (wpAny_pure h₃))) fun _ _ x => x)
 first
  | exact wpAny_pure (wpAny_bind fin)
  | exact wpAny_bind (wpAny_pure (wpAny_bind fin))
  | exact wpAny_bind fin
theorem uz : bootBuiltins "reversed" = some (.type "reversed") := by decide +kernel
section
variable {X : Cx} {pins : List (Addr × Obj)} {σ : St} {H : Hp} {s : Shared} {h' : Heap}
theorem ay.turnedL {t' : Nat} {ch : List Addr} (I : ay X pins σ H s) (k : ∀ b o,b ∉ ch -> s.heap.get? b = some o -> h'.get? b = some o) (hf : ∀ b ∈ ch,kO X pins H b) : ay X pins σ H { s with heap := h',toks := t' } := by
 have nit : ∀ b u,H b = some u -> b ∉ ch := fun b u e z => by
  have q := (hf b z).1; rw [q] at e; cases e
 refine I.step (g' := s.gens) (d' := s.drawn) (ch := ch) (fun b hb => ⟨(hf b hb).2.2.2.1,(hf b hb).2.1,(hf b hb).2.2.2.2.1,(hf b hb).2.2.2.2.2⟩) (fun b o _ _ hc e _ => k b o hc e) (fun b o _ _ hc e _ => ⟨o.slots,k b o hc e⟩)
  (fun _ _ _ _ n => n) (fun b o hc e => ⟨o,k b o hc e⟩) (fun _ _ e => e) (fun _ _ _ e => e) (fun b ps e => ⟨#[],by rw [e]; simp⟩) (fun m hm => ?_) (fun b u e => ?_) I.bare
 ·obtain ⟨o,es,ep,ho,r⟩ := hm; exact ⟨o,es,ep,k _ o (fun z => (hf _ z).2.1 rfl) ho,r⟩
 ·refine (I.hok b u e).stay (fun c v hc q => k c v ?_ q) (fun _ q => q) fun _ _ q => q
  rcases hc with z | z
  ·rw [z]; exact nit b u e
  ·exact nit c _ z
theorem ay.turnedNew {t' : Nat} {ch : List Addr} {T : Addr} {ob : HO} (I : ay X pins σ H s) (k : ∀ b o,b ∉ ch -> s.heap.get? b = some o -> h'.get? b = some o) (hf : ∀ b ∈ ch,kO X pins H b) (hT : s.heap.objs.size <= T)
  (new : df X.prog X.w (upd H T ob) h' T ob) : ay X pins σ (upd H T ob) { s with heap := h',toks := t' } := by
 have hn : H T = none := I.hok.fresh hT
 have nit : ∀ b u,H b = some u -> b ∉ ch := fun b u e z => by
  have q := (hf b z).1; rw [q] at e; cases e
 refine I.step (g' := s.gens) (d' := s.drawn) (ch := ch) (fun b hb => ⟨(hf b hb).2.2.2.1,(hf b hb).2.1,(hf b hb).2.2.2.2.1,(hf b hb).2.2.2.2.2⟩) (fun b o _ _ hc e _ => k b o hc e) (fun b o _ _ hc e _ => ⟨o.slots,k b o hc e⟩)
  (fun b o _ e n => ?_) (fun b o hc e => ⟨o,k b o hc e⟩) (fun b xs e => ?_) (fun b o u e => ?_) (fun b ps e => ⟨#[],?_⟩) (fun m hm => ?_) (fun b u e => ?_) I.bare
 ·rw [aK (Nat.ne_of_lt (Nat.lt_of_lt_of_le (Heap.lt_size e) hT))]; exact n
 ·rw [aK (aJ e hn)]; exact e
 ·rw [aK (aJ e hn)]; exact e
 ·rw [aK (aJ e hn),e]; simp
 ·obtain ⟨o,es,ep,ho,r⟩ := hm; exact ⟨o,es,ep,k _ o (fun z => (hf _ z).2.1 rfl) ho,r⟩
 ·by_cases hb : b = T
  ·subst hb; rw [am] at e; cases e; exact new
  ·rw [aK hb] at e; refine (I.hok b u e).stay (fun c v hc q => k c v ?_ q) (fun c q => by rw [aK (aJ q hn)]; exact q) fun c xs q => by rw [aK (aJ q hn)]; exact q
   rcases hc with z | z
   ·rw [z]; exact nit b u e
   ·exact nit c _ z
theorem ay.lock {d : Addr} {u : HO} (I : ay X pins σ H s) (h : H d = some u) (mu : wT (some u)) : ∃ od,ay X pins σ (upd H d (.frz od u)) s := by
 have x := I.hok d u h
 have ex : ∃ od,s.heap.get? d = some od := by
  cases u with
  | lst xs => obtain ⟨_,_,_,_,e⟩ := x; exact ⟨_,e⟩
  | dK kvs => obtain ⟨_,_,_,_,o,_,_,e,_⟩ := x; exact ⟨o,e⟩
  | dT kvs => obtain ⟨_,_,_,_,o,_,_,e,_⟩ := x; exact ⟨o,e⟩
  | set S n => obtain ⟨o,_,_,_,e,_⟩ := x; exact ⟨o,e⟩
  | ins C dx fs => obtain ⟨_,_,_,e,_⟩ := x; exact ⟨_,e⟩
  | ext φ => obtain ⟨_,⟨_,e⟩,_⟩ := x; exact ⟨_,e⟩
  | _ => exact False.elim mu
 obtain ⟨od,e⟩ := ex
 have new : df X.prog X.w (upd H d (.frz od u)) s.heap d (.frz od u) := by
  refine ⟨e,x.stay (fun b v _ q => q) (fun b q => ?_) fun b xs q => ?_⟩
  ·rw [aK (fun z => by rw [z,h] at q; cases q; exact mu)]; exact q
  ·rw [aK (fun z => by rw [z,h] at q; cases q; exact mu)]; exact q
 exact ⟨od,I.write (x := d) (e := d) (t' := s.toks) (h' := s.heap) (by rw [h]; exact mu) (.inl rfl) (fun b v _ q => q) ⟨od,e⟩ new⟩
theorem ay.nofrz {d : Addr} {u : HO} (I : ay X pins σ H s) (h : H d = some u) (mu : wT (some u)) : ∀ o' u',X.H_0 d ≠ some (.frz o' u') := fun o' u' e => by
 have q := I.base.frzs d o' u' e; rw [h] at q; cases q; exact mu
theorem ay.unlock {d : Addr} {od : Obj} {u : HO} (I : ay X pins σ H s) (h : H d = some (.frz od u)) (hn : ∀ o' u',X.H_0 d ≠ some (.frz o' u')) : ay X pins σ (upd H d u) s := by
 have neH : ∀ b o,H b = some o -> (∀ o' u',o ≠ .frz o' u') -> b ≠ d := fun b o e hne z => by
  rw [z,h] at e; cases e; exact hne _ _ rfl
 have neN : ∀ b,H b = none -> b ≠ d := fun b e z => by rw [z,h] at e; cases e
 refine ⟨I.ok,I.os,I.bare,⟨I.base.keep,I.base.slot,fun b o e n hx => ?_,I.base.there,fun b xs e => ?_,fun b o x e => ?_,fun b ps e => ?_⟩,I.loc,I.cell,?_,fun x c e => ?_,fun p hp => ?_,fun b o e => ?_,I.len⟩
 ·rw [aK (neN b (I.base.free b o e n hx))]; exact I.base.free b o e n hx
 ·have q := I.base.tups b xs e; rw [aK (neH b _ q (fun _ _ z => nomatch z))]; exact q
 ·have q := I.base.frzs b o x e; rw [aK (fun z => by rw [z] at e; exact hn _ _ e)]; exact q
 ·obtain ⟨m,q⟩ := I.base.tbls b ps e; exact ⟨m,by rw [aK (neH b _ q (fun _ _ z => nomatch z))]; exact q⟩
 ·rw [aK (neN _ I.free)]; exact I.free
 ·rw [aK (neN c (I.freeC x c e))]; exact I.freeC x c e
 ·obtain ⟨e,n,r⟩ := I.pin p hp; exact ⟨e,by rw [aK (neN _ n)]; exact n,r⟩
 ·by_cases hb : b = d
  ·rw [hb,am] at e; cases e; rw [hb]; obtain ⟨_,x⟩ := I.hok d _ h; exact x.stay (fun c v _ q => q) (fun c q => by rw [aK (neH c _ q (fun _ _ z => nomatch z))]; exact q) fun c xs q => by rw [aK (neH c _ q (fun _ _ z => nomatch z))]; exact q
  ·rw [aK hb] at e; exact (I.hok b o e).stay (fun c v _ q => q) (fun c q => by rw [aK (neH c _ q (fun _ _ z => nomatch z))]; exact q) fun c xs q => by rw [aK (neH c _ q (fun _ _ z => nomatch z))]; exact q
end
def ads (t : TS) : TS := fun D σ H => ∃ d u,H d = some u /\ wT (some u) /\ ∀ od,t ⟨fun σ' H' => H' d = some (.frz od u) /\ D.nx σ' (upd H' d u),fun v H' => H' d = some (.frz od u) /\ D.rt v (upd H' d u),fun σ' H' => H' d = some (.frz od u) /\ D.bk σ' (upd H' d u),fun σ' H' => H' d = some (.frz od u) /\ D.ct σ' (upd H' d u)⟩ σ (upd H d (.frz od u))
section
variable {X : Cx}
theorem abU {st : Stmt} {t : TS} (h : PS X st t) : PS X st (ads t) := by
 intro pins s σ H D I hw; obtain ⟨d,u,hd,mu,hw⟩ := hw; obtain ⟨od,I1⟩ := I.lock hd mu; refine bp (h pins s σ _ _ I1 (hw od)) fun f s1 q => ?_
 cases f with
 | next => obtain ⟨σ',H',I2,e,q⟩ := q; exact ⟨σ',_,I2.unlock e (I.nofrz hd mu),q⟩
 | brk => obtain ⟨σ',H',I2,e,q⟩ := q; exact ⟨σ',_,I2.unlock e (I.nofrz hd mu),q⟩
 | cont => obtain ⟨σ',H',I2,e,q⟩ := q; exact ⟨σ',_,I2.unlock e (I.nofrz hd mu),q⟩
 | ret v => obtain ⟨x,σ',H',I2,r,e,q⟩ := q; exact ⟨x,σ',_,I2.unlock e (I.nofrz hd mu),r,q⟩
theorem tw {tg : Expr} {pins : List (Addr × Obj)} {σ : St} {H : Hp} {s : Shared} {R : It -> Hp -> Prop} {J : It} {tn : Nat -> Heap -> Prop} {tk : Nat} (I : ay X pins σ H s) (o : Obj)
  (T : o0 X.prog X.w X.K tg J [s.heap.objs.size] s.heap.objs.size tn) (st : tn 0 (s.heap.push o)) (q : R J H) : PIE X pins σ tg R (.ref s.heap.objs.size) { s with heap := s.heap.push o,toks := tk } := by
 refine ⟨s.heap.objs.size,[s.heap.objs.size],tn,J,H,rfl,I.kept fun b ob e => Heap.get?_push_of_some _ e,T,st,fun b hb => ?_,q⟩; have e : b = s.heap.objs.size := by simpa using hb
 subst e; exact I.fpOk (Nat.le_refl _) (I.hok.fresh (Nat.le_refl _))
end
def yL (lo c : Int) (n : Nat) : It := ⟨fun i _ => i < n,fun i H x H' => H' = H /\ x = .int (lo + (i : Nat) * c),fun i _ => n <= i⟩
theorem x8 {P : Program} {w : World} {K : Fg} {tg : Expr} (it : Addr) (lo c : Int) (n : Nat) : o0 P w K tg (yL lo c n) [it] it (fun i h => IsRangeIter h it (lo + (i : Nat) * c) ((n : Int) - (i : Nat)) c) where
 mem := by simp
 obj := fun i h st b hb => by
  have e : b = it := by simpa using hb
  subst e; exact ⟨_,st,fun v z => nomatch z⟩
 keep := fun i h h' st k => k it (by simp) _ st
 item := by
  intro X hP hw hK hc i pins s σ H E I hf st hg; subst hP hw hK; obtain ⟨f0,f1,f2,f3,f4,f5⟩ := hf it (by simp); have W := Walks.range (prog := X.prog) (w := X.w) (I.ok.hd hc) it lo c n; refine W.item i s _ _ hg st fun v h' tk hv st' kk => ?_
  obtain ⟨t,rfl⟩ := hv; have I1 : ay X pins σ H { s with heap := h',toks := tk } := I.turned (fun b o hb e => kk b o (by simpa using hb) e) f0 f1 f3 f4 f5; exact ⟨_,rfl,tz (s := { s with heap := h',toks := tk }) (n := "range_iterator") st' rfl rfl (by decide) ⟨.int (lo + (i : Nat) * c),H,I1,⟨t,rfl⟩,⟨rfl,rfl⟩,st',fun b hb => (hf b hb).1⟩⟩
 done := by
  intro X hP hw hK hc i pins s σ H E I hf st hg; subst hP hw hK; obtain ⟨f0,f1,f2,f3,f4,f5⟩ := hf it (by simp); exact wpAny_pyNext_range_end (I.ok.hd hc) st (by have : n <= i := hg; omega) fun h' eb => ⟨rfl,I.turned (t' := s.toks) (fun b o hb e => eb b o hb e) f0 f1 f3 f4 f5⟩
 self := fun A i s Q E st h => wpAny_pyIter_rangeiter st h
def xg (i j c : Int) (n : Nat) : Prop := c ≠ 0 /\ c.natAbs < 1073741824 /\ Builtin.Range.small i j c = true /\ Builtin.Range.rangeSize i j c = n
def adn (ta : TA) : TI := fun σ H R => ta σ H fun vs H1 => ∃ (i j c : Int) (n : Nat),vs = [.int i,.int j,.int c] /\ xg i j c n /\ R (yL i c n) H1
section
variable {X : Cx} {tg : Expr}
theorem vI {a b c : Expr} {ta : TA} {p pos : Pos} (hg : Gl X "range") (hm : X.mg "range" = none) (ha : PA X [a,b,c] ta)
  (hs : starEach [a,b,c] X.env = (false,eval a X.env) :: starEach [b,c] X.env := by rfl) (hpl : (backTo pos (starEach [b,c] X.env)).any (·.1) = false := by rfl) :
  PI X tg (.Call (.Name "range" p) [a,b,c] [] pos) (adn ta) := by
 intro pins s σ H R I h; refine Call_ (j8 I hg hm boot_range (PyProof.Rows.callWith_type1 (bp (ha pos pins s σ H _ I h) fun us s1 ⟨vs,H1,I1,r1,q1⟩ => ?_) hs hpl)); obtain ⟨i,j,k,n,e,⟨c0,c1,c2,c3⟩,q⟩ := q1; subst e
 cases r1 with
 | cons r rr =>
  cases rr with
  | cons r' rr =>
   cases rr with
   | cons r'' rr =>
    cases rr; obtain ⟨t,rfl⟩ := r; obtain ⟨t',rfl⟩ := r'; obtain ⟨t'',rfl⟩ := r''; refine call_range_3 c0 ?_ (.inl (PyProof.noPylong_small c1)); refine wpAny_pyIter_range (IsRange.new ..) c2 ?_; have I2 : ay X pins σ H1 { s1 with heap := s1.heap.push { cls := .type "range",data := .fields #[.int i t,.int j t',.int k t''] } } := I1.kept (t' := s1.toks) fun b o e => Heap.get?_push_of_some _ e
    refine tw (tk := s1.toks) I2 _ (x8 _ i k n) ?_ q; have e1 : i + ((0 : Nat) : Int) * k = i := by simp
    have e2 : (n : Int) - ((0 : Nat) : Int) = Builtin.Range.rangeSize i j k := by rw [c3]; simp
    show IsRangeIter _ _ (i + ((0 : Nat) : Int) * k) ((n : Int) - ((0 : Nat) : Int)) k; rw [e1,e2]; exact Heap.get?_push_size _ rfl
end
theorem zF {lo c : Int} {n : Nat} {g : TG} {tb : TS} {D : kG} {σ : St} {H : Hp} (Pv : Nat -> St -> Hp -> Prop) (h0 : Pv 0 σ H)
  (hs : ∀ i σ H,i < n -> Pv i σ H -> g (.int (lo + (i : Nat) * c)) σ H fun σ2 H2 => tb { D with nx := Pv (i + 1),ct := Pv (i + 1),bk := D.nx } σ2 H2) (hd : ∀ σ H,Pv n σ H -> D.nx σ H) :
  ∃ W : Nat -> Nat -> St -> Hp -> Prop,(∃ m,W 0 m σ H) /\ ∀ i m σ H,W i m σ H →
   ((yL lo c n).stop i H /\ D.nx σ H) \/ ((yL lo c n).go i H /\ ∃ N : St -> Hp -> Prop,(∀ σ' H',N σ' H' -> ∃ m',m' < m /\ W (i + 1) m' σ' H') /\ ∀ x H',(yL lo c n).yld i H x H' -> g x σ H' fun σ2 H2 => tb { D with nx := N,ct := N,bk := D.nx } σ2 H2) := by
 refine ⟨fun i m σ H => m = n - i /\ i <= n /\ Pv i σ H,⟨n,by simp,Nat.zero_le _,h0⟩,?_⟩; rintro i m σ H ⟨rfl,hi,p⟩
 by_cases hlt : i < n
 ·refine .inr ⟨hlt,Pv (i + 1),fun σ' H' p' => ⟨n - (i + 1),by omega,rfl,hlt,p'⟩,fun x H' y => ?_⟩; obtain ⟨e,y⟩ := y; subst e y; exact hs i σ _ hlt p
 ·have e : i = n := by omega
  subst e; exact .inl ⟨Nat.le_refl _,hd σ H p⟩
def Itv (K : Fg) (a : Addr) (n : Nat) : It :=
 ⟨fun i H => i < n /\ ∃ (xs : List V) (x : V),ag K H a xs /\ xs[n - 1 - i]? = some x,fun i H x H' => H' = H /\ ∀ xs,ag K H a xs -> xs[n - 1 - i]? = some x,fun i _ => n <= i⟩
theorem aaZ {P : Program} {w : World} {K : Fg} {tg : Expr} (a it : Addr) (n : Nat) : o0 P w K tg (Itv K a n) [it] it (fun i h => i <= n /\ h.IsRevIter it a ((n : Int) - 1 - (i : Nat))) where
 mem := by simp
 obj := fun i h st b hb => by
  have e : b = it := by simpa using hb
  subst e; obtain ⟨_,o,e,c,d⟩ := st; exact ⟨o,e,fun v z => by rw [d] at z; cases z⟩
 keep := fun i h h' st k => ⟨st.1,st.2.at fun o e => k it (by simp) o e⟩
 item := by
  intro X hP hw hK hc i pins s σ H E I hf st hg; subst hP hw hK; obtain ⟨hin,xs,x,hq,hx⟩ := hg; obtain ⟨its,rv,p,hz⟩ := I.list hq; obtain ⟨u,hu,ru⟩ := rv.get hx; obtain ⟨f0,f1,f2,f3,f4,f5⟩ := hf it (by simp); obtain ⟨_,hit⟩ := st; have e1 : (n : Int) - 1 - ((i : Nat) : Int) = ((n - 1 - i : Nat) : Int) := by omega
  rw [e1] at hit; refine wpAny_pyNext_rev_item hit p.isList (x := u) (by simpa using hu) fun h' st' sb => ?_
  have e2 : ((n - 1 - i : Nat) : Int) - 1 = (n : Int) - 1 - ((i + 1 : Nat) : Int) := by omega
  rw [e2] at st'; have I1 : ay X pins σ H { s with heap := h' } := I.turned (t' := s.toks) (fun b o hb e => (sb.2 b hb).trans e) f0 f1 f3 f4 f5; obtain ⟨o,e,c,d⟩ := id st'; exact ⟨u,rfl,tz (s := { s with heap := h' }) e c d (by decide) ⟨x,H,I1,ru,⟨rfl,fun ys hy => by rw [I.list_inj hy hq]; exact hx⟩,⟨hin,st'⟩,fun b hb => (hf b hb).1⟩⟩
 done := by
  intro X hP hw hK hc i pins s σ H E I hf st hg; subst hP hw hK; obtain ⟨f0,f1,f2,f3,f4,f5⟩ := hf it (by simp); obtain ⟨hin,hit⟩ := st; have hge : n <= i := hg; have e1 : (n : Int) - 1 - ((i : Nat) : Int) = -1 := by omega
  rw [e1] at hit; exact wpAny_pyNext_rev_end (I.ok.hd hc) hit fun h' eb => ⟨rfl,I.turned (t' := s.toks) (fun b o hb e => eb b o hb e) f0 f1 f3 f4 f5⟩
 self := fun A i s Q E st h => wpAny_pyIter_revIter st.2 h
def aeb (K : Fg) (ta : TA) : TI := fun σ H R => ta σ H fun vs H1 => ∃ (a : Addr) (xs : List V),vs = [.ref a] /\ ag K H1 a xs /\ R (Itv K a xs.length) H1
section
variable {X : Cx} {tg : Expr}
theorem xI {e : Expr} {ta : TA} {p pos : Pos} (hg : Gl X "reversed") (hm : X.mg "reversed" = none) (ha : PA X [e] ta) (hs : starEach [e] X.env = [(false,eval e X.env)] := by rfl) : PI X tg (.Call (.Name "reversed" p) [e] [] pos) (aeb X.K ta) := by
 intro pins s σ H R I h; refine Call_ (j8 I hg hm uz (PyProof.Rows.callWith_type1 (bp (ha pos pins s σ H _ I h) fun us s1 ⟨vs,H1,I1,r1,q1⟩ => ?_) hs rfl)); obtain ⟨a,xs,e,hq,q⟩ := q1; subst e
 cases r1 with
 | cons r rr =>
  cases rr; cases r; obtain ⟨its,rv,p',hz⟩ := I1.list hq; have hl := rv.length; have e1 : ((its.toArray.size : Nat) : Int) - 1 = (xs.length : Int) - 1 - ((0 : Nat) : Int) := by simp only [List.size_toArray]; omega
  refine call_reversed_list p'.isList (wpAny_pyIter_revIter (l := a) (i := ((its.toArray.size : Nat) : Int) - 1) ⟨_,Heap.get?_push_size _ rfl,rfl,rfl⟩ ?_); refine tw (tk := s1.toks) I1 _ (aaZ a _ xs.length) ⟨Nat.zero_le _,?_⟩ q; rw [← e1]; exact ⟨_,Heap.get?_push_size _ rfl,rfl,rfl⟩
end
def Its (x : Str) : It := ⟨fun i _ => i < x.cps.size,fun i H v H' => H' = H /\ ∃ c,x.cps[i]? = some c /\ v = .str ⟨#[c]⟩,fun i _ => x.cps.size <= i⟩
theorem wx {P : Program} {w : World} {K : Fg} {tg : Expr} (it : Addr) (x : Str) (t : Tok) (ty : String) (hty : ty = "str_ascii_iterator" \/ ty = "str_iterator") :
  o0 P w K tg (Its x) [it] it (fun i h => h.IsStrIter it ty x t i) where
 mem := by simp
 obj := fun i h st b hb => by
  have e : b = it := by simpa using hb
  subst e; obtain ⟨o,e,c,d⟩ := st; exact ⟨o,e,fun v z => by rw [d] at z; cases z⟩
 keep := fun i h h' st k => let ⟨o,ho,r⟩ := st; ⟨o,k it (by simp) o ho,r⟩
 item := by
  intro X hP hw hK hc i pins s σ H E I hf st hg; subst hP hw hK; obtain ⟨f0,f1,f2,f3,f4,f5⟩ := hf it (by simp)
  have W : Walks X.prog X.w X.A it [it] [it] x.cps.size (SignAt x) (fun i h => h.IsStrIter it ty x t i) := by
   rcases hty with e | e
   ·rw [e]; exact Walks.strAscii (I.ok.hd hc) it x t
   ·rw [e]; exact Walks.strWide (I.ok.hd hc) it x t
  have hno : ["enumerate","zip","dict_itemiterator","dict_reverseitemiterator","odict_iterator","itertools.zip_longest","itertools.pairwise"].contains ty = false := by
   rcases hty with e | e
   ·rw [e]; decide
   ·rw [e]; decide
  refine W.item i s _ _ hg st fun v h' tk hv st' kk => ?_
  obtain ⟨c,u,hcx,rfl⟩ := hv; have I1 : ay X pins σ H { s with heap := h',toks := tk } := I.turned (fun b o hb e => kk b o (by simpa using hb) e) f0 f1 f3 f4 f5; obtain ⟨oi,e,cc,dd⟩ := id st'; exact ⟨_,rfl,tz (s := { s with heap := h',toks := tk }) e cc dd hno ⟨.str ⟨#[c]⟩,H,I1,⟨u,rfl⟩,⟨rfl,c,hcx,rfl⟩,st',fun b hb => (hf b hb).1⟩⟩
 done := by
  intro X hP hw hK hc i pins s σ H E I hf st hg; subst hP hw hK; obtain ⟨f0,f1,f2,f3,f4,f5⟩ := hf it (by simp); have hx : x.cps[i]? = none := Array.getElem?_eq_none hg
  rcases hty with e | e
  ·rw [e] at st; exact wpAny_pyNext_ascii_end (I.ok.hd hc) st hx fun h' eb => ⟨rfl,I.turned (t' := s.toks) (fun b o hb e => eb b o hb e) f0 f1 f3 f4 f5⟩
  ·rw [e] at st; exact wpAny_pyNext_wide_end (I.ok.hd hc) st hx fun h' eb => ⟨rfl,I.turned (t' := s.toks) (fun b o hb e => eb b o hb e) f0 f1 f3 f4 f5⟩
 self := fun A i s Q E st h => by
  rcases hty with e | e
  ·rw [e] at st; exact wpAny_pyIter_striter_ascii st h
  ·rw [e] at st; exact wpAny_pyIter_striter_wide st h
def aeg (te : TE) : TI := fun σ H R => te σ H fun v H1 => ∃ x,v = .str x /\ R (Its x) H1
theorem acR {X : Cx} {tg e : Expr} {te : TE} (he : PE X e te) : PI X tg e (aeg te) := by
 intro pins s σ H R I h; refine bp (he pins s σ H _ I h) fun v s1 ⟨y,H1,I1,r1,x,ex,q⟩ => ?_
 subst ex; obtain ⟨t,rfl⟩ := r1; cases ha : x.cps.all (· < 128)
 ·exact wpAny_pyIter_wide ha (tw (tk := s1.toks) I1 _ (wx _ x t "str_iterator" (.inr rfl)) ⟨_,Heap.get?_push_size _ rfl,rfl,rfl⟩ q)
 ·exact wpAny_pyIter_ascii ha (tw (tk := s1.toks) I1 _ (wx _ x t "str_ascii_iterator" (.inl rfl)) ⟨_,Heap.get?_push_size _ rfl,rfl,rfl⟩ q)
def yF (K : Fg) (a : Addr) : It :=
 ⟨fun i H => ∃ (xs : List V) (x : V),ag K H a xs /\ xs[i]? = some x,fun i H v H' => ∃ T x,v = .ref T /\ H T = none /\ H' = upd H T (.tup [.int (i : Nat),x]) /\ ∀ xs,ag K H a xs -> xs[i]? = some x,fun i H => ∃ xs : List V,ag K H a xs /\ xs.length <= i⟩
theorem aay {P : Program} {w : World} {K : Fg} {elts : List Expr} {kk : Nat} {tpos : Pos} (a e it : Addr) :
  o0 P w K (.Tuple elts kk tpos) (yF K a) [e,it] e (fun i h => (∃ old,IsEnum h e it ((i : Nat) : Int) old) /\ h.IsListIter it a i /\ e ≠ it) where
 mem := by simp
 obj := fun i h st b hb => by
  obtain ⟨⟨old,he⟩,⟨o,ho,hc,hd⟩,_⟩ := st; have e' : b = e \/ b = it := by simpa using hb
  rcases e' with z | z
  ·rw [z]; exact ⟨_,he,fun v q => nomatch q⟩
  ·rw [z]; exact ⟨o,ho,fun v q => by rw [hd] at q; cases q⟩
 keep := fun i h h' st k => let ⟨⟨old,he⟩,hi,hne⟩ := st; ⟨⟨old,k e (by simp) _ he⟩,hi.at fun o q => k it (by simp) o q,hne⟩
 item := by
  intro X hP hw hK hc i pins s σ H E I hf st hg; subst hP hw hK; obtain ⟨⟨old,he⟩,hit,hne⟩ := st; obtain ⟨xs,x,hq,hx⟩ := hg; obtain ⟨its,rv,p,hz⟩ := I.list hq; obtain ⟨u,hu,ru⟩ := rv.get hx; have hel : e < s.heap.objs.size := Heap.lt_size he; have hil : it < s.heap.objs.size := by obtain ⟨_,q,_⟩ := hit; exact Heap.lt_size q
  refine wpAny_pyNext_enum_item he hit p.isList (x := u) (by simpa using hu) hne fun h' ho hit' hT hsz hk => ?_
  refine ⟨_,rfl,wpAny_letOwnedTupleGo_enum (s := { s with heap := h',toks := s.toks + 1 }) ho fun h'' he' sb => ?_⟩; have hT2 : h''.get? s.heap.objs.size = some { cls := .type "tuple",data := .seq #[.int i s.toks,u] } := (sb.2 _ (Nat.ne_of_gt hel)).trans hT
  have new : df X.prog X.w (upd H s.heap.objs.size (.tup [.int (i : Nat),x])) h'' s.heap.objs.size (.tup [.int (i : Nat),x]) :=
   ⟨by show 2 <= sizeLine; decide,[.int i s.toks,u],.cons ⟨_,rfl⟩ (.cons ru .nil),⟨_,hT2,rfl,_,rfl⟩⟩
  have I1 : ay X pins σ (upd H s.heap.objs.size (.tup [.int (i : Nat),x])) { s with heap := h'',toks := s.toks + 1 } :=
   I.turnedNew (ch := [e,it]) (fun b ob hb q => (sb.2 b (fun z => hb (by simp [z]))).trans (hk b ob (fun z => hb (by simp [z])) (fun z => hb (by simp [z])) q)) hf (Nat.le_refl _) new
  refine ⟨.ref s.heap.objs.size,_,I1,rfl,⟨_,x,rfl,I.hok.fresh (Nat.le_refl _),rfl,fun ys hy => by rw [I.list_inj hy hq]; exact hx⟩,⟨⟨u,?_⟩,hit'.at fun o q => (sb.2 it (Ne.symm hne)).trans q,hne⟩,fun b hb => ?_⟩
  ·have e1 : ((i + 1 : Nat) : Int) = (i : Int) + 1 := by omega
   rw [e1]; exact he'
  ·have hb' : b < s.heap.objs.size := by
    have e' : b = e \/ b = it := by simpa using hb
    rcases e' with z | z
    ·rw [z]; exact hel
    ·rw [z]; exact hil
   rw [aK (Nat.ne_of_lt hb')]; exact (hf b hb).1
 done := by
  intro X hP hw hK hc i pins s σ H E I hf st hg; subst hP hw hK; obtain ⟨⟨old,he⟩,hit,hne⟩ := st; obtain ⟨xs,hq,hx⟩ := hg; obtain ⟨its,rv,p,hz⟩ := I.list hq; obtain ⟨f0,f1,f2,f3,f4,f5⟩ := hf it (by simp); have hl := rv.length; exact wpAny_pyNext_enum_end (I.ok.hd hc) he hit p.isList (by simp; omega) fun h' eb => ⟨rfl,I.turned (t' := s.toks) (fun b o hb q => eb b o hb q) f0 f1 f3 f4 f5⟩
 self := fun A i s Q E st h => let ⟨⟨_,he⟩,_⟩ := st; wpAny_pyIter_enum he h
def adh (K : Fg) (ta : TA) : TI := fun σ H R => ta σ H fun vs H1 => ∃ a xs,vs = [.ref a] /\ ag K H1 a xs /\ R (yF K a) H1
theorem uL {X : Cx} {e : Expr} {ta : TA} {p pos tpos : Pos} {elts : List Expr} {kk : Nat} (hg : Gl X "enumerate") (hm : X.mg "enumerate" = none) (ha : PA X [e] ta) (hs : starEach [e] X.env = [(false,eval e X.env)] := by rfl) :
  PI X (.Tuple elts kk tpos) (.Call (.Name "enumerate" p) [e] [] pos) (adh X.K ta) := by
 intro pins s σ H R I h; refine Call_ (j8 I hg hm boot_enumerate (PyProof.Rows.callWith_type1 (bp (ha pos pins s σ H _ I h) fun us s1 ⟨vs,H1,I1,r1,q1⟩ => ?_) hs rfl)); obtain ⟨a,xs,ex,hq,q⟩ := q1; subst ex
 cases r1 with
 | cons r rr =>
  cases rr; cases r; obtain ⟨its,rv,p',hz⟩ := I1.list hq; refine call_enumerate_list p'.isList fun h' he hit hsz hk => wpAny_pyIter_enum he ?_
  have I2 : ay X pins σ H1 { s1 with heap := h' } := I1.kept (t' := s1.toks) hk; refine ⟨s1.heap.objs.size + 1,[s1.heap.objs.size + 1,s1.heap.objs.size],_,_,H1,rfl,I2,aay a (s1.heap.objs.size + 1) s1.heap.objs.size,⟨⟨.none,he⟩,hit,Nat.succ_ne_self _⟩,fun b hb => ?_,q⟩; have e' : b = s1.heap.objs.size + 1 \/ b = s1.heap.objs.size := by simpa using hb
  have hle : s1.heap.objs.size <= b := by
   rcases e' with z | z
   ·rw [z]; exact Nat.le_add_right _ _
   ·rw [z]; exact Nat.le_refl _
  exact I1.fpOk hle (I1.hok.fresh hle)
theorem aaN : bootBuiltins "zip" = some (.type "zip") := by decide +kernel
def yw (K : Fg) (a b : Addr) : It :=
 ⟨fun i H => ∃ (xs ys : List V) (x y : V),ag K H a xs /\ ag K H b ys /\ xs[i]? = some x /\ ys[i]? = some y,
  fun i H v H' => ∃ T x y,v = .ref T /\ H T = none /\ H' = upd H T (.tup [x,y]) /\ (∀ xs,ag K H a xs -> xs[i]? = some x) /\ ∀ ys,ag K H b ys -> ys[i]? = some y,
  fun i H => ∃ xs ys : List V,ag K H a xs /\ ag K H b ys /\ (xs.length <= i \/ ys.length <= i)⟩
theorem abo {P : Program} {w : World} {K : Fg} {elts : List Expr} {kk : Nat} {tpos : Pos} {a b z TI TO i1 i2 : Addr} (D : ZipApart z TI TO i1 i2 a b) :
  o0 P w K (.Tuple elts kk tpos) (yw K a b) [z,TI,TO,i1,i2] z (fun i h => IsZip h z TI TO .none /\ IsPair h TI (.ref i1) (.ref i2) /\ (∃ x y,IsPair h TO x y) /\ h.IsListIter i1 a i /\ h.IsListIter i2 b i) where
 mem := by simp
 obj := fun i h st c hc => by
  obtain ⟨hz,hTI,⟨x,y,hTO⟩,⟨o1,e1,_,d1⟩,⟨o2,e2,_,d2⟩⟩ := st; have e' : c = z \/ c = TI \/ c = TO \/ c = i1 \/ c = i2 := by simpa using hc
  rcases e' with q | q | q | q | q
  ·rw [q]; exact ⟨_,hz,fun v q => nomatch q⟩
  ·rw [q]; exact ⟨_,hTI,fun v q => nomatch q⟩
  ·rw [q]; exact ⟨_,hTO,fun v q => nomatch q⟩
  ·rw [q]; exact ⟨o1,e1,fun v q => by rw [d1] at q; cases q⟩
  ·rw [q]; exact ⟨o2,e2,fun v q => by rw [d2] at q; cases q⟩
 keep := fun i h h' st k => by
  obtain ⟨hz,hTI,⟨x,y,hTO⟩,h1,h2⟩ := st; exact ⟨k z (by simp) _ hz,k TI (by simp) _ hTI,⟨x,y,k TO (by simp) _ hTO⟩,h1.at fun o q => k i1 (by simp) o q,h2.at fun o q => k i2 (by simp) o q⟩
 item := by
  intro X hP hw hK hc i pins s σ H E I hf st hg; subst hP hw hK; obtain ⟨hz,hTI,⟨x0,y0,hTO⟩,h1,h2⟩ := st; obtain ⟨xs,ys,x,y,hqx,hqy,hx,hy⟩ := hg; obtain ⟨its,rv,p,_⟩ := I.list hqx; obtain ⟨its2,rv2,p2,_⟩ := I.list hqy; obtain ⟨u,hu,ru⟩ := rv.get hx; obtain ⟨u2,hu2,ru2⟩ := rv2.get hy; have hzl : z < s.heap.objs.size := Heap.lt_size hz; refine wpAny_pyNext_zip_item D hz hTI hTO h1 h2 p.isList p2.isList (x := u) (y := u2) (by simpa using hu) (by simpa using hu2) fun h' z' TO' h1' h2' hT hsz hk => ?_
  refine ⟨_,rfl,wpAny_letOwnedTupleGo_zip (s := { s with heap := h' }) z' fun h'' z'' sb => ?_⟩; have hT2 : h''.get? s.heap.objs.size = some { cls := .type "tuple",data := .seq #[u,u2] } := (sb.2 _ (Nat.ne_of_gt hzl)).trans hT
  have new : df X.prog X.w (upd H s.heap.objs.size (.tup [x,y])) h'' s.heap.objs.size (.tup [x,y]) :=
   ⟨by show 2 <= sizeLine; decide,[u,u2],.cons ru (.cons ru2 .nil),⟨_,hT2,rfl,_,rfl⟩⟩
  have I1 : ay X pins σ (upd H s.heap.objs.size (.tup [x,y])) { s with heap := h'' } :=
   I.turnedNew (t' := s.toks) (ch := [z,TI,TO,i1,i2]) (fun c o hb q => (sb.2 c (fun q' => hb (by simp [q']))).trans (hk c o (fun q' => hb (by simp [q'])) (fun q' => hb (by simp [q'])) (fun q' => hb (by simp [q'])) (fun q' => hb (by simp [q'])) q)) hf (Nat.le_refl _) new
  refine ⟨.ref s.heap.objs.size,_,I1,rfl,⟨_,x,y,rfl,I.hok.fresh (Nat.le_refl _),rfl,fun l hl => by rw [I.list_inj hl hqx]; exact hx,fun l hl => by rw [I.list_inj hl hqy]; exact hy⟩,⟨z'',?_,⟨u,u2,?_⟩,?_,?_⟩,fun c hcm => ?_⟩
  ·exact (sb.2 _ D.TIz).trans (hk _ _ D.TIz D.TITO D.TIi1 D.TIi2 hTI)
  ·exact (sb.2 _ D.TOz).trans TO'
  ·exact h1'.at fun o q => (sb.2 _ D.i1z).trans q
  ·exact h2'.at fun o q => (sb.2 _ D.i2z).trans q
  ·have hlt : c < s.heap.objs.size := by
    have e' : c = z \/ c = TI \/ c = TO \/ c = i1 \/ c = i2 := by simpa using hcm
    rcases e' with q | q | q | q | q
    ·rw [q]; exact hzl
    ·rw [q]; exact Heap.lt_size hTI
    ·rw [q]; exact Heap.lt_size hTO
    ·rw [q]; obtain ⟨_,e1,_⟩ := h1; exact Heap.lt_size e1
    ·rw [q]; obtain ⟨_,e2,_⟩ := h2; exact Heap.lt_size e2
   rw [aK (Nat.ne_of_lt hlt)]; exact (hf c hcm).1
 done := by
  intro X hP hw hK hc i pins s σ H E I hf st hg; subst hP hw hK; obtain ⟨hz,hTI,⟨x0,y0,hTO⟩,h1,h2⟩ := st; obtain ⟨xs,ys,hqx,hqy,hend⟩ := hg; obtain ⟨its,rv,p,_⟩ := I.list hqx; obtain ⟨its2,rv2,p2,_⟩ := I.list hqy; have l1 := rv.length; have l2 := rv2.length
  have he : its.toArray[i]? = none \/ its2.toArray[i]? = none := by
   rcases hend with q | q
   ·exact .inl (by simp; omega)
   ·exact .inr (by simp; omega)
  exact wpAny_pyNext_zip_end (I.ok.hd hc) D hz hTI hTO h1 h2 p.isList p2.isList he fun h' hk => ⟨rfl,I.turnedL (t' := s.toks) (ch := [z,TI,TO,i1,i2]) (fun c o hb q =>
   hk c o (fun q' => hb (by simp [q'])) (fun q' => hb (by simp [q'])) (fun q' => hb (by simp [q'])) (fun q' => hb (by simp [q'])) q) hf⟩
 self := fun A i s Q E st h => wpAny_pyIter_zip st.1 h
def adO (K : Fg) (ta : TA) : TI := fun σ H R => ta σ H fun vs H1 => ∃ a b xs ys,vs = [.ref a,.ref b] /\ ag K H1 a xs /\ ag K H1 b ys /\ R (yw K a b) H1
theorem fv {X : Cx} {e e2 : Expr} {ta : TA} {p pos tpos : Pos} {elts : List Expr} {kk : Nat} (hg : Gl X "zip") (hm : X.mg "zip" = none) (ha : PA X [e,e2] ta)
  (hs : starEach [e,e2] X.env = (false,eval e X.env) :: starEach [e2] X.env := by rfl) (hpl : (backTo pos (starEach [e2] X.env)).any (·.1) = false := by rfl) :
  PI X (.Tuple elts kk tpos) (.Call (.Name "zip" p) [e,e2] [] pos) (adO X.K ta) := by
 intro pins s σ H R I h; refine Call_ (j8 I hg hm aaN (PyProof.Rows.callWith_type1 (bp (ha pos pins s σ H _ I h) fun us s1 ⟨vs,H1,I1,r1,q1⟩ => ?_) hs hpl)); obtain ⟨a,b,xs,ys,ex,hqx,hqy,q⟩ := q1; subst ex
 cases r1 with
 | cons r rr =>
  cases rr with
  | cons r' rr =>
   cases rr; cases r; cases r'; obtain ⟨its,rv,p1,_⟩ := I1.list hqx; obtain ⟨its2,rv2,p2,_⟩ := I1.list hqy; have la : a < s1.heap.objs.size := p1.lt; have lb : b < s1.heap.objs.size := p2.lt; refine call_zip_2 p1.isList p2.isList fun h' hz hTI hTO h1 h2 hsz hk => wpAny_pyIter_zip hz ?_
   have I2 : ay X pins σ H1 { s1 with heap := h' } := I1.kept (t' := s1.toks) hk; refine ⟨s1.heap.objs.size + 4,[s1.heap.objs.size + 4,s1.heap.objs.size + 2,s1.heap.objs.size + 3,s1.heap.objs.size,s1.heap.objs.size + 1],_,_,H1,rfl,I2,abo (PySem.W.ktu_apart s1.heap.objs.size a b la lb),⟨hz,hTI,⟨_,_,hTO⟩,h1,h2⟩,fun c hcm => ?_,q⟩; have e' : c = s1.heap.objs.size + 4 \/ c = s1.heap.objs.size + 2 \/ c = s1.heap.objs.size + 3 \/ c = s1.heap.objs.size \/ c = s1.heap.objs.size + 1 := by simpa using hcm
   have hle : s1.heap.objs.size <= c := by
    rcases e' with z | z | z | z | z
    ·rw [z]; exact Nat.le_add_right _ _
    ·rw [z]; exact Nat.le_add_right _ _
    ·rw [z]; exact Nat.le_add_right _ _
    ·rw [z]; exact Nat.le_refl _
    ·rw [z]; exact Nat.le_add_right _ _
   exact I1.fpOk hle (I1.hok.fresh hle)
end L2
namespace TL
open PySem PySem.Builtin PySem.Builtin.Str PySem.StrLaws
abbrev tl (x : Str) : List Nat := x.cps.toList
theorem cS (x : Str) : x.length = (tl x).length := by simp [tl,Str.length]
theorem fY (x y : Str) : tl (x ++ y) = tl x ++ tl y := by
 show (x ++ y).cps.toList = _; rw [Str.cps_append,Array.toList_append]
theorem b0 (s : String) : tl (Str.ofString s) = s.toList.map Char.toNat := PyProof.Rows.signs_ofString s
def mm (S : List Nat) : List (List Nat) -> List Nat
 | [] => []
 | [p] => p
 | p :: q :: r => p ++ (S ++ mm S (q :: r))
theorem u0 (y : Str) : ∀ parts : List Str,tl (Str.join y parts) = mm (tl y) (parts.map tl)
 | [] => rfl
 | [_] => rfl
 | x :: z :: r => by
  show tl (x ++ y ++ Str.join y (z :: r)) = tl x ++ (tl y ++ mm (tl y) ((z :: r).map tl)); rw [fY,fY,u0 y (z :: r),List.append_assoc]
theorem yK (y : Str) (parts : List Str) : Txt.join y parts = Str.join y parts := glued_eq_join y parts
end TL
namespace L2
open PySem PySem.Spec PyProof.Rows
theorem mf : ∀ {ys : List Str} {us : List Value},aL (ys.map V.str) us -> StrsAre us ys
 | [],_,.nil => .nil
 | y :: ys,_,.cons r t => by
  obtain ⟨k,rfl⟩ := r; exact .cons y k (mf t)
section
variable {X : Cx}
theorem abX : MtR X "str.join" (fun x xs H Q => ∃ a p,∃ ys : List Str,x = .str a /\ xs = [.ref p] /\ (ag X.K H p (ys.map V.str) \/ cG X.K H p (ys.map V.str)) ∧
  (ys.map (·.length)).sum + ys.length * a.length <= 16777216 /\ Q (.str (Txt.join a ys)) H) := by
 intro pins s σ H x xs v us Q I rx rs h; obtain ⟨a,p,ys,rfl,rfl,hp,hz,h⟩ := h; obtain ⟨t,rfl⟩ := rx
 cases rs with
 | cons r1 rs =>
  cases rs; cases r1
  rcases hp with hp | hp
  ·obtain ⟨its,r,⟨o,n,ho,hc,_,hd⟩,_⟩ := I.list hp; exact PyProof.Rows.join_list (items := its.toArray) ⟨o,ho,hc,n,hd⟩ (by rw [List.toList_toArray]; exact mf r) hz fun t' k => ⟨.str _,H,I.tok k,⟨t',rfl⟩,h⟩
  ·obtain ⟨its,r,ht,_⟩ := I.tuple hp; exact PyProof.Rows.join_tuple (items := its.toArray) ht (by rw [List.toList_toArray]; exact mf r) hz fun t' k => ⟨.str _,H,I.tok k,⟨t',rfl⟩,h⟩
end
section
variable {X : Cx} {o e : Expr} {to te : TE}
def tM1 (r : V -> List V -> Hp -> VK -> Prop) (to te : TE) : TE := fun σ H Q => to σ H fun x H1 => (∃ a,x = .str a) /\ te σ H1 fun y H2 => r x [y] H2 Q
theorem ada {id : String} {name : Str} {apos pos : Pos} {r : V -> List V -> Hp -> VK -> Prop} (slot : Slot "str" name id) (ty : typeOf (.builtin id) = pure (.type "method_descriptor")) (rule : MtR X id r) (ho : PE X o to) (he : PE X e te)
  (hs : starEach [e] X.env = [(false,eval e X.env)] := by rfl) (hbase : attributeBase o name X.env (eval o X.env) = eval o X.env := by rfl) (hline : (apos.endLine == pos.line) = true := by rfl) :
  PE X (.Call (.Attribute o name apos) [e] [] pos) (tM1 r to te) := by
 intro pins s σ H Q I h; refine PySem.Call_method1 hbase hs hline (bp (ho pins s σ H _ I h) fun v s1 ⟨x,H1,I1,r1,q1⟩ => ?_); obtain ⟨⟨a,rfl⟩,q1⟩ := q1; obtain ⟨t,rfl⟩ := _root_.id r1; refine ⟨"str",_,F.plainAttrs_str,slot,ty,typeIs_str _ _ _,(fun _ e => nomatch e),Calls.callWith_builtin rfl (Calls.evalArgs_plain (Calls.spliced_cons ?_))⟩; exact bp (he pins s1 σ H1 _ I1 q1) fun u s2 ⟨y,H2,I2,r2,q2⟩ => Calls.spliced_nil (rule pins s2 σ H2 _ [y] _ [u] Q I2 r1 (.cons r2 .nil) q2)
theorem uD {apos pos : Pos} (ho : PE X o to) (he : PE X e te) (hs : starEach [e] X.env = [(false,eval e X.env)] := by rfl) (hbase : attributeBase o "join" X.env (eval o X.env) = eval o X.env := by rfl) (hline : (apos.endLine == pos.line) = true := by rfl) :
  PE X (.Call (.Attribute o "join" apos) [e] [] pos) (tM1 (fun x xs H Q => ∃ a p,∃ ys : List Str,x = .str a /\ xs = [.ref p] /\ (ag X.K H p (ys.map V.str) \/ cG X.K H p (ys.map V.str)) ∧
   (ys.map (·.length)).sum + ys.length * a.length <= 16777216 /\ Q (.str (Txt.join a ys)) H) to te) :=
 ada F.slot_str_join F.type_str_join abX ho he hs hbase hline
end
open PySem.W (WData Codec OpenSpec Well WellAll ReadsW ReadsAllW)
mutual
inductive Dw (K : Fg) (H : Hp) : V -> WData -> Prop
 | non : Dw K H .non .none
 | bl (b : Bool) : Dw K H (.bl b) (.bool b)
 | int (i : Int) : Dw K H (.int i) (.int i)
 | str (x : Str) : Dw K H (.str x) (.str x)
 | byt (b : Array UInt8) : Dw K H (.byt b) (.bytes b.toList)
 | lst {a : Addr} {xs : List V} {ds : List WData} : ag K H a xs -> gZ K H xs ds -> Dw K H (.ref a) (.list ds)
 | tup {a : Addr} {xs : List V} {ds : List WData} : cG K H a xs -> gZ K H xs ds -> Dw K H (.ref a) (.tuple ds)
inductive gZ (K : Fg) (H : Hp) : List V -> List WData -> Prop
 | nil : gZ K H [] []
 | cons {v : V} {vs : List V} {d : WData} {ds : List WData} : Dw K H v d -> gZ K H vs ds -> gZ K H (v :: vs) (d :: ds)
end
theorem yE {K : Fg} {H : Hp} : ∀ ns : List Int,gZ K H (ns.map V.int) (ns.map WData.int)
 | [] => .nil
 | n :: r => .cons (.int n) (yE r)
theorem yR {K : Fg} {H : Hp} : ∀ (ns : List Int) (xs : List V),gZ K H xs (ns.map WData.int) -> xs = ns.map V.int
 | [],xs,h => by
  cases h; rfl
 | n :: r,xs,h => by
  cases h with
  | cons h1 h2 =>
   cases h1; rw [yR r _ h2] <;> rfl
section
variable {P : Program} {w : World} {K : Fg} {H : Hp} {h : Heap} {R : PySem.W.WRecords} {cl : Str -> Option Addr}
theorem acE {a : Addr} {xs : List V} (hok : d4 P w H h) (KX : K.In h) (q : ag K H a xs) : ∃ (its : List Value) (o : Obj) (n : Nat),aL xs its /\ h.get? a = some o /\ o.cls = .type "list" /\ o.data = .seq its.toArray n := by
 rcases q with q | ⟨o,its,n,e,hc,_,hd,_,hv⟩
 ·obtain ⟨_,its,n,hv,e⟩ := (show df P w H h a (.lst xs) from q.ok hok); exact ⟨its,_,n,hv,e,rfl,rfl⟩
 ·exact ⟨its.toList,o,n,hv,KX _ _ e,hc,by simp [hd]⟩
theorem acV {a : Addr} {xs : List V} (hok : d4 P w H h) (KX : K.In h) (q : cG K H a xs) : ∃ (its : List Value) (o : Obj) (n : Nat),aL xs its /\ h.get? a = some o /\ o.cls = .type "tuple" /\ o.data = .seq its.toArray n := by
 rcases q with q | ⟨o,its,n,e,hc,hd,_,hv⟩
 ·obtain ⟨_,its,hv,o,e,hc,n,hd⟩ := (show df P w H h a (.tup xs) from q.ok hok); exact ⟨its,o,n,hv,e,hc,hd⟩
 ·exact ⟨its.toList,o,n,hv,KX _ _ e,hc,by simp [hd]⟩
mutual
theorem Dw.reads (hok : d4 P w H h) (KX : K.In h) : ∀ (d : WData) (v : V) (u : Value),Dw K H v d -> bw v u -> ∃ as,ReadsW R cl h u d as
 | .none,_,_,x,r => by
  cases x; cases r; exact ⟨_,ReadsW.none⟩
 | .bool b,_,_,x,r => by
  cases x; cases r; exact ⟨_,ReadsW.bool b⟩
 | .int i,_,_,x,r => by
  cases x; obtain ⟨t,rfl⟩ := r; exact ⟨_,ReadsW.int i t⟩
 | .str s,_,_,x,r => by
  cases x; obtain ⟨t,rfl⟩ := r; exact ⟨_,ReadsW.str s t⟩
 | .bytes b,_,_,x,r => by
  cases x; obtain ⟨t,rfl⟩ := r; exact ⟨_,ReadsW.bytes _ t⟩
 | .list ds,_,_,x,r => by
  cases x with
  | lst hs ha =>
   cases r; obtain ⟨its,o,n,rv,ho,hc,hd⟩ := acE hok KX hs; obtain ⟨as,hr⟩ := Dw.readsAll hok KX ds _ its ha rv; exact ⟨_,ReadsW.list ho hc hd hr⟩
 | .tuple ds,_,_,x,r => by
  cases x with
  | tup hs ha =>
   cases r; obtain ⟨its,o,n,rv,ho,hc,hd⟩ := acV hok KX hs; obtain ⟨as,hr⟩ := Dw.readsAll hok KX ds _ its ha rv; exact ⟨_,ReadsW.tuple ho hc hd hr⟩
 | .float _,_,_,x,_ => by cases x
 | .dict _,_,_,x,_ => by cases x
 | .bytearray _,_,_,x,_ => by cases x
 | .set _,_,_,x,_ => by cases x
 | .frozenset _,_,_,x,_ => by cases x
 | .obj _ _,_,_,x,_ => by cases x
theorem Dw.readsAll (hok : d4 P w H h) (KX : K.In h) : ∀ (ds : List WData) (vs : List V) (us : List Value),gZ K H vs ds -> aL vs us -> ∃ as,ReadsAllW R cl h us ds as
 | [],_,_,x,r => by
  cases x; cases r; exact ⟨_,ReadsAllW.nil⟩
 | d :: ds,_,_,x,r => by
  cases x with
  | cons h1 h2 =>
   cases r with
   | cons r1 r2 =>
    obtain ⟨as,q1⟩ := Dw.reads hok KX d _ _ h1 r1; obtain ⟨bs,q2⟩ := Dw.readsAll hok KX ds _ _ h2 r2; exact ⟨_,ReadsAllW.cons q1 q2⟩
end
end
mutual
def mJ : WData -> Bool
 | .none => true
 | .bool _ => true
 | .int _ => true
 | .str _ => true
 | .bytes _ => true
 | .list xs => kK xs
 | .tuple xs => kK xs
 | _ => false
def kK : List WData -> Bool
 | [] => true
 | x :: r => mJ x && kK r
end
theorem wD {α : Type} {f : α -> WData} (h : ∀ a,mJ (f a) = true) : ∀ l : List α,kK (l.map f) = true
 | [] => rfl
 | x :: r => by
  show (mJ (f x) && kK (r.map f)) = true; rw [h x,wD h r] <;> rfl
theorem j0 : ∀ (c : Codec) (a : c.denote),mJ (c.enc a) = true
 | .unit,_ => rfl
 | .bool,_ => rfl
 | .int _ _,_ => rfl
 | .nat _ _,_ => rfl
 | .u8,_ => rfl
 | .bytes _ _,_ => rfl
 | .text _ _ _ _,_ => rfl
 | .list _ _ c,a => wD (fun x => j0 c x) a
 | .pair c d,a => by
  show (mJ (c.enc a.1) && (mJ (d.enc a.2) && true)) = true; rw [j0 c a.1,j0 d a.2] <;> rfl
 | .triple c d e,a => by
  show (mJ (c.enc a.1) && (mJ (d.enc a.2.1) && (mJ (e.enc a.2.2) && true))) = true; rw [j0 c a.1,j0 d a.2.1,j0 e a.2.2] <;> rfl
 | .option c,none => rfl
 | .option c,some x => j0 c x
theorem vA : ∀ (cs : List Codec) (a : Codec.denoteAll cs),kK (Codec.encAll cs a) = true
 | [],_ => rfl
 | c :: cs,a => by
  show (mJ (c.enc a.1) && kK (Codec.encAll cs a.2)) = true; rw [j0 c a.1,vA cs a.2] <;> rfl
theorem oN : ∀ {xs : List WData} {d : WData},d ∈ xs -> d.weight <= WData.weightAll xs
 | [],d,h => absurd h (by simp)
 | x :: r,d,h => by
  show d.weight <= x.weight + 1 + WData.weightAll r
  rcases List.mem_cons.mp h with e | m
  ·rw [e]; omega
  ·have z := oN m; omega
def jW : Value -> V
 | .none => .non
 | .bool b => .bl b
 | .int i _ => .int i
 | .str x _ => .str x
 | .bytes b _ => .byt b
 | .ref a => .ref a
 | _ => .non
def oH (A : List Addr) : Value -> Prop
 | .none => True
 | .bool _ => True
 | .int _ _ => True
 | .str _ _ => True
 | .bytes _ _ => True
 | .ref a => a ∈ A
 | _ => False
theorem oH.mono {A B : List Addr} (h : ∀ a ∈ A,a ∈ B) : ∀ {u : Value},oH A u -> oH B u := fun {u} x => by
 cases u with
 | ref a => exact h a x
 | none => trivial
 | bool b => trivial
 | int i t => trivial
 | str s t => trivial
 | bytes b t => trivial
 | _ => exact False.elim x
theorem abr {A : List Addr} {u : Value} (x : oH A u) : bw (jW u) u := by
 cases u with
 | ref a => rfl
 | none => rfl
 | bool b => rfl
 | int i t => exact ⟨t,rfl⟩
 | str s t => exact ⟨t,rfl⟩
 | bytes b t => exact ⟨t,rfl⟩
 | _ => exact False.elim x
theorem jq {A : List Addr} : ∀ {vs : List Value},(∀ u ∈ vs,oH A u) -> aL (vs.map jW) vs
 | [],_ => .nil
 | u :: r,h => .cons (abr (h u (List.mem_cons_self ..))) (jq fun x hx => h x (List.mem_cons_of_mem _ hx))
def hC (h : Heap) (A : List Addr) (a : Addr) : Prop := ∃ vs : List Value,vs.length <= sizeLine /\ (∀ u ∈ vs,oH A u) ∧
 (h.get? a = some { cls := .type "list",data := .seq vs.toArray } \/ h.get? a = some { cls := .type "tuple",data := .seq vs.toArray })
theorem hC.mono {h : Heap} {A B : List Addr} {a : Addr} (k : ∀ a ∈ A,a ∈ B) (x : hC h A a) : hC h B a := by
 obtain ⟨vs,h1,h2,h3⟩ := x; exact ⟨vs,h1,fun u hu => (h2 u hu).mono k,h3⟩
theorem jQ {P : Params} {h : Heap} : ∀ {vs : List Value} {ds : List WData},WellAll P h vs ds -> vs.length = ds.length
 | _,_,.nil => rfl
 | _,_,.cons _ b => by
  show _ + 1 = _ + 1; rw [jQ b]
theorem vD {P : Params} {h : Heap} {v : Value} {ds : List WData} (x : Well P h v (.list ds)) : ∃ (a : Addr) (vs : List Value),v = .ref a /\ h.get? a = some { cls := .type "list",data := .seq vs.toArray } /\ WellAll P h vs ds := by
 cases x with
 | list ho hall => exact ⟨_,_,rfl,ho,hall⟩
theorem uf {P : Params} {h : Heap} {v : Value} {ds : List WData} (x : Well P h v (.tuple ds)) : ∃ (a : Addr) (vs : List Value),v = .ref a /\ h.get? a = some { cls := .type "tuple",data := .seq vs.toArray } /\ WellAll P h vs ds := by
 cases x with
 | tuple ho hall => exact ⟨_,_,rfl,ho,hall⟩
theorem vd {P : Params} {h : Heap} {us : List Value} {d : WData} {ds : List WData} (x : WellAll P h us (d :: ds)) : ∃ (v : Value) (vs : List Value),us = v :: vs /\ Well P h v d /\ WellAll P h vs ds := by
 cases x with
 | cons a b => exact ⟨_,_,rfl,a,b⟩
theorem yG {n : Nat} (h : n <= 1048576) : n <= sizeLine := Nat.le_trans h (by decide)
section
variable {P : Params} {h : Heap}
mutual
theorem abm : ∀ (d : WData) (v : Value),Well P h v d -> mJ d = true -> d.weight <= 1048576 -> ∃ A : List Addr,oH A v /\ ∀ a ∈ A,hC h A a
 | .none,_,x,_,_ => by
  cases x; exact ⟨[],trivial,fun a m => absurd m (by simp)⟩
 | .bool b,_,x,_,_ => by
  cases x; exact ⟨[],trivial,fun a m => absurd m (by simp)⟩
 | .int i,_,x,_,_ => by
  cases x; exact ⟨[],trivial,fun a m => absurd m (by simp)⟩
 | .str s,_,x,_,_ => by
  cases x; exact ⟨[],trivial,fun a m => absurd m (by simp)⟩
 | .bytes b,_,x,_,_ => by
  cases x; exact ⟨[],trivial,fun a m => absurd m (by simp)⟩
 | .list ds,_,x,p,z => by
  obtain ⟨a,vs,rfl,ho,hall⟩ := vD x; have z2 : WData.weightAll ds <= 1048576 := z
  obtain ⟨A,h1,h2⟩ := pb ds _ hall p fun d hd => Nat.le_trans (oN hd) z2
  have k : ∀ b ∈ A,b ∈ a :: A := fun b hb => List.mem_cons_of_mem _ hb
  refine ⟨a :: A,List.mem_cons_self ..,fun b hb => ?_⟩
  rcases List.mem_cons.mp hb with e | m
  ·rw [e]; exact ⟨vs,yG (by rw [jQ hall]; exact Nat.le_trans (PySem.W.length_le_weightAllW ds) z2),fun u hu => (h1 u hu).mono k,.inl ho⟩
  ·exact (h2 b m).mono k
 | .tuple ds,_,x,p,z => by
  obtain ⟨a,vs,rfl,ho,hall⟩ := uf x; have z2 : WData.weightAll ds <= 1048576 := z
  obtain ⟨A,h1,h2⟩ := pb ds _ hall p fun d hd => Nat.le_trans (oN hd) z2
  have k : ∀ b ∈ A,b ∈ a :: A := fun b hb => List.mem_cons_of_mem _ hb
  refine ⟨a :: A,List.mem_cons_self ..,fun b hb => ?_⟩
  rcases List.mem_cons.mp hb with e | m
  ·rw [e]; exact ⟨vs,yG (by rw [jQ hall]; exact Nat.le_trans (PySem.W.length_le_weightAllW ds) z2),fun u hu => (h1 u hu).mono k,.inr ho⟩
  ·exact (h2 b m).mono k
 | .float _,_,_,p,_ => Bool.noConfusion (show false = true from p)
 | .dict _,_,_,p,_ => Bool.noConfusion (show false = true from p)
 | .bytearray _,_,_,p,_ => Bool.noConfusion (show false = true from p)
 | .set _,_,_,p,_ => Bool.noConfusion (show false = true from p)
 | .frozenset _,_,_,p,_ => Bool.noConfusion (show false = true from p)
 | .obj _ _,_,_,p,_ => Bool.noConfusion (show false = true from p)
theorem pb : ∀ (ds : List WData) (vs : List Value),WellAll P h vs ds -> kK ds = true -> (∀ d ∈ ds,d.weight <= 1048576) -> ∃ A : List Addr,(∀ u ∈ vs,oH A u) /\ ∀ a ∈ A,hC h A a
 | [],_,x,_,_ => by
  cases x; exact ⟨[],fun u m => absurd m (by simp),fun a m => absurd m (by simp)⟩
 | d :: ds,_,x,p,z => by
  obtain ⟨v,vs,rfl,x1,x2⟩ := vd x; have q : mJ d = true /\ kK ds = true := Bool.and_eq_true_iff.mp p; obtain ⟨A,a1,a2⟩ := abm d v x1 q.1 (z d (List.mem_cons_self ..))
  obtain ⟨B,b1,b2⟩ := pb ds vs x2 q.2 fun e he => z e (List.mem_cons_of_mem _ he)
  have kA : ∀ b ∈ A,b ∈ A ++ B := fun b hb => List.mem_append.mpr (.inl hb)
  have kB : ∀ b ∈ B,b ∈ A ++ B := fun b hb => List.mem_append.mpr (.inr hb)
  refine ⟨A ++ B,fun u hu => ?_,fun b hb => ?_⟩
  ·rcases List.mem_cons.mp hu with e | m
   ·rw [e]; exact a1.mono kA
   ·exact (b1 u m).mono kB
  ·rcases List.mem_append.mp hb with m | m
   ·exact (a2 b m).mono kA
   ·exact (b2 b m).mono kB
end
end
def zb (o : Obj) : Option HO := match o.data with
 | .seq vs _ => if (o.cls == Value.type "list") = true then some (.frz o (.lst (vs.toList.map jW))) else some (.frz o (.tup (vs.toList.map jW)))
 | _ => none
def fi (K : Fg) (h : Heap) (A : List Addr) : Hp := fun b => if b ∈ A then (if (K.lookup b).isNone = true then (h.get? b).bind zb else none) else none
def ua (H : Hp) : Prop := ∀ b,H b = none \/ ∃ o u,H b = some (.frz o u)
theorem wv (vs : List Value) : zb { cls := .type "list",data := .seq vs.toArray } = some (.frz { cls := .type "list",data := .seq vs.toArray } (.lst (vs.map jW))) := by
 show (if (Value.type "list" == Value.type "list") = true then some (HO.frz { cls := .type "list",data := .seq vs.toArray } (.lst (vs.toArray.toList.map jW))) else some (HO.frz { cls := .type "list",data := .seq vs.toArray } (.tup (vs.toArray.toList.map jW)))) = _; rw [if_pos (beq_self_eq_true _)]
theorem wM (vs : List Value) : zb { cls := .type "tuple",data := .seq vs.toArray } = some (.frz { cls := .type "tuple",data := .seq vs.toArray } (.tup (vs.map jW))) := by
 show (if (Value.type "tuple" == Value.type "list") = true then some (HO.frz { cls := .type "tuple",data := .seq vs.toArray } (.lst (vs.toArray.toList.map jW))) else some (HO.frz { cls := .type "tuple",data := .seq vs.toArray } (.tup (vs.toArray.toList.map jW)))) = _; rw [if_neg (by decide)]
section
variable {P : Program} {w : World} {K : Fg} {h : Heap} {A : List Addr}
theorem rj {b : Addr} {o : Obj} (hb : b ∈ A) (hk : K.lookup b = none) (e : h.get? b = some o) : fi K h A b = zb o := by
 unfold fi; rw [if_pos hb,hk,if_pos (show (none : Option Obj).isNone = true from rfl),e] <;> rfl
theorem ab9 {b : Addr} {u : HO} (q : fi K h A b = some u) : b ∈ A /\ K.lookup b = none := by
 unfold fi at q
 by_cases hb : b ∈ A
 ·rw [if_pos hb] at q
  cases hk : K.lookup b with
  | none => exact ⟨hb,rfl⟩
  | some o =>
   rw [hk,if_neg (by simp)] at q; cases q
 ·rw [if_neg hb] at q; cases q
theorem rn (ar : ∀ a ∈ A,hC h A a) {b : Addr} {u : HO} (q : fi K h A b = some u) : K.lookup b = none /\ ∃ vs : List Value,vs.length <= sizeLine /\ (∀ u ∈ vs,oH A u) ∧
  ((h.get? b = some { cls := .type "list",data := .seq vs.toArray } /\ u = .frz { cls := .type "list",data := .seq vs.toArray } (.lst (vs.map jW))) ∨
   (h.get? b = some { cls := .type "tuple",data := .seq vs.toArray } /\ u = .frz { cls := .type "tuple",data := .seq vs.toArray } (.tup (vs.map jW)))) := by
 obtain ⟨hb,hk⟩ := ab9 q; obtain ⟨vs,h1,h2,h3⟩ := ar b hb; refine ⟨hk,vs,h1,h2,?_⟩
 rcases h3 with e | e
 ·rw [rj hb hk e,wv] at q; exact .inl ⟨e,(Option.some.inj q).symm⟩
 ·rw [rj hb hk e,wM] at q; exact .inr ⟨e,(Option.some.inj q).symm⟩
theorem z_ (ar : ∀ a ∈ A,hC h A a) : ua (fi K h A) := fun b => by
 cases q : fi K h A b with
 | none => exact .inl rfl
 | some u =>
  obtain ⟨_,vs,_,_,⟨_,e⟩ | ⟨_,e⟩⟩ := rn ar q
  ·exact .inr ⟨_,_,by rw [e]⟩
  ·exact .inr ⟨_,_,by rw [e]⟩
theorem ab3 (ar : ∀ a ∈ A,hC h A a) : d4 P w (fi K h A) h := fun b u q => by
 obtain ⟨_,vs,h1,h2,⟨e,rfl⟩ | ⟨e,rfl⟩⟩ := rn ar q
 ·exact ⟨e,by rw [List.length_map]; exact h1,vs,_,jq h2,e⟩
 ·exact ⟨e,by rw [List.length_map]; exact h1,vs,jq h2,_,e,rfl,_,rfl⟩
theorem rE {c c' : Value} {vs us : List Value} (e : (some { cls := c,data := .seq vs.toArray } : Option Obj) = some { cls := c',data := .seq us.toArray }) : c = c' /\ vs = us := by
 have e1 := Option.some.inj e; have e2 : c = c' := congrArg Obj.cls e1; have e3 : Data.seq vs.toArray = Data.seq us.toArray := congrArg Obj.data e1
 injection e3 with e4
 refine ⟨e2,?_⟩; have e5 := congrArg Array.toList e4
 simpa using e5
theorem aep (KX : K.In h) (ar : ∀ a ∈ A,hC h A a) {a : Addr} {vs : List Value} (ha : a ∈ A) (e : h.get? a = some { cls := .type "list",data := .seq vs.toArray }) : (∀ u ∈ vs,oH A u) /\ ag K (fi K h A) a (vs.map jW) := by
 obtain ⟨us,h1,h2,h3⟩ := ar a ha
 have hu : us = vs := by
  rcases h3 with q | q
  ·rw [e] at q; exact (rE q).2.symm
  ·rw [e] at q; exact absurd (Value.type.inj (rE q).1) (by decide)
 subst hu; refine ⟨h2,?_⟩
 cases hk : K.lookup a with
 | none => exact .inl (.inr ⟨_,by rw [rj ha hk e,wv]⟩)
 | some o =>
  have e2 := KX a o hk; rw [e] at e2; obtain rfl := Option.some.inj e2; exact .inr ⟨_,us.toArray,_,hk,rfl,rfl,rfl,by rw [List.size_toArray]; exact h1,by simpa using jq h2⟩
theorem ad1 (KX : K.In h) (ar : ∀ a ∈ A,hC h A a) {a : Addr} {vs : List Value} (ha : a ∈ A) (e : h.get? a = some { cls := .type "tuple",data := .seq vs.toArray }) : (∀ u ∈ vs,oH A u) /\ cG K (fi K h A) a (vs.map jW) := by
 obtain ⟨us,h1,h2,h3⟩ := ar a ha
 have hu : us = vs := by
  rcases h3 with q | q
  ·rw [e] at q; exact absurd (Value.type.inj (rE q).1) (by decide)
  ·rw [e] at q; exact (rE q).2.symm
 subst hu; refine ⟨h2,?_⟩
 cases hk : K.lookup a with
 | none => exact .inl (.inr ⟨_,by rw [rj ha hk e,wM]⟩)
 | some o =>
  have e2 := KX a o hk; rw [e] at e2; obtain rfl := Option.some.inj e2; exact .inr ⟨_,us.toArray,_,hk,rfl,rfl,by rw [List.size_toArray]; exact h1,by simpa using jq h2⟩
mutual
theorem acK {Pm : Params} (KX : K.In h) (ar : ∀ a ∈ A,hC h A a) : ∀ (d : WData) (v : Value),Well Pm h v d -> mJ d = true -> oH A v -> Dw K (fi K h A) (jW v) d
 | .none,_,x,_,_ => by
  cases x; exact .non
 | .bool b,_,x,_,_ => by
  cases x; exact .bl b
 | .int i,_,x,_,_ => by
  cases x; exact .int i
 | .str s,_,x,_,_ => by
  cases x; exact .str s
 | .bytes b,_,x,_,_ => by
  cases x; have z := Dw.byt (K := K) (H := fi K h A) b.toArray; exact z
 | .list ds,_,x,p,hu => by
  obtain ⟨a,vs,rfl,ho,hall⟩ := vD x; obtain ⟨h2,hs⟩ := aep KX ar hu ho; exact .lst hs (uv KX ar ds _ hall p h2)
 | .tuple ds,_,x,p,hu => by
  obtain ⟨a,vs,rfl,ho,hall⟩ := uf x; obtain ⟨h2,hs⟩ := ad1 KX ar hu ho; exact .tup hs (uv KX ar ds _ hall p h2)
 | .float _,_,_,p,_ => Bool.noConfusion (show false = true from p)
 | .dict _,_,_,p,_ => Bool.noConfusion (show false = true from p)
 | .bytearray _,_,_,p,_ => Bool.noConfusion (show false = true from p)
 | .set _,_,_,p,_ => Bool.noConfusion (show false = true from p)
 | .frozenset _,_,_,p,_ => Bool.noConfusion (show false = true from p)
 | .obj _ _,_,_,p,_ => Bool.noConfusion (show false = true from p)
theorem uv {Pm : Params} (KX : K.In h) (ar : ∀ a ∈ A,hC h A a) : ∀ (ds : List WData) (vs : List Value),WellAll Pm h vs ds -> kK ds = true -> (∀ u ∈ vs,oH A u) -> gZ K (fi K h A) (vs.map jW) ds
 | [],_,x,_,_ => by
  cases x; exact .nil
 | d :: ds,_,x,p,hu => by
  obtain ⟨v,vs,rfl,x1,x2⟩ := vd x; have q : mJ d = true /\ kK ds = true := Bool.and_eq_true_iff.mp p; exact .cons (acK KX ar d v x1 q.1 (hu _ (List.mem_cons_self ..))) (uv KX ar ds vs x2 q.2 fun u m => hu u (List.mem_cons_of_mem _ m))
end
end
theorem aag {P : Program} {w : World} {K : Fg} {mg mb : Str -> Option Value} {CX : p0} {k : Nat} {fa : Addr} {fd : FuncData} {ps : List Str} {sp : Sp} {s₁ : Shared} {vals : List Value} {ds : List WData} {R : PySem.W.WRecords} {cl : Str -> Option Addr} {d0 : WData}
  (KX : K.In s₁.heap) (hns : s₁.heap.Ns mainGlobals mg) (hb : s₁.heap.Ns builtinsNs mb) (hbb : ∀ x : Str,x ≠ "__name__" -> mb x = bootBuiltins x) (hlim : s₁.heap.NoLimit) (hg : s₁.gens = #[])
  (hwl : WellAll w.params s₁.heap vals ds) (hpl : kK ds = true) (hwt : ∀ d ∈ ds,d.weight <= 1048576) (hr : bN k callerA)
  (F : ∀ base : Heap,K.In base -> base.Ns mainGlobals mg -> fR P w K mg base CX k fa fd ps sp) (hbind : ∀ (s : Shared) (us : List Value),us.length = ps.length -> BindsTo s fd ⟨us,[]⟩ (ps.zip us)) (hlen : ds.length = ps.length)
  (hsp : ∀ (H : Hp) (xs : List V),ua H -> gZ K H xs ds -> sp xs H (fun v H' => Dw K H' v d0) fun _ _ _ => False)
  (hCX : ∀ H e s',CX [] H s₁ (fun _ _ _ => False) e s' -> False) :
  codeAny (model P w) callerA (.call (.ref fa) ⟨vals,[]⟩) (fun r s' => ∃ u as,r = .ok (.ret u) /\ ReadsW R cl s'.heap u d0 as /\ OldK s₁.heap s'.heap /\ s'.os = s₁.os /\ AllBare s'.gens) s₁ := by
 obtain ⟨A,ho,ar⟩ := pb ds vals hwl hpl hwt; have hO : ua (fi K s₁.heap A) := z_ ar; have hok : d4 P w (fi K s₁.heap A) s₁.heap := ab3 ar; have hS := uv KX ar ds vals hwl hpl ho; have hV := jq ho; have hK : ∀ b u,fi K s₁.heap A b = some u -> K.lookup b = none := fun b u q => (rn ar q).1
 have noA : ∀ {b : Addr} {o : Obj} {es : Array DictEntry} {ep : Nat},s₁.heap.get? b = some o -> o.data = .dict es ep -> fi K s₁.heap A b = none := fun {b o es ep} e d => by
  cases q : fi K s₁.heap A b with
  | none => rfl
  | some u =>
   obtain ⟨_,vs,_,_,⟨e2,_⟩ | ⟨e2,_⟩⟩ := rn ar q
   ·rw [e2] at e; cases e; have d' : Data.seq vs.toArray _ = Data.dict es ep := d; cases d'
   ·rw [e2] at e; cases e; have d' : Data.seq vs.toArray _ = Data.dict es ep := d; cases d'
 generalize fi K s₁.heap A = H at hO hok hS hK noA; have base_of : ∀ {b : Addr} {o : Obj},s₁.heap.get? b = some o -> H b = none -> (o7 s₁.heap H).get? b = some o := fun e n => abd e n
 have nsK : ∀ {b : Addr} {m : Str -> Option Value},s₁.heap.Ns b m -> (o7 s₁.heap H).Ns b m := fun {b m} ⟨o,es,ep,e,d,r⟩ => ⟨o,es,ep,base_of e (noA e d),d,r⟩
 have nK : ∀ b o,K.lookup b = some o -> H b = none := fun b o e => by
  cases q : H b with
  | none => rfl
  | some u =>
   rw [hK b u q] at e; cases e
 have hKb : K.In (o7 s₁.heap H) := fun b o e => base_of (KX b o e) (nK b o e)
 have hM : Mod K mg (o7 s₁.heap H) := ⟨hKb,nsK hns,⟨mb,nsK hb,hbb⟩,let ⟨mc,h1,h2⟩ := hlim; ⟨mc,nsK h1,h2⟩⟩; have e0 : sN P w K mg (o7 s₁.heap H) callerA [] s₁ H := ⟨rfl,hM,fun b o e => acn e,Nat.le_of_eq (zV _ _),trivial,fun b hb => absurd (show b ∈ ([] : List Addr) from hb) (by simp),hok,.of_eq hg⟩; have hl : vals.length = ps.length := by rw [jQ hwl]; exact hlen
 refine codeAny_mono ((F _ hKb (nsK hns)).run callerA [] s₁ H ⟨vals,[]⟩ vals (vals.map jW) _ _ hr e0 (hbind s₁ vals hl) hV (hsp H _ hO hS)) fun r s' x => ?_
 cases r with
 | error e => exact (hCX H e s' x).elim
 | ok fl =>
  cases fl with
  | next => exact False.elim x
  | brk => exact False.elim x
  | cont => exact False.elim x
  | ret u =>
   obtain ⟨v,H',os,bare,un,hok',r',q⟩ := x
   have kept : ∀ b o,s₁.heap.get? b = some o -> s'.heap.get? b = some o := fun b o e => by
    cases q2 : H b with
    | none => exact un.keep b o e q2 (by intro z; exact absurd (show b ∈ ([] : List Addr) from z) (by simp)) (by simp)
    | some u2 =>
     rcases hO b with z | ⟨ob,u3,z⟩
     ·rw [q2] at z; cases z
     ·have z2 := un.frzs b ob _ z; obtain ⟨e1,_⟩ := hok b _ z; obtain ⟨e2,_⟩ := hok' b _ z2; rw [e] at e1; cases e1; exact e2
   have KX' : K.In s'.heap := fun b o e => kept b o (KX b o e)
   obtain ⟨as,hrd⟩ := Dw.reads (R := R) (cl := cl) hok' KX' d0 v u q r'; exact ⟨u,as,rfl,hrd,OldK.of_keep kept,os,bare⟩
theorem uO {ds : List WData} (h : WData.layableAll ds = true) : ∀ d ∈ ds,d.weight <= 1048576 := fun d hd =>
 (PySem.W.layableW_iff.mp (List.all_eq_true.mp h d hd)).2.2
theorem tJ : ∀ (cs : List Codec) (a : Codec.denoteAll cs),(Codec.encAll cs a).length = cs.length
 | [],_ => rfl
 | c :: cs,a => by
  show (Codec.encAll cs a.2).length + 1 = cs.length + 1; rw [tJ cs a.2]
theorem aam {r : OpenSpec} {k : Nat} {q : Program} {loose : List Str} {XP : (Str -> Option Value) -> Heap -> Prop} {YP : World -> Heap -> Prop} {d : DefRec} {K : Params -> Fg} {CX : World -> p0} {ps : List Str} {sp : World -> Sp}
  (hwell : r.wellSaid = true) (hdf : d.params.defaults = []) (hlen : r.args.length = ps.length) (hr : bN k callerA)
  (hY : ∀ (w : World) (h : Heap),YP w h -> (K w.params).In h)
  (F : ∀ (w : World) (mg : Str -> Option Value) (fa : Addr) (h : Heap),YP w h -> (K w.params).In h -> h.Ns mainGlobals mg -> mg d.name = some (.ref fa) →
   ∃ fd : FuncData,(∀ (s : Shared) (us : List Value),us.length = ps.length -> BindsTo s fd ⟨us,[]⟩ (ps.zip us)) ∧
    ∀ base : Heap,(K w.params).In base -> base.Ns mainGlobals mg -> fR r.prog w (K w.params) mg base (CX w) k fa fd ps (sp w))
  (hsp : ∀ (w : World) (H : Hp) (xs : List V) (a : Codec.denoteAll r.args),ua H -> Codec.withinAll r.args a = true -> Codec.app r.args r.asked a = true -> gZ (K w.params) H xs (Codec.encAll r.args a) →
   sp w xs H (fun v H' => Dw (K w.params) H' v (r.ret.enc (Codec.app r.args r.f a))) fun _ _ _ => False)
  (hCX : ∀ (w : World) (H : Hp) (s : Shared) (e : Value) (s' : Shared),CX w [] H s (fun _ _ _ => False) e s' -> False) :
  PySem.W.WalkOS q loose XP YP r d [] (fun f vs => PySem.call f vs) := by
 intro w s_0 s₁ mg mb G Y fa o pm cd doc dV kV ho hd hcd hD hmg hg args vals as hpre hlay hrd hwl hlo; obtain ⟨a,e1,e2⟩ := PySem.W.os_pre_some hpre; obtain ⟨e3,hwi⟩ := Codec.encAll_of_decAll r.args args a e1; subst e3; have KX := hY w _ Y; obtain ⟨fd,hb,hF⟩ := F w mg fa _ Y KX G.T.g hmg
 refine PySem.W.enter_call (codeAny_mono (aag (R := []) (cl := classAt s_0.heap) (d0 := r.ret.enc (Codec.app r.args r.f a)) KX G.T.g G.T.b G.T.builtins G.T.nolimit hg hwl (vA _ _) (uO hlay) hr hF hb (by rw [tJ]; exact hlen)
  (fun H xs hO hS => hsp w H xs a hO hwi e2 hS) fun H e s' => hCX w H s₁ e s') fun r' s' hq => ?_)
 obtain ⟨u,as',rfl,h1,h2,h3,h4⟩ := hq; exact ⟨.inl ⟨u,_,as',rfl,fun _ => rfl,h1,(OpenSpec.post_iff hwell hwi _ _).mpr rfl,fun z => Bool.noConfusion (show false = true from z)⟩,h2,h3,h4⟩
theorem ze {r : OpenSpec} {k : Nat} {q : Program} {loose : List Str} {XP : (Str -> Option Value) -> Heap -> Prop} {YP : World -> Heap -> Prop} {d : DefRec} {K : Params -> Fg} {CX : p0} {ps : List Str} {sp : Fg -> Sp}
  (hwell : r.wellSaid = true) (hdf : d.params.defaults = []) (hlen : r.args.length = ps.length) (hr : bN k callerA)
  (hY : ∀ (w : World) (h : Heap),YP w h -> (K w.params).In h)
  (F : ∀ (w : World) (mg : Str -> Option Value) (fa : Addr) (h : Heap),YP w h -> (K w.params).In h -> h.Ns mainGlobals mg -> mg d.name = some (.ref fa) →
   ∃ fd : FuncData,(∀ (s : Shared) (us : List Value),us.length = ps.length -> BindsTo s fd ⟨us,[]⟩ (ps.zip us)) ∧
    ∀ base : Heap,(K w.params).In base -> base.Ns mainGlobals mg -> fR r.prog w (K w.params) mg base CX k fa fd ps (sp (K w.params)))
  (hsp : ∀ (K : Fg) (H : Hp) (xs : List V) (a : Codec.denoteAll r.args),ua H -> Codec.withinAll r.args a = true -> Codec.app r.args r.asked a = true -> gZ K H xs (Codec.encAll r.args a) →
   sp K xs H (fun v H' => Dw K H' v (r.ret.enc (Codec.app r.args r.f a))) fun _ _ _ => False)
  (hCX : ∀ (H : Hp) (s : Shared) (e : Value) (s' : Shared),CX [] H s (fun _ _ _ => False) e s' -> False) :
  PySem.W.WalkOS q loose XP YP r d [] (fun f vs => PySem.call f vs) :=
 aam (K := K) (CX := fun _ => CX) (sp := fun w => sp (K w.params)) hwell hdf hlen hr hY F (fun w H xs a h1 h2 h3 h4 => hsp (K w.params) H xs a h1 h2 h3 h4) fun _ H s e s' => hCX H s e s'
def je (s : Stmt) (j : Nat) : Stmt := match s with
 | .ClassDef _ _ _ body _ _ _ _ _ _ _ => body.getD j (.Pass ⟨0,0,0,0⟩)
 | _ => .Pass ⟨0,0,0,0⟩
def dh (s : Stmt) : Arguments := match s with
 | .FunctionDef _ a _ _ _ _ _ _ _ _ => a
 | _ => { posonlyargs := [],args := [],vararg := none,kwonlyargs := [],kw_defaults := [],kwarg := none,defaults := [] }
def cf (s : Stmt) : List Stmt := match s with
 | .FunctionDef _ _ b _ _ _ _ _ _ _ => b
 | _ => []
def aj (s : Stmt) : Scope := match s with
 | .FunctionDef _ _ _ _ _ _ sc _ _ _ => sc
 | _ => { kind := .function,names := [],isGenerator := false,isCoroutine := false }
abbrev pL : p0 := fun _ _ _ _ _ _ => False
abbrev E0 : XK := fun _ _ _ => False
theorem tZ {X : Cx} : j3 pL X E0 := fun _ _ _ _ _ _ _ h => h.elim
structure qh (K : Fg) (x qual : Str) (st : Stmt) (f : Addr) (fd : FuncData) : Prop where
 ex : ∃ (oc : Value) (od : Option Addr) (kV doc pm : Value) (an : Option Addr) (cdv ct : Value) (osl : Array (Option Value)),
  fd = PySem.W.fnOf x qual (dh st) (cf st) (aj st) .none kV doc pm an cdv ct /\ K.lookup f = some ⟨oc,od,.func fd,osl⟩ /\ PySem.W.codeIn K cdv qual = true
 kp : PySem.W.keepIn K (.ref f) = true
section
variable {P : Program} {w : World} {K : Fg} {mg : Str -> Option Value} {base : Heap}
theorem qh.ok {x qual : Str} {st : Stmt} {f : Addr} {fd : FuncData} {N ps : List Str} {k : Nat} {sp : Sp} (F : qh K x qual st f fd) (S : aq N ps (aj st)) (len : ∀ vs H Q E,sp vs H Q E -> vs.length = ps.length)
  (hbody : ∀ (cdv : Value) (A : Around) (outer : List Env) (s : Shared) (H : Hp) (vs : List V) (Q : VK) (E : XK),bN k (A.deeper (envOfC qual (aj st) s.heap.objs.size f cdv)) -> sp vs H Q E →
   ∃ t,kT (o5 pL P w K mg base N qual (aj st) f cdv A outer s H E).nox (cf st) t /\ t { nx := fun _ H' => Q .non H',rt := Q } (start N vs) H) : fR P w K mg base pL (k + 1) f fd ps sp := by
 obtain ⟨oc,od,kV,doc,pm,an,cdv,ct,osl,rfl,lk,hcd⟩ := F.ex; refine ac1 lk hcd S len fun A outer s H vs Q E hr hsp => ?_
 obtain ⟨t,h,q⟩ := hbody cdv A outer s H vs Q E hr hsp; exact ⟨t,h.nox,q⟩
theorem qh.binds {x qual : Str} {st : Stmt} {f : Addr} {fd : FuncData} {ps : List Str} (F : qh K x qual st f fd)
  (h : ∀ (kV doc pm : Value) (an : Option Addr) (cdv ct : Value) (us : List Value),us.length = ps.length -> bindArgs (PySem.W.fnOf x qual (dh st) (cf st) (aj st) .none kV doc pm an cdv ct) ⟨us,[]⟩ = pure (ps.zip us)) : eD K fd ps [] := by
 obtain ⟨oc,od,kV,doc,pm,an,cdv,ct,osl,rfl,lk,hcd⟩ := F.ex; exact .all (h kV doc pm an cdv ct)
theorem uc {x qual : Str} {st : Stmt} {f : Addr} {oc : Value} {od an : Option Addr} {osl : Array (Option Value)} {kV doc pm cdv ct : Value} (l : K.lookup f = some ⟨oc,od,.func (PySem.W.fnOf x qual (dh st) (cf st) (aj st) .none kV doc pm an cdv ct),osl⟩)
  (c : PySem.W.codeIn K cdv qual = true) (k : PySem.W.keepIn K (.ref f) = true) : qh K x qual st f (PySem.W.fnOf x qual (dh st) (cf st) (aj st) .none kV doc pm an cdv ct) := ⟨⟨oc,od,kV,doc,pm,an,cdv,ct,osl,rfl,l,c⟩,k⟩
end
section
variable {X : Cx}
theorem pv (i : Nat) {x : Str} {pos : Pos} (hN : X.N[i]? = some x := by rfl) (hv : z7 X.env.scope x := by first | exact Or.inl rfl | exact Or.inr (Or.inl rfl) | exact Or.inr (Or.inr rfl)) (hd : (x == ("__debug__" : Str)) = false := by decide)
  (hcd : (x == ("__classdict__" : Str)) = false := by decide) : PE X (.Name x pos) (acS i) := acC hN hv hd hcd
end
theorem acv {A B : Prop} (h : B) : if false = true then A else B := by
 rw [if_neg Bool.false_ne_true]; exact h
theorem ad8 {A B : Prop} (h : A) : if true = true then A else B := by
 rw [if_pos rfl]; exact h
theorem ba {c A B : Prop} [Decidable c] (h1 : c -> A) (h2 : ¬ c -> B) : if c then A else B := by
 by_cases h : c
 ·rw [if_pos h]; exact h1 h
 ·rw [if_neg h]; exact h2 h
theorem br {c A B : Prop} [Decidable c] (hc : c) (h : B) : if (!decide c) = true then A else B := by
 rw [decide_eq_true hc]; exact acv h
def ak (H H' : Hp) : Prop := ∀ b o,H b = some o -> H' b = some o
theorem ak.refl (H : Hp) : ak H H := fun _ _ h => h
theorem ak.trans {H H1 H2 : Hp} (a : ak H H1) (b : ak H1 H2) : ak H H2 := fun c o h => b c o (a c o h)
theorem ak.free {H H' : Hp} (e : ak H H') {l : Addr} (h : H' l = Option.none) : H l = Option.none := by
 cases q : H l with
 | none => rfl
 | some o =>
  rw [e l o q] at h; cases h
theorem ak.seq {K : Fg} {H H' : Hp} {a : Addr} {xs : List V} (e : ak H H') (h : ag K H a xs) : ag K H' a xs := by
 rcases h with (h | ⟨o,h⟩) | h
 ·exact .inl (.inl (e _ _ h))
 ·exact .inl (.inr ⟨o,e _ _ h⟩)
 ·exact .inr h
theorem d7 {xs : List V} {z : Int} {j : Nat} {v : V} (e : z = (j : Int)) (h : xs[j]? = some v) : fm xs z = some v := by
 rw [e]; exact bE h
theorem ak.made {H H1 : Hp} {x dx C : Addr} (nx : H x = Option.none) (nd : H dx = Option.none) (k : ∀ b o,(upd (upd H dx (.own x)) x (.ins C dx [])) b = some o -> b ≠ x -> H1 b = some o) : ak H H1 := fun b o e =>
 k b o (by rw [aK (aJ e nx),aK (aJ e nd)]; exact e) (aJ e nx)
end L2

namespace Ma
open Ad
abbrev nz (l : List Nat) : List Int := l.map fun (n : Nat) => (n : Int)
theorem lP : product_ [] = 1 := rfl
theorem bM (x : Nat) (l : List Nat) : product_ (x :: l) = x * product_ l := rfl
theorem lJ : ∀ {s : List Nat},(∀ n ∈ s,1 <= n) -> 1 <= product_ s
 | [],_ => Nat.le_refl _
 | x :: l,h => by
  rw [bM]; have h1 := h x (List.mem_cons_self ..); have h2 := lJ (s := l) fun n hn => h n (List.mem_cons_of_mem _ hn)
  exact Nat.mul_pos h1 h2
theorem cg : ∀ {s : List Nat},(∀ n ∈ s,1 <= n) -> ∀ n ∈ s,n <= product_ s
 | x :: l,h,n,hn => by
  rw [bM]; have h2 := lJ (s := l) fun n hn => h n (List.mem_cons_of_mem _ hn)
  have h1 := h x (List.mem_cons_self ..)
  rcases List.mem_cons.mp hn with e | hn
  ·subst e; exact Nat.le_mul_of_pos_right _ h2
  ·exact Nat.le_trans (cg (fun n hn => h n (List.mem_cons_of_mem _ hn)) n hn) (Nat.le_mul_of_pos_left _ h1)
theorem aE {s : List Nat} (h : shapeOk s = true) : s.length <= 4 /\ (∀ n ∈ s,1 <= n) /\ product_ s <= 1024 := by
 unfold shapeOk at h; simp only [Bool.and_eq_true,decide_eq_true_eq,List.all_eq_true] at h; exact ⟨h.1,h.2.1,h.2.2⟩
theorem shape_iff {s : List Nat} : shapeOk s = true ↔ s.length <= 4 /\ (∀ n ∈ s,1 <= n) /\ product_ s <= 1024 := by
 refine ⟨aE,fun h => ?_⟩; unfold shapeOk; simp only [Bool.and_eq_true,decide_eq_true_eq,List.all_eq_true]; exact ⟨h.1,h.2.1,h.2.2⟩
def oC : List Nat -> Nat -> List Nat
 | [],_ => []
 | x :: l,c => ((c / product_ l) % x) :: oC l c
theorem yN : ∀ (s : List Nat) (c : Nat),(oC s c).length = s.length
 | [],_ => rfl
 | _ :: l,c => by simp [oC,yN l c]
theorem yI : ∀ (l : List Nat) (c k : Nat),oC l (c % (product_ l * k)) = oC l c
 | [],_,_ => rfl
 | x :: l,c,k => by
  have e : product_ (x :: l) * k = product_ l * (x * k) := by rw [bM,Nat.mul_comm x,Nat.mul_assoc]
  show ((c % (product_ (x :: l) * k)) / product_ l) % x :: oC l (c % (product_ (x :: l) * k)) = (c / product_ l) % x :: oC l c; rw [e,yI l c (x * k),Nat.mod_mul_right_div_self,Nat.mod_mul_right_mod]
theorem vv : ∀ (s : List Nat) (c : Nat),c < product_ s -> oC s c = placeOf s c
 | [],_,_ => rfl
 | x :: l,c,h => by
  show (c / product_ l) % x :: oC l c = c / product_ l :: placeOf l (c % product_ l); rw [bM] at h
  have hp : 0 < product_ l := by
   cases hz : product_ l with
   | zero => rw [hz] at h; simp at h
   | succ n => omega
  have h1 : c / product_ l < x := (Nat.div_lt_iff_lt_mul hp).mpr h; rw [Nat.mod_eq_of_lt h1,← vv l _ (Nat.mod_lt _ hp)]; have := yI l c 1; rw [Nat.mul_one] at this; rw [this]
theorem eV : ∀ (s : List Nat) (c : Nat),(placeOf s c).length = s.length
 | [],_ => rfl
 | _ :: l,c => by simp [placeOf,eV l]
def In : List Nat -> List Nat -> Prop
 | [],[] => True
 | x :: l,i :: p => i < x /\ In l p
 | _,_ => False
theorem In.len : ∀ {s p : List Nat},In s p -> p.length = s.length
 | [],[],_ => rfl
 | _ :: _,_ :: _,h => by simp [In.len h.2]
 | [],_ :: _,h => h.elim
 | _ :: _,[],h => h.elim
theorem in_iff : ∀ {s p : List Nat},In s p ↔ has s p = true
 | [],[] => by simp [In,has]
 | [],_ :: _ => by simp [In,has]
 | _ :: _,[] => by simp [In,has]
 | x :: l,i :: p => by
  have ih := in_iff (s := l) (p := p); unfold has at ih ⊢; simp only [In,ih,List.length_cons,List.zip_cons_cons,List.all_cons,Bool.and_eq_true,decide_eq_true_eq,beq_iff_eq] at ih ⊢
  constructor
  ·rintro ⟨a,b,c⟩; exact ⟨by omega,a,c⟩
  ·rintro ⟨a,b,c⟩; exact ⟨b,by omega,c⟩
theorem In.lt : ∀ {s p : List Nat},In s p -> cellOf s p < product_ s
 | [],[],_ => by simp [cellOf,product_]
 | x :: l,i :: p,h => by
  have ih := In.lt h.2; show i * product_ l + cellOf l p < x * product_ l; have h1 : (i + 1) * product_ l <= x * product_ l := Nat.mul_le_mul_right _ h.1; rw [Nat.succ_mul] at h1; omega
 | [],_ :: _,h => h.elim
 | _ :: _,[],h => h.elim
theorem cC : ∀ {s : List Nat} {c : Nat},c < product_ s -> In s (placeOf s c)
 | [],_,_ => trivial
 | x :: l,c,h => by
  rw [bM] at h
  have hp : 0 < product_ l := by
   cases hz : product_ l with
   | zero => rw [hz] at h; simp at h
   | succ n => omega
  exact ⟨(Nat.div_lt_iff_lt_mul hp).mpr h,cC (Nat.mod_lt _ hp)⟩
theorem In.get : ∀ {s p : List Nat},In s p -> ∀ {j x : Nat},s[j]? = some x -> ∃ i,p[j]? = some i /\ i < x
 | x :: l,i :: p,h,0,y,e => by
  have e : x = y := Option.some.inj e; subst e; exact ⟨i,rfl,h.1⟩
 | x :: l,i :: p,h,j + 1,y,e => by
  obtain ⟨k,e1,e2⟩ := In.get h.2 (j := j) (x := y) e; exact ⟨k,e1,e2⟩
 | [],[],_,_,_,e => by simp at e
 | [],_ :: _,h,_,_,_ => h.elim
 | _ :: _,[],h,_,_,_ => h.elim
theorem In.mk : ∀ {s p : List Nat},p.length = s.length -> (∀ (j x i : Nat),s[j]? = some x -> p[j]? = some i -> i < x) -> In s p
 | [],[],_,_ => trivial
 | x :: l,i :: p,hl,h => ⟨h 0 x i rfl rfl,In.mk (by simpa using hl) fun j y k a b => h (j + 1) y k a b⟩
 | [],_ :: _,hl,_ => by simp at hl
 | _ :: _,[],hl,_ => by simp at hl
theorem iz {x : Int} : cellFine x = true ↔ -1000000000000000 <= x /\ x <= 1000000000000000 := by
 unfold cellFine GREAT
 simp
theorem dH : ∀ (a b : List Nat),product_ (a ++ b) = product_ a * product_ b
 | [],b => by rw [List.nil_append,lP,Nat.one_mul]
 | x :: a,b => by rw [List.cons_append,bM,bM,dH a b,Nat.mul_assoc]
theorem aaK {s : List Nat} {i z : Nat} (h : s[i]? = some z) : product_ (s.take (i + 1)) = product_ (s.take i) * z := by
 have e : s.take (i + 1) = s.take i ++ [z] := by
  rw [List.take_add_one,h]; rfl
 rw [e,dH,bM,lP,Nat.mul_one]
theorem x_ {s p : List Nat} {i x y : Nat} (h1 : s[i]? = some x) (h2 : p[i]? = some y) (hl : p.length = s.length) : cellOf (s.take (i + 1)) (p.take (i + 1)) = cellOf (s.take i) (p.take i) * x + y := by
 have e1 : s.take (i + 1) = s.take i ++ [x] := by rw [List.take_add_one,h1]; rfl
 have e2 : p.take (i + 1) = p.take i ++ [y] := by rw [List.take_add_one,h2]; rfl
 rw [e1,e2]
 have : ∀ (a b : List Nat),b.length = a.length -> cellOf (a ++ [x]) (b ++ [y]) = cellOf a b * x + y := by
  intro a
  induction a with
  | nil =>
   intro b hb
   cases b with
   | nil => simp [cellOf,lP]
   | cons _ _ => simp at hb
  | cons n a ih =>
   intro b hb
   cases b with
   | nil => simp at hb
   | cons m b =>
    show m * product_ (a ++ [x]) + cellOf (a ++ [x]) (b ++ [y]) = (m * product_ a + cellOf a b) * x + y; rw [ih b (by simpa using hb),dH,bM,lP,Nat.mul_one,Nat.add_mul,Nat.mul_assoc,Nat.add_assoc]
 exact this _ _ (by rw [List.length_take,List.length_take,hl])
theorem abq {s : List Nat} {k x c : Nat} (h : s[k]? = some x) : oC (s.drop k) c = ((c / product_ (s.drop (k + 1))) % x) :: oC (s.drop (k + 1)) c := by
 obtain ⟨hk,e⟩ := List.getElem?_eq_some_iff.mp h; rw [List.drop_eq_getElem_cons hk,e]; rfl
theorem aav {s : List Nat} {k x : Nat} (h : s[k]? = some x) : product_ (s.drop k) = x * product_ (s.drop (k + 1)) := by
 obtain ⟨hk,e⟩ := List.getElem?_eq_some_iff.mp h; rw [List.drop_eq_getElem_cons hk,e]; rfl
theorem aad {s p : List Nat} {i x y : Nat} (h1 : s[i]? = some x) (h2 : p[i]? = some y) (h : x <= y) : has s p = false := by
 cases e : has s p with
 | false => rfl
 | true =>
  obtain ⟨z,e1,e2⟩ := (in_iff.mpr e).get h1; rw [h2] at e1; cases e1; omega
theorem aae {a b : Int} {n i : Nat} (ha : cellFine a = true) (hl : cellFine (a + b * (n : Int)) = true) (hi : i <= n) : cellFine (a + b * (i : Int)) = true := by
 rw [iz] at ha hl ⊢; have hi' : (i : Int) <= (n : Int) := by omega
 have h0 : (0 : Int) <= (i : Int) := by omega
 rcases Int.le_total 0 b with h | h
 ·have h1 : b * (i : Int) <= b * (n : Int) := Int.mul_le_mul_of_nonneg_left hi' h; have h2 : 0 <= b * (i : Int) := Int.mul_nonneg h h0; omega
 ·have h1 : b * (n : Int) <= b * (i : Int) := Int.mul_le_mul_of_nonpos_left h hi'; have h2 : b * (i : Int) <= 0 := Int.mul_nonpos_of_nonpos_of_nonneg h h0; omega
end Ma

namespace Ma
open Ad
theorem spreads_iff {a b : List Nat} : spreads a b = true ↔ a.length <= b.length /\ ∀ (j x y : Nat),a[j]? = some x -> (b.drop (b.length - a.length))[j]? = some y -> x = y \/ x = 1 := by
 unfold spreads padded; rw [Bool.and_eq_true,decide_eq_true_eq]; refine and_congr_right fun hl => ?_
 rw [List.all_eq_true]
 constructor
 ·intro h j x y hx hy; rw [List.getElem?_drop] at hy
  have e : ((List.replicate (b.length - a.length) 1 ++ a).zip b)[b.length - a.length + j]? = some (x,y) := by
   rw [List.getElem?_zip_eq_some]; refine ⟨?_,hy⟩; rw [List.getElem?_append_right (by simp)]
   simpa using hx
  have := h (x,y) (List.mem_of_getElem? e)
  simpa using this
 ·rintro h ⟨x,y⟩ hm; obtain ⟨k,hk⟩ := List.mem_iff_getElem?.mp hm; obtain ⟨h1,h2⟩ := List.getElem?_zip_eq_some.mp hk; simp only [Bool.or_eq_true,beq_iff_eq]
  by_cases hk2 : k < b.length - a.length
  ·rw [List.getElem?_append_left (by simpa using hk2),List.getElem?_replicate,if_pos hk2] at h1
   right
   exact (Option.some.inj h1).symm
  ·rw [List.getElem?_append_right (by simp; omega)] at h1; refine h (k - (b.length - a.length)) x y (by simpa using h1) ?_; rw [List.getElem?_drop,← h2]; congr 1; omega
theorem ml {a p : List Nat} (h : a.length <= p.length) : (narrowed a p).length = a.length := by
 unfold narrowed; rw [List.length_map,List.length_zip,List.length_drop]; omega
theorem qG {a p : List Nat} {j x y : Nat} (hx : a[j]? = some x) (hy : (p.drop (p.length - a.length))[j]? = some y) : (narrowed a p)[j]? = some (if x = 1 then 0 else y) := by
 unfold narrowed; rw [List.getElem?_map,List.getElem?_zip_eq_some (z := (x,y)) |>.mpr ⟨hx,hy⟩]; rfl
theorem nZ {a b p : List Nat} (hs : spreads a b = true) (hb : In b p) : In a (narrowed a p) := by
 obtain ⟨hl,h⟩ := spreads_iff.mp hs; have hpl := hb.len; refine In.mk (ml (by omega)) fun j x i hx hi => ?_
 have hj := (List.getElem?_eq_some_iff.mp hx).1; have hy : (p.drop (p.length - a.length))[j]? = some ((p.drop (p.length - a.length))[j]'(by rw [List.length_drop]; omega)) := List.getElem?_eq_getElem _; rw [qG hx hy] at hi; have e := Option.some.inj hi
 by_cases h1 : x = 1
 ·rw [if_pos h1] at e; omega
 ·rw [if_neg h1] at e; have hy2 := hy; rw [List.getElem?_drop] at hy2; have hb2 : b[p.length - a.length + j]? = some (b[p.length - a.length + j]'(by omega)) := List.getElem?_eq_getElem _; obtain ⟨i',e1,e2⟩ := hb.get hb2; rw [hy2] at e1; have := Option.some.inj e1
  rcases h j x _ hx (by rw [List.getElem?_drop,← hpl]; exact hb2) with q | q
  ·omega
  ·exact absurd q h1
def lm (c : List Int) (l : List Cut) : Prop := c.length = 3 * l.length /\ ∀ (i : Nat) q,l[i]? = some q -> c[3 * i]? = some q.from_ /\ c[3 * i + 1]? = some q.step /\ c[3 * i + 2]? = some (q.count : Int) /\ 1 <= q.count /\ q.count <= 1024
theorem nD : ∀ {c : List Int} {l : List Cut},Ay.cutsOf c = some l -> lm c l
 | [],l,h => by
  have e : l = [] := (Option.some.inj h).symm; subst e; exact ⟨rfl,fun i q e => by simp at e⟩
 | [_],_,h => by cases h
 | [_,_],_,h => by cases h
 | a :: b :: c :: r,l,h => by
  rw [Ay.cutsOf] at h
  split at h
  ·cases h
  ·rename_i hc
   cases e : Ay.cutsOf r with
   | none => rw [e] at h; cases h
   | some m =>
    rw [e] at h; have e2 : (⟨a,b,c.toNat⟩ :: m : List Cut) = l := Option.some.inj h; subst e2; obtain ⟨h1,h2⟩ := nD e; refine ⟨by simp only [List.length_cons]; omega,fun i q hq => ?_⟩
    cases i with
    | zero =>
     have e3 : (⟨a,b,c.toNat⟩ : Cut) = q := Option.some.inj hq; subst e3; refine ⟨rfl,rfl,?_,?_,?_⟩
     ·show some c = some ((c.toNat : Nat) : Int); congr 1; omega
     ·show 1 <= c.toNat; omega
     ·show c.toNat <= 1024; omega
    | succ i =>
     obtain ⟨g1,g2,g3,g4⟩ := h2 i q hq; exact ⟨g1,g2,g3,g4⟩
theorem nX : ∀ {c : List Int} {r : Nat},c.length = 3 * r -> (Ay.cutsOf c = none ↔ ∃ i z,i < r /\ c[3 * i + 2]? = some z /\ (z < 1 \/ 1024 < z))
 | [],r,h => by
  have : r = 0 := by simp at h; omega
  subst this; simp [Ay.cutsOf]
 | [_],r,h => by simp at h; omega
 | [_,_],r,h => by simp at h; omega
 | a :: b :: c :: l,r,h => by
  have hr : l.length = 3 * (r - 1) := by simp only [List.length_cons] at h; omega
  have hr1 : 1 <= r := by simp only [List.length_cons] at h; omega
  have ih := nX hr; rw [Ay.cutsOf]
  split
  ·rename_i hc; simp only [true_iff]; exact ⟨0,c,by omega,rfl,by omega⟩
  ·rename_i hc
   constructor
   ·intro hn
    have hn2 : Ay.cutsOf l = none := by
     cases e : Ay.cutsOf l with
     | none => rfl
     | some m => rw [e] at hn; cases hn
    obtain ⟨i,z,h1,h2,h3⟩ := ih.mp hn2; exact ⟨i + 1,z,by clear ih; omega,h2,h3⟩
   ·rintro ⟨i,z,h1,h2,h3⟩
    cases i with
    | zero =>
     have e : c = z := Option.some.inj h2; omega
    | succ i =>
     rw [ih.mpr ⟨i,z,by clear ih; omega,h2,h3⟩]; rfl
def dL (s : List Nat) (c : List Int) : Bool := match Ay.cutsOf c with
 | some l => l.length == s.length
 | none => false
theorem lX {s : List Nat} {c : List Int} (h : dL s c = true) : ∃ l,Ay.cutsOf c = some l /\ l.length = s.length /\ lm c l := by
 unfold dL at h
 cases e : Ay.cutsOf c with
 | none => rw [e] at h; cases h
 | some l =>
  rw [e] at h; exact ⟨l,rfl,by simpa using h,nD e⟩
theorem xO {s : List Nat} {c : List Int} (h : c.length ≠ 3 * s.length) : dL s c = false := by
 cases e : dL s c with
 | false => rfl
 | true =>
  obtain ⟨l,_,h1,h2,_⟩ := lX e; omega
theorem r8 {s : List Nat} {c : List Int} {i : Nat} {z : Int} (hl : c.length = 3 * s.length) (hi : i < s.length) (hz : c[3 * i + 2]? = some z) (hb : z < 1 \/ 1024 < z) : dL s c = false := by
 unfold dL; rw [(nX hl).mpr ⟨i,z,hi,hz,hb⟩]
theorem wm {s : List Nat} {c : List Int} (hl : c.length = 3 * s.length) (h : ∀ i z,i < s.length -> c[3 * i + 2]? = some z -> ¬ (z < 1 \/ 1024 < z)) : dL s c = true := by
 unfold dL
 cases e : Ay.cutsOf c with
 | none =>
  obtain ⟨i,z,h1,h2,h3⟩ := (nX hl).mp e; exact absurd h3 (h i z h1 h2)
 | some l =>
  have := (nD e).1
  simp
  omega
theorem mM {c : List Int} {l : List Cut} (h : lm c l) : (List.range l.length).map (fun i => c.getD (3 * i + 2) 0) = nz (cutShape l) := by
 apply List.ext_getElem?; intro i
 by_cases hi : i < l.length
 ·have e : l[i]? = some l[i] := List.getElem?_eq_getElem hi; obtain ⟨_,_,g,_⟩ := h.2 i _ e; rw [List.getElem?_map,List.getElem?_range hi]; simp only [nz,cutShape,List.getElem?_map,e,Option.map_some,List.getD_eq_getElem?_getD,g,Option.getD_some]
 ·rw [List.getElem?_eq_none (by simp; omega),List.getElem?_eq_none (by simp [nz,cutShape]; omega)]
theorem zu {q : Cut} {n : Nat} (h1 : 1 <= q.count) : q.within n = true ↔ (0 <= q.from_ /\ q.from_ < n /\ 0 <= q.from_ + q.step * ((q.count : Int) - 1) /\ q.from_ + q.step * ((q.count : Int) - 1) < n) := by
 unfold Cut.within Cut.at_; rw [List.all_eq_true]; simp only [List.mem_range,Bool.and_eq_true,decide_eq_true_eq]
 constructor
 ·intro h; have a := h 0 (by omega); have b := h (q.count - 1) (by omega); rw [Int.ofNat_sub h1] at b; simp at a; exact ⟨a.1,a.2,b.1,b.2⟩
 ·rintro ⟨a1,a2,b1,b2⟩ i hi; have hi' : (i : Int) <= (q.count : Int) - 1 := by omega
  have h0 : (0 : Int) <= (i : Int) := by omega
  rcases Int.le_total 0 q.step with h | h
  ·have z1 := Int.mul_le_mul_of_nonneg_left hi' h; have z2 := Int.mul_nonneg h h0; omega
  ·have z1 := Int.mul_le_mul_of_nonpos_left h hi'; have z2 := Int.mul_nonpos_of_nonpos_of_nonneg h h0; omega
theorem qu {s : List Nat} {l : List Cut} (hl : l.length = s.length) : cutOk s l = true ↔ ∀ (i : Nat) q n,l[i]? = some q -> s[i]? = some n -> q.within n = true := by
 unfold cutOk; rw [List.all_eq_true]
 constructor
 ·intro h i q n h1 h2; exact h (q,n) (List.mem_of_getElem? (List.getElem?_zip_eq_some.mpr ⟨h1,h2⟩))
 ·rintro h ⟨q,n⟩ hm; obtain ⟨k,hk⟩ := List.mem_iff_getElem?.mp hm; obtain ⟨h1,h2⟩ := List.getElem?_zip_eq_some.mp hk; exact h k q n h1 h2
theorem lL {l : List Cut} {p : List Nat} (h : p.length = l.length) : (cutPlace l p).length = l.length := by
 unfold cutPlace; rw [List.length_map,List.length_zip]; omega
theorem p6 {l : List Cut} {p : List Nat} {i : Nat} {q : Cut} {n : Nat} (h1 : l[i]? = some q) (h2 : p[i]? = some n) : (cutPlace l p)[i]? = some (q.at_ n).toNat := by
 unfold cutPlace; rw [List.getElem?_map,List.getElem?_zip_eq_some (z := (q,n)) |>.mpr ⟨h1,h2⟩]; rfl
theorem aaw {s : List Nat} {l : List Cut} {p : List Nat} (hl : l.length = s.length) (hc : cutOk s l = true) (hp : In (cutShape l) p) {i : Nat} {q : Cut} {n x : Nat} (h1 : l[i]? = some q) (h2 : p[i]? = some n) (h3 : s[i]? = some x) : 0 <= q.at_ n /\ q.at_ n < x := by
 have hw := (qu hl).mp hc i q x h1 h3; unfold Cut.within at hw; rw [List.all_eq_true] at hw
 have h4 : (cutShape l)[i]? = some q.count := by
  unfold cutShape; rw [List.getElem?_map,h1]; rfl
 obtain ⟨m,e1,e2⟩ := hp.get h4; rw [h2] at e1; cases e1; have := hw n (List.mem_range.mpr e2)
 simpa using this
theorem jD {s : List Nat} {l : List Cut} {p : List Nat} (hl : l.length = s.length) (hc : cutOk s l = true) (hp : In (cutShape l) p) : In s (cutPlace l p) := by
 have hpl : p.length = l.length := by rw [hp.len]; unfold cutShape; rw [List.length_map]
 refine In.mk (by rw [lL hpl]; exact hl) fun j x i hx hi => ?_
 have hj := (List.getElem?_eq_some_iff.mp hx).1; have e1 : l[j]? = some (l[j]'(by omega)) := List.getElem?_eq_getElem _; have e2 : p[j]? = some (p[j]'(by omega)) := List.getElem?_eq_getElem _; rw [p6 e1 e2] at hi; have := aaw hl hc hp e1 e2 hx; have := Option.some.inj hi; omega
theorem ot : ∀ {a b : List Nat},nz a = nz b -> a = b
 | [],[],_ => rfl
 | [],_ :: _,h => by cases h
 | _ :: _,[],h => by cases h
 | x :: a,y :: b,h => by
  have h1 : (x : Int) = (y : Int) := (List.cons.inj h).1; have h2 := ot (a := a) (b := b) (List.cons.inj h).2; have : x = y := by omega
  rw [this,h2]
end Ma

namespace Ma
open Ad
theorem aas {a b : List Nat} (h : a.Perm b) : product_ a = product_ b := by
 induction h with
 | nil => rfl
 | cons x _ ih => rw [bM,bM,ih]
 | swap x y l => rw [bM,bM,bM,bM,← Nat.mul_assoc,← Nat.mul_assoc,Nat.mul_comm x y]
 | trans _ _ h1 h2 => exact h1.trans h2
theorem r_ : ∀ (rs l : List Nat),rs.Nodup -> (∀ x ∈ rs,x ∈ l) -> l.length = rs.length -> l.Perm rs
 | [],l,_,_,hl => by
  have : l = [] := List.length_eq_zero_iff.mp hl; rw [this]
 | x :: rs,l,hn,hm,hl => by
  have hx := hm x (List.mem_cons_self ..); have hn2 := List.nodup_cons.mp hn; have h1 := List.perm_cons_erase hx
  have hle : (l.erase x).length = rs.length := by
   have := h1.length_eq; simp only [List.length_cons] at this hl; omega
  have h2 := r_ rs (l.erase x) hn2.2 (fun y hy => (List.mem_erase_of_ne (fun (e : y = x) => hn2.1 (by rw [← e]; exact hy))).mpr (hm y (List.mem_cons_of_mem _ hy))) hle; exact h1.trans (h2.cons x)
theorem axes_iff {r : Nat} {l : List Nat} : axesOk r l = true ↔ l.Perm (List.range r) := by
 unfold axesOk; rw [Bool.and_eq_true,beq_iff_eq,List.all_eq_true]
 constructor
 ·rintro ⟨h1,h2⟩; refine r_ _ _ List.nodup_range (fun x hx => ?_) (by rw [h1,List.length_range]); exact List.contains_iff_mem.mp (h2 x hx)
 ·intro h; refine ⟨by rw [h.length_eq,List.length_range],fun x hx => List.contains_iff_mem.mpr (h.mem_iff.mpr hx)⟩
theorem ss : ∀ {a b : List Int},a.Perm b -> a.Pairwise (· <= ·) -> b.Pairwise (· <= ·) -> a = b
 | [],b,h,_,_ => by rw [h.nil_eq]
 | x :: a,[],h,_,_ => by
  have := h.length_eq; simp at this
 | x :: a,y :: b,h,h1,h2 => by
  have hx : x ∈ y :: b := h.mem_iff.mp (List.mem_cons_self ..); have hy : y ∈ x :: a := h.mem_iff.mpr (List.mem_cons_self ..); have h1' := List.pairwise_cons.mp h1; have h2' := List.pairwise_cons.mp h2
  have e : x = y := by
   rcases List.mem_cons.mp hx with e | hx
   ·exact e
   ·rcases List.mem_cons.mp hy with e | hy
    ·exact e.symm
    ·have := h1'.1 y hy; have := h2'.1 x hx; omega
  subst e; rw [ss (h.cons_inv) h1'.2 h2'.2]
theorem um (r : Nat) : (nz (List.range r)).Pairwise (· <= ·) := by
 unfold nz; rw [List.pairwise_map]; have h : (List.range r).Pairwise (· < ·) := List.pairwise_lt_range
 exact h.imp fun {a b} h => by omega
theorem xZ {r : Nat} {l : List Nat} {ys : List Int} (h1 : ys.Perm (nz l)) (h2 : ys.Pairwise (· <= ·)) : axesOk r l = decide (ys = nz (List.range r)) := by
 by_cases e : ys = nz (List.range r)
 ·rw [decide_eq_true e]; rw [axes_iff]; rw [e] at h1
  have h3 : (nz l).map Int.toNat = l := by
   unfold nz; rw [List.map_map]; have : (Int.toNat ∘ fun (n : Nat) => (n : Int)) = id := by funext n; simp
   rw [this,List.map_id]
  have h4 : (nz (List.range r)).map Int.toNat = List.range r := by
   unfold nz; rw [List.map_map]; have : (Int.toNat ∘ fun (n : Nat) => (n : Int)) = id := by funext n; simp
   rw [this,List.map_id]
  have := (h1.map Int.toNat).symm; rw [h3,h4] at this; exact this
 ·rw [decide_eq_false e]
  cases h : axesOk r l with
  | false => rfl
  | true =>
   exact absurd (ss (h1.trans ((axes_iff.mp h).map _)) h2 (um r)) e
theorem bL {s : List Nat} {i x : Nat} (h : s[i]? = some x) : along s i = x := by
 unfold along; rw [List.getD_eq_getElem?_getD,h]; rfl
theorem xV (s : List Nat) : (List.range s.length).map (along s) = s := by
 apply List.ext_getElem?; intro i
 by_cases hi : i < s.length
 ·rw [List.getElem?_map,List.getElem?_range hi,List.getElem?_eq_getElem hi]; exact congrArg some (bL (List.getElem?_eq_getElem hi))
 ·rw [List.getElem?_eq_none (by simp; omega),List.getElem?_eq_none (by omega)]
theorem tF {s l : List Nat} (hs : shapeOk s = true) (h : axesOk s.length l = true) : shapeOk (l.map (along s)) = true := by
 have hp : (l.map (along s)).Perm s := by
  have := (axes_iff.mp h).map (along s); rw [xV] at this; exact this
 obtain ⟨h1,h2,h3⟩ := aE hs; exact shape_iff.mpr ⟨by rw [hp.length_eq]; exact h1,fun n hn => h2 n (hp.mem_iff.mp hn),by rw [aas hp]; exact h3⟩
def jT (r : Nat) (l p : List Nat) : List Nat := (List.range r).map fun j => p.getD (l.idxOf j) 0
def eS (r : Nat) (l p : List Nat) (n : Nat) : List Nat := (List.range r).map fun j => if l.idxOf j < n then p.getD (l.idxOf j) 0 else 0
theorem aaP {l : List Nat} (hn : l.Nodup) {n x : Nat} (h : l[n]? = some x) : l.idxOf x = n := by
 obtain ⟨hl,e⟩ := List.getElem?_eq_some_iff.mp h; rw [← e]; exact hn.idxOf_getElem n hl
theorem vM {l : List Nat} {x : Nat} (h : x ∈ l) : l[l.idxOf x]? = some x := by
 have hl : l.idxOf x < l.length := List.idxOf_lt_length_iff.mpr h; rw [List.getElem?_eq_getElem hl]; congr 1; exact List.getElem_idxOf hl
theorem xW {r : Nat} {l p : List Nat} (h : axesOk r l = true) {n x y : Nat} (hx : l[n]? = some x) (hy : p[n]? = some y) : x < r /\ (eS r l p n).set x y = eS r l p (n + 1) := by
 have hp := axes_iff.mp h; have hnd : l.Nodup := hp.nodup_iff.mpr List.nodup_range; have hxr : x < r := List.mem_range.mp (hp.mem_iff.mp (List.mem_of_getElem? hx)); refine ⟨hxr,?_⟩; apply List.ext_getElem?; intro j; unfold eS
 by_cases hj : j < r
 ·by_cases hjx : j = x
  ·subst hjx; rw [List.getElem?_set_self (by simp; omega),List.getElem?_map,List.getElem?_range hj,Option.map_some,aaP hnd hx,if_pos (by omega),List.getD_eq_getElem?_getD,hy]; rfl
  ·rw [List.getElem?_set_ne (Ne.symm hjx),List.getElem?_map,List.getElem?_map,List.getElem?_range hj]; simp only [Option.map_some]
   have hne : l.idxOf j ≠ n := fun e => by
    have := vM (l := l) (x := j) (hp.mem_iff.mpr (List.mem_range.mpr hj)); rw [e,hx] at this; exact hjx (Option.some.inj this).symm
   by_cases hlt : l.idxOf j < n
   ·rw [if_pos hlt,if_pos (by omega)]
   ·rw [if_neg hlt,if_neg (by omega)]
 ·rw [List.getElem?_eq_none (by simp; omega),List.getElem?_eq_none (by simp; omega)]
theorem zP {r : Nat} {l p : List Nat} (h : axesOk r l = true) {n : Nat} (hn : n = l.length) : eS r l p n = jT r l p := by
 have hp := axes_iff.mp h; unfold eS jT; apply List.map_congr_left; intro j hj; have : l.idxOf j < l.length := List.idxOf_lt_length_iff.mpr (hp.mem_iff.mpr hj); rw [if_pos (by omega)]
theorem wy (r : Nat) (l p : List Nat) : eS r l p 0 = (List.range r).map fun _ => 0 := by
 unfold eS; apply List.map_congr_left; intro j _; rw [if_neg (by omega)]
theorem vB {s l p : List Nat} (h : axesOk s.length l = true) (hp : In (l.map (along s)) p) : In s (jT s.length l p) := by
 have hpm := axes_iff.mp h; refine In.mk (by simp [jT]) fun j x i hx hi => ?_
 have hj := (List.getElem?_eq_some_iff.mp hx).1; unfold jT at hi; rw [List.getElem?_map,List.getElem?_range hj] at hi; have e1 := vM (l := l) (x := j) (hpm.mem_iff.mpr (List.mem_range.mpr hj))
 have e2 : (l.map (along s))[l.idxOf j]? = some x := by
  rw [List.getElem?_map,e1]; exact congrArg some (bL hx)
 obtain ⟨k,e3,e4⟩ := hp.get e2; simp only [Option.map_some,List.getD_eq_getElem?_getD,e3,Option.getD_some,Option.some.injEq] at hi; omega
theorem xj {x : Nat} {a b : List Nat} (hx : x < a.length) : joinOk x a b = true ↔ a.length = b.length /\ a.set x (along b x) = b := by
 unfold joinOk; rw [Bool.and_eq_true,beq_iff_eq,List.all_eq_true]; refine and_congr_right fun hl => ?_
 constructor
 ·intro h; apply List.ext_getElem?; intro i
  by_cases hi : i < a.length
  ·have hbi : b[i]? = some (b[i]'(by omega)) := List.getElem?_eq_getElem _
   by_cases hix : i = x
   ·subst hix; rw [List.getElem?_set_self hi,bL hbi,hbi]
   ·rw [List.getElem?_set_ne (Ne.symm hix)]; have := h i (List.mem_range.mpr hi); rw [Bool.or_eq_true,beq_iff_eq,beq_iff_eq] at this
    rcases this with e | e
    ·exact absurd e hix
    ·rw [bL (List.getElem?_eq_getElem hi),bL hbi] at e; rw [List.getElem?_eq_getElem hi,hbi,e]
  ·rw [List.getElem?_eq_none (by simp; omega),List.getElem?_eq_none (by omega)]
 ·intro h i hi; have hi := List.mem_range.mp hi; rw [Bool.or_eq_true,beq_iff_eq,beq_iff_eq]
  by_cases hix : i = x
  ·exact .inl hix
  ·right
   have e : b[i]? = a[i]? := by rw [← h,List.getElem?_set_ne (Ne.symm hix)]
   have ha : a[i]? = some a[i] := List.getElem?_eq_getElem hi; rw [bL ha,bL (e.trans ha)]
theorem fZ {l : List Nat} {x y : Nat} (h : l[x]? = some y) : l.set x y = l := by
 apply List.ext_getElem?; intro i
 by_cases hi : x = i
 ·subst hi; rw [List.getElem?_set_self (List.getElem?_eq_some_iff.mp h).1,h]
 ·rw [List.getElem?_set_ne hi]
theorem In.set {s p : List Nat} {x n m : Nat} (h : In (s.set x n) p) (hx : x < s.length) (i : Nat) (hi : i < m) : In (s.set x m) (p.set x i) := by
 have hl := h.len; rw [List.length_set] at hl; refine In.mk (by simp [hl]) fun j y k h1 h2 => ?_
 by_cases hj : x = j
 ·subst hj; rw [List.getElem?_set_self hx] at h1; rw [List.getElem?_set_self (by omega)] at h2; cases h1; cases h2; exact hi
 ·rw [List.getElem?_set_ne hj] at h1 h2; obtain ⟨q,e1,e2⟩ := h.get (j := j) (x := y) (by rw [List.getElem?_set_ne hj]; exact h1); rw [h2] at e1; cases e1; exact e2
theorem In.axis {s p : List Nat} {x : Nat} (h : In s p) (hx : x < s.length) : p[x]? = some (p.getD x 0) /\ p.getD x 0 < along s x := by
 have hs : s[x]? = some s[x] := List.getElem?_eq_getElem hx; obtain ⟨i,e1,e2⟩ := h.get hs; rw [List.getD_eq_getElem?_getD,e1,bL hs]; exact ⟨rfl,e2⟩
end Ma

namespace Ma
theorem ck {α : Type} {l : List α} (h : l.length = 0) : l = [] := List.length_eq_zero_iff.mp h
theorem c8 {α : Type} {l : List α} (h : l.length = 1) : ∃ a,l = [a] := by
 match l,h with
 | [a],_ => exact ⟨a,rfl⟩
theorem l0 {α : Type} {l : List α} (h : l.length = 2) : ∃ a b,l = [a,b] := by
 match l,h with
 | [a,b],_ => exact ⟨a,b,rfl⟩
theorem vc {α : Type} {l : List α} (h : l.length = 3) : ∃ a b c,l = [a,b,c] := by
 match l,h with
 | [a,b,c],_ => exact ⟨a,b,c,rfl⟩
theorem nJ {α : Type} {l : List α} (h : l.length = 4) : ∃ a b c d,l = [a,b,c,d] := by
 match l,h with
 | [a,b,c,d],_ => exact ⟨a,b,c,d,rfl⟩
theorem mO {p : Int} {k m : Nat} (h : PyYqlnca.shape p = some (k,m)) : (p = 1 /\ k = 1 /\ m = 2) \/ (p = 2 /\ k = 2 /\ m = 1) \/ (p = 3 /\ k = 3 /\ m = 1) \/ (p = 4 /\ k = 1 /\ m = 0) \/ (p = 5 /\ k = 1 /\ m = 0) \/ (p = 6 /\ k = 1 /\ m = 0) \/ (p = 7 /\ k = 1 /\ m = 1) \/ (p = 8 /\ k = 2 /\ m = 1) \/ (p = 9 /\ k = 2 /\ m = 1) \/ (p = 10 /\ k = 2 /\ m = 1) \/ (p = 11 /\ k = 2 /\ m = 1) \/ (p = 12 /\ k = 2 /\ m = 1) \/ (p = 13 /\ k = 4 /\ m = 0) \/ (p = 14 /\ k = 4 /\ m = 0) \/ (p = 15 /\ k = 4 /\ m = 0) \/ (p = 16 /\ k = 4 /\ m = 0) \/ (p = 17 /\ k = 4 /\ m = 0) \/ (p = 18 /\ k = 4 /\ m = 0) \/ (p = 19 /\ k = 3 /\ m = 0) \/ (p = 20 /\ k = 4 /\ m = 0) \/ (p = 21 /\ k = 3 /\ m = 0) \/ (p = 22 /\ k = 4 /\ m = 0) \/ (p = 23 /\ k = 3 /\ m = 0) \/ (p = 24 /\ k = 2 /\ m = 0) \/ (p = 25 /\ k = 1 /\ m = 0) \/ (p = 26 /\ k = 1 /\ m = 1) := by
 unfold PyYqlnca.shape at h
 by_cases h1 : p = 1
 ·rw [if_pos h1] at h; cases h; exact .inl ⟨h1,rfl,rfl⟩
 rw [if_neg h1] at h; refine .inr ?_
 by_cases h2 : p = 2
 ·rw [if_pos h2] at h; cases h; exact .inl ⟨h2,rfl,rfl⟩
 rw [if_neg h2] at h; refine .inr ?_
 by_cases h3 : p = 3
 ·rw [if_pos h3] at h; cases h; exact .inl ⟨h3,rfl,rfl⟩
 rw [if_neg h3] at h; refine .inr ?_
 by_cases h4 : p = 4
 ·rw [if_pos h4] at h; cases h; exact .inl ⟨h4,rfl,rfl⟩
 rw [if_neg h4] at h; refine .inr ?_
 by_cases h5 : p = 5
 ·rw [if_pos h5] at h; cases h; exact .inl ⟨h5,rfl,rfl⟩
 rw [if_neg h5] at h; refine .inr ?_
 by_cases h6 : p = 6
 ·rw [if_pos h6] at h; cases h; exact .inl ⟨h6,rfl,rfl⟩
 rw [if_neg h6] at h; refine .inr ?_
 by_cases h7 : p = 7
 ·rw [if_pos h7] at h; cases h; exact .inl ⟨h7,rfl,rfl⟩
 rw [if_neg h7] at h; refine .inr ?_
 by_cases h8 : p = 8
 ·rw [if_pos h8] at h; cases h; exact .inl ⟨h8,rfl,rfl⟩
 rw [if_neg h8] at h; refine .inr ?_
 by_cases h9 : p = 9
 ·rw [if_pos h9] at h; cases h; exact .inl ⟨h9,rfl,rfl⟩
 rw [if_neg h9] at h; refine .inr ?_
 by_cases h10 : p = 10
 ·rw [if_pos h10] at h; cases h; exact .inl ⟨h10,rfl,rfl⟩
 rw [if_neg h10] at h; refine .inr ?_
 by_cases h11 : p = 11
 ·rw [if_pos h11] at h; cases h; exact .inl ⟨h11,rfl,rfl⟩
 rw [if_neg h11] at h; refine .inr ?_
 by_cases h12 : p = 12
 ·rw [if_pos h12] at h; cases h; exact .inl ⟨h12,rfl,rfl⟩
 rw [if_neg h12] at h; refine .inr ?_
 by_cases h13 : p = 13
 ·rw [if_pos h13] at h; cases h; exact .inl ⟨h13,rfl,rfl⟩
 rw [if_neg h13] at h; refine .inr ?_
 by_cases h14 : p = 14
 ·rw [if_pos h14] at h; cases h; exact .inl ⟨h14,rfl,rfl⟩
 rw [if_neg h14] at h; refine .inr ?_
 by_cases h15 : p = 15
 ·rw [if_pos h15] at h; cases h; exact .inl ⟨h15,rfl,rfl⟩
 rw [if_neg h15] at h; refine .inr ?_
 by_cases h16 : p = 16
 ·rw [if_pos h16] at h; cases h; exact .inl ⟨h16,rfl,rfl⟩
 rw [if_neg h16] at h; refine .inr ?_
 by_cases h17 : p = 17
 ·rw [if_pos h17] at h; cases h; exact .inl ⟨h17,rfl,rfl⟩
 rw [if_neg h17] at h; refine .inr ?_
 by_cases h18 : p = 18
 ·rw [if_pos h18] at h; cases h; exact .inl ⟨h18,rfl,rfl⟩
 rw [if_neg h18] at h; refine .inr ?_
 by_cases h19 : p = 19
 ·rw [if_pos h19] at h; cases h; exact .inl ⟨h19,rfl,rfl⟩
 rw [if_neg h19] at h; refine .inr ?_
 by_cases h20 : p = 20
 ·rw [if_pos h20] at h; cases h; exact .inl ⟨h20,rfl,rfl⟩
 rw [if_neg h20] at h; refine .inr ?_
 by_cases h21 : p = 21
 ·rw [if_pos h21] at h; cases h; exact .inl ⟨h21,rfl,rfl⟩
 rw [if_neg h21] at h; refine .inr ?_
 by_cases h22 : p = 22
 ·rw [if_pos h22] at h; cases h; exact .inl ⟨h22,rfl,rfl⟩
 rw [if_neg h22] at h; refine .inr ?_
 by_cases h23 : p = 23
 ·rw [if_pos h23] at h; cases h; exact .inl ⟨h23,rfl,rfl⟩
 rw [if_neg h23] at h; refine .inr ?_
 by_cases h24 : p = 24
 ·rw [if_pos h24] at h; cases h; exact .inl ⟨h24,rfl,rfl⟩
 rw [if_neg h24] at h; refine .inr ?_
 by_cases h25 : p = 25
 ·rw [if_pos h25] at h; cases h; exact .inl ⟨h25,rfl,rfl⟩
 rw [if_neg h25] at h; refine .inr ?_
 by_cases h26 : p = 26
 ·rw [if_pos h26] at h; cases h; exact ⟨h26,rfl,rfl⟩
 rw [if_neg h26] at h; cases h
theorem abx {p : Int} {k m : Nat} {W : List Int} {X : List (List Int)} (h : PyYqlnca.shape p = some (k,m)) (hW : W.length = k) (hX : X.length = m) : PyYqlnca.whole ((p :: W) :: X) = (p :: W) :: X := by
 rcases mO h with ⟨rfl,rfl,rfl⟩ | ⟨rfl,rfl,rfl⟩ | ⟨rfl,rfl,rfl⟩ | ⟨rfl,rfl,rfl⟩ | ⟨rfl,rfl,rfl⟩ | ⟨rfl,rfl,rfl⟩ | ⟨rfl,rfl,rfl⟩ | ⟨rfl,rfl,rfl⟩ | ⟨rfl,rfl,rfl⟩ | ⟨rfl,rfl,rfl⟩ | ⟨rfl,rfl,rfl⟩ | ⟨rfl,rfl,rfl⟩ | ⟨rfl,rfl,rfl⟩ | ⟨rfl,rfl,rfl⟩ | ⟨rfl,rfl,rfl⟩ | ⟨rfl,rfl,rfl⟩ | ⟨rfl,rfl,rfl⟩ | ⟨rfl,rfl,rfl⟩ | ⟨rfl,rfl,rfl⟩ | ⟨rfl,rfl,rfl⟩ | ⟨rfl,rfl,rfl⟩ | ⟨rfl,rfl,rfl⟩ | ⟨rfl,rfl,rfl⟩ | ⟨rfl,rfl,rfl⟩ | ⟨rfl,rfl,rfl⟩ | ⟨rfl,rfl,rfl⟩
 ·obtain ⟨x0,rfl⟩ := c8 hW; obtain ⟨r0,r1,rfl⟩ := l0 hX; rfl
 ·obtain ⟨x0,x1,rfl⟩ := l0 hW; obtain ⟨r0,rfl⟩ := c8 hX; rfl
 ·obtain ⟨x0,x1,x2,rfl⟩ := vc hW; obtain ⟨r0,rfl⟩ := c8 hX; rfl
 ·obtain ⟨x0,rfl⟩ := c8 hW; cases ck hX; rfl
 ·obtain ⟨x0,rfl⟩ := c8 hW; cases ck hX; rfl
 ·obtain ⟨x0,rfl⟩ := c8 hW; cases ck hX; rfl
 ·obtain ⟨x0,rfl⟩ := c8 hW; obtain ⟨r0,rfl⟩ := c8 hX; rfl
 ·obtain ⟨x0,x1,rfl⟩ := l0 hW; obtain ⟨r0,rfl⟩ := c8 hX; rfl
 ·obtain ⟨x0,x1,rfl⟩ := l0 hW; obtain ⟨r0,rfl⟩ := c8 hX; rfl
 ·obtain ⟨x0,x1,rfl⟩ := l0 hW; obtain ⟨r0,rfl⟩ := c8 hX; rfl
 ·obtain ⟨x0,x1,rfl⟩ := l0 hW; obtain ⟨r0,rfl⟩ := c8 hX; rfl
 ·obtain ⟨x0,x1,rfl⟩ := l0 hW; obtain ⟨r0,rfl⟩ := c8 hX; rfl
 ·obtain ⟨x0,x1,x2,x3,rfl⟩ := nJ hW; cases ck hX; rfl
 ·obtain ⟨x0,x1,x2,x3,rfl⟩ := nJ hW; cases ck hX; rfl
 ·obtain ⟨x0,x1,x2,x3,rfl⟩ := nJ hW; cases ck hX; rfl
 ·obtain ⟨x0,x1,x2,x3,rfl⟩ := nJ hW; cases ck hX; rfl
 ·obtain ⟨x0,x1,x2,x3,rfl⟩ := nJ hW; cases ck hX; rfl
 ·obtain ⟨x0,x1,x2,x3,rfl⟩ := nJ hW; cases ck hX; rfl
 ·obtain ⟨x0,x1,x2,rfl⟩ := vc hW; cases ck hX; rfl
 ·obtain ⟨x0,x1,x2,x3,rfl⟩ := nJ hW; cases ck hX; rfl
 ·obtain ⟨x0,x1,x2,rfl⟩ := vc hW; cases ck hX; rfl
 ·obtain ⟨x0,x1,x2,x3,rfl⟩ := nJ hW; cases ck hX; rfl
 ·obtain ⟨x0,x1,x2,rfl⟩ := vc hW; cases ck hX; rfl
 ·obtain ⟨x0,x1,rfl⟩ := l0 hW; cases ck hX; rfl
 ·obtain ⟨x0,rfl⟩ := c8 hW; cases ck hX; rfl
 ·obtain ⟨x0,rfl⟩ := c8 hW; obtain ⟨r0,rfl⟩ := c8 hX; rfl
end Ma

namespace L2
open PySem PySem.Spec PyProof.Rows
structure Df (K : Fg) (mg : Str -> Option Value) (x qual : Str) (st : Stmt) (ps : List Str) : Prop where
 ex : ∃ (f : Addr) (fd : FuncData),qh K x qual st f fd /\ mg x = some (.ref f) /\ eD K fd ps []
structure Ok (P : Program) (w : World) (K : Fg) (mg : Str -> Option Value) (base : Heap) (k : Nat) (x : Str) (ps : List Str) (sp : Sp) : Prop where
 ex : ∃ (f : Addr) (fd : FuncData),fR P w K mg base pL k f fd ps sp /\ mg x = some (.ref f) /\ PySem.W.keepIn K (.ref f) = true /\ eD K fd ps []
section
variable {P : Program} {w : World} {K : Fg} {mg : Str -> Option Value} {base : Heap}
theorem Df.ok {x qual : Str} {st : Stmt} {N ps : List Str} {k : Nat} {sp : Sp} (D : Df K mg x qual st ps) (S : aq N ps (aj st)) (len : ∀ vs H Q E,sp vs H Q E -> vs.length = ps.length)
  (hbody : ∀ (f : Addr) (cdv : Value) (A : Around) (outer : List Env) (s : Shared) (H : Hp) (vs : List V) (Q : VK) (E : XK),bN k (A.deeper (envOfC qual (aj st) s.heap.objs.size f cdv)) -> sp vs H Q E →
   ∃ t,kT (o5 pL P w K mg base N qual (aj st) f cdv A outer s H E).nox (cf st) t /\ t { nx := fun _ H' => Q .non H',rt := Q } (start N vs) H) : Ok P w K mg base (k + 1) x ps sp := by
 obtain ⟨f,fd,F,hm,hb⟩ := D.ex; exact ⟨f,fd,F.ok S len (hbody f),hm,F.kp,hb⟩
end
section
variable {X : Cx} {k : Nat} {ps : List Str} {sp : Sp} {x : Str} {p pos : Pos} {e : Expr} {es : List Expr} {t : TA}
theorem aed (G : Ok X.prog X.w X.K X.mg X.base k x ps sp) (hr : bN k X.A) (hg : Gl X x) (ha : PA X (e :: es) t) (hdb : (x == ("__debug__" : Str)) = false := by decide)
  (he : starEach (e :: es) X.env = (false,eval e X.env) :: starEach es X.env := by rfl) (hpl : (backTo pos (starEach es X.env)).any (·.1) = false := by rfl) :
  PE X (.Call (.Name x p) (e :: es) [] pos) (tK sp [] E0 t) := by
 obtain ⟨f,fd,F,hm,hk,hb⟩ := G.ex; exact ab0 F hr hg hm hk hb .nil tZ ha hdb he hpl
theorem adC (G : Ok X.prog X.w X.K X.mg X.base k x ps sp) (hr : bN k X.A) (hg : Gl X x) (hdb : (x == ("__debug__" : Str)) = false := by decide) : PE X (.Call (.Name x p) [] [] pos) (tK sp [] E0 uI) := by
 obtain ⟨f,fd,F,hm,hk,hb⟩ := G.ex; exact aaS F hr hg hm hk hb .nil tZ hdb
theorem aO {i : Int} (hm : ∃ t,X.mg x = some (.int i t)) (hg : Gl X x := by rfl) (hd : (x == ("__debug__" : Str)) = false := by decide) : PE X (.Name x pos) (tC (.int i)) := by
 obtain ⟨t,hm⟩ := hm; exact rF hg hm ⟨_,rfl⟩ hd
end
theorem ak.upd {H H' : Hp} {p : Addr} {o : HO} (s : ak H H') (h : H p = Option.none) : ak H (upd H' p o) := fun b u e => by
 rw [aK (aJ e h)]; exact s b u e
theorem ak.new {H : Hp} {p : Addr} {o : HO} (h : H p = Option.none) : ak H (L2.upd H p o) := ak.upd (ak.refl H) h
abbrev vi (l : List Int) : List V := l.map V.int
abbrev vn (l : List Nat) : List V := vi (Ma.nz l)
theorem dQ {l : List Int} {i : Nat} {v : V} (h : (vi l)[i]? = some v) : ∃ z,l[i]? = some z /\ v = .int z := by
 rw [List.getElem?_map] at h
 cases e : l[i]? with
 | none => rw [e] at h; cases h
 | some z => rw [e] at h; exact ⟨z,rfl,(Option.some.inj h).symm⟩
theorem cO {l : List Nat} {i : Nat} {v : V} (h : (vn l)[i]? = some v) : ∃ z : Nat,l[i]? = some z /\ v = .int z := by
 obtain ⟨z,h1,h2⟩ := dQ h; rw [List.getElem?_map] at h1
 cases e : l[i]? with
 | none => rw [e] at h1; cases h1
 | some y => rw [e] at h1; cases h1; exact ⟨y,rfl,h2⟩
theorem bU {α : Type} : ∀ {l : List α} {i : Nat} {x : α},l[i]? = some x -> l.take (i + 1) = l.take i ++ [x]
 | [],i,x,h => by simp at h
 | a :: l,0,x,h => by
  have e : a = x := Option.some.inj h; subst e; rfl
 | a :: l,i + 1,x,h => by
  have ih := bU (l := l) (i := i) (x := x) h; show a :: l.take (i + 1) = a :: l.take i ++ [x]; rw [ih]; rfl
theorem aM (l : List Int) : (vi l).length = l.length := List.length_map ..
theorem aI (l : List Nat) : (vn l).length = l.length := by rw [aM]; exact List.length_map ..
theorem qB (l m : List Int) : vi (l ++ m) = vi l ++ vi m := List.map_append ..
theorem qT (l m : List Nat) : vn (l ++ m) = vn l ++ vn m := by show vi (Ma.nz (l ++ m)) = _; rw [Ma.nz,List.map_append]; exact qB _ _
theorem aco (l : List Int) : vi l.reverse = (vi l).reverse := List.map_reverse ..
theorem acr (l : List Nat) : vn l.reverse = (vn l).reverse := by show vi (Ma.nz l.reverse) = _; rw [Ma.nz,List.map_reverse]; exact aco _
theorem cB {l : List Int} {i : Nat} {z : Int} (h : l[i]? = some z) : (vi l)[i]? = some (.int z) := by rw [List.getElem?_map,h]; rfl
theorem dr {l : List Nat} {i : Nat} {z : Nat} (h : l[i]? = some z) : (vn l)[i]? = some (.int z) := cB (by rw [List.getElem?_map,h]; rfl)
theorem iu {K : Fg} {a b : Addr} {xs ys : List V} {g : TG} {tb : TS} {D : kG} {σ : St} {H : Hp} (Pv : Nat -> St -> Hp -> Prop) (h0 : Pv 0 σ H) (hlen : xs.length = ys.length) (hl : ∀ i σ H,i <= xs.length -> Pv i σ H -> ag K H a xs /\ ag K H b ys)
  (hs : ∀ i x y σ H T,xs[i]? = some x -> ys[i]? = some y -> H T = none -> Pv i σ H -> g (.ref T) σ (upd H T (.tup [x,y])) fun σ2 H2 => tb { D with nx := Pv (i + 1),ct := Pv (i + 1),bk := D.nx } σ2 H2) (hd : ∀ σ H,Pv xs.length σ H -> D.nx σ H) :
  ∃ W : Nat -> Nat -> St -> Hp -> Prop,(∃ m,W 0 m σ H) /\ ∀ i m σ H,W i m σ H →
   ((yw K a b).stop i H /\ D.nx σ H) \/ ((yw K a b).go i H /\ ∃ N : St -> Hp -> Prop,(∀ σ' H',N σ' H' -> ∃ m',m' < m /\ W (i + 1) m' σ' H') /\ ∀ x H',(yw K a b).yld i H x H' -> g x σ H' fun σ2 H2 => tb { D with nx := N,ct := N,bk := D.nx } σ2 H2) := by
 refine ⟨fun i m σ H => m = xs.length - i /\ i <= xs.length /\ Pv i σ H,⟨xs.length,by simp,Nat.zero_le _,h0⟩,?_⟩; rintro i m σ H ⟨rfl,hi,p⟩; have q := hl i σ H hi p
 by_cases hlt : i < xs.length
 ·refine .inr ⟨⟨xs,ys,xs[i],ys[i],q.1,q.2,by simp [hlt],by simp⟩,Pv (i + 1),fun σ' H' p' => ⟨xs.length - (i + 1),by omega,rfl,hlt,p'⟩,fun x H' y => ?_⟩; obtain ⟨T,x1,x2,rfl,hT,rfl,e1,e2⟩ := y; exact hs i x1 x2 σ H T (e1 xs q.1) (e2 ys q.2) hT p
 ·have e : i = xs.length := by omega
  subst e; exact .inl ⟨⟨xs,ys,q.1,q.2,.inl (Nat.le_refl _)⟩,hd σ H p⟩
theorem abQ {K : Fg} {a : Addr} {xs : List V} {g : TG} {tb : TS} {D : kG} {σ : St} {H : Hp} (Pv : Nat -> St -> Hp -> Prop) (h0 : Pv 0 σ H) (hl : ∀ i σ H,i <= xs.length -> Pv i σ H -> ag K H a xs)
  (hs : ∀ i x σ H,i < xs.length -> xs[xs.length - 1 - i]? = some x -> Pv i σ H -> g x σ H fun σ2 H2 => tb { D with nx := Pv (i + 1),ct := Pv (i + 1),bk := D.nx } σ2 H2) (hd : ∀ σ H,Pv xs.length σ H -> D.nx σ H) :
  ∃ W : Nat -> Nat -> St -> Hp -> Prop,(∃ m,W 0 m σ H) /\ ∀ i m σ H,W i m σ H →
   ((Itv K a xs.length).stop i H /\ D.nx σ H) \/ ((Itv K a xs.length).go i H /\ ∃ N : St -> Hp -> Prop,(∀ σ' H',N σ' H' -> ∃ m',m' < m /\ W (i + 1) m' σ' H') /\ ∀ x H',(Itv K a xs.length).yld i H x H' -> g x σ H' fun σ2 H2 => tb { D with nx := N,ct := N,bk := D.nx } σ2 H2) := by
 refine ⟨fun i m σ H => m = xs.length - i /\ i <= xs.length /\ Pv i σ H,⟨xs.length,by simp,Nat.zero_le _,h0⟩,?_⟩; rintro i m σ H ⟨rfl,hi,p⟩; have q := hl i σ H hi p
 by_cases hlt : i < xs.length
 ·have hx : xs.length - 1 - i < xs.length := by omega
  refine .inr ⟨⟨hlt,xs,xs[xs.length - 1 - i],q,by simp [hx]⟩,Pv (i + 1),fun σ' H' p' => ⟨xs.length - (i + 1),by omega,rfl,hlt,p'⟩,fun x H' y => ?_⟩; obtain ⟨e,y⟩ := y; subst e; exact hs i x σ _ hlt (y xs q) p
 ·have e : i = xs.length := by omega
  subst e; exact .inl ⟨Nat.le_refl _,hd σ H p⟩
theorem aa6 {K : Fg} {a : Addr} {xs : List V} {g : TG} {tb : TS} {D : kG} {σ : St} {H : Hp} (Pv : Nat -> St -> Hp -> Prop) (h0 : Pv 0 σ H) (hl : ∀ i σ H,i <= xs.length -> Pv i σ H -> ag K H a xs)
  (hs : ∀ i x σ H T,xs[i]? = some x -> H T = none -> Pv i σ H -> g (.ref T) σ (upd H T (.tup [.int (i : Nat),x])) fun σ2 H2 => tb { D with nx := Pv (i + 1),ct := Pv (i + 1),bk := D.nx } σ2 H2) (hd : ∀ σ H,Pv xs.length σ H -> D.nx σ H) :
  ∃ W : Nat -> Nat -> St -> Hp -> Prop,(∃ m,W 0 m σ H) /\ ∀ i m σ H,W i m σ H →
   ((yF K a).stop i H /\ D.nx σ H) \/ ((yF K a).go i H /\ ∃ N : St -> Hp -> Prop,(∀ σ' H',N σ' H' -> ∃ m',m' < m /\ W (i + 1) m' σ' H') /\ ∀ x H',(yF K a).yld i H x H' -> g x σ H' fun σ2 H2 => tb { D with nx := N,ct := N,bk := D.nx } σ2 H2) := by
 refine ⟨fun i m σ H => m = xs.length - i /\ i <= xs.length /\ Pv i σ H,⟨xs.length,by simp,Nat.zero_le _,h0⟩,?_⟩; rintro i m σ H ⟨rfl,hi,p⟩; have q := hl i σ H hi p
 by_cases hlt : i < xs.length
 ·refine .inr ⟨⟨xs,xs[i],q,by simp [hlt]⟩,Pv (i + 1),fun σ' H' p' => ⟨xs.length - (i + 1),by omega,rfl,hlt,p'⟩,fun x H' y => ?_⟩; obtain ⟨T,x1,rfl,hT,rfl,e1⟩ := y; exact hs i x1 σ H T (e1 xs q) hT p
 ·have e : i = xs.length := by omega
  subst e; exact .inl ⟨⟨xs,q,Nat.le_refl _⟩,hd σ H p⟩
structure qK (J : It) (H1 : Hp) (n : Nat) (Y : Nat -> Hp -> V -> Hp -> Prop) : Prop where
 go : ∀ i H,i < n -> ak H1 H -> J.go i H
 stop : ∀ H,ak H1 H -> J.stop n H
 yld : ∀ i H x H',i < n -> ak H1 H -> J.yld i H x H' -> Y i H x H'
theorem bX {K : Fg} {a : Addr} {xs : List V} {H1 : Hp} (h : ag K H1 a xs) : qK (yj K a) H1 xs.length (fun i H x H' => H' = H /\ xs[i]? = some x) :=
 ⟨fun i H hi s => ⟨xs,xs[i],s.seq h,by simp [hi]⟩,fun H s => ⟨xs,s.seq h,Nat.le_refl _⟩,fun i H x H' _ s y => ⟨y.1,y.2 xs (s.seq h)⟩⟩
theorem fX {lo : Int} {n : Nat} {H1 : Hp} : qK (vE lo n) H1 n (fun i H x H' => H' = H /\ x = .int (lo + i)) :=
 ⟨fun i H hi s => hi,fun H s => Nat.le_refl _,fun i H x H' _ s y => y⟩
theorem zo {lo c : Int} {n : Nat} {H1 : Hp} : qK (yL lo c n) H1 n (fun i H x H' => H' = H /\ x = .int (lo + (i : Nat) * c)) :=
 ⟨fun i H hi s => hi,fun H s => Nat.le_refl _,fun i H x H' _ s y => y⟩
theorem rq {K : Fg} {a b : Addr} {xs ys : List V} {H1 : Hp} (h : ag K H1 a xs) (h2 : ag K H1 b ys) (hl : xs.length = ys.length) :
  qK (yw K a b) H1 xs.length (fun i H v H' => ∃ T x y,v = .ref T /\ H T = none /\ H' = upd H T (.tup [x,y]) /\ xs[i]? = some x /\ ys[i]? = some y) :=
 ⟨fun i H hi s => ⟨xs,ys,xs[i],ys[i],s.seq h,s.seq h2,by simp [hi],by simp⟩,fun H s => ⟨xs,ys,s.seq h,s.seq h2,.inl (Nat.le_refl _)⟩,
  fun i H v H' _ s ⟨T,x,y,e1,e2,e3,e4,e5⟩ => ⟨T,x,y,e1,e2,e3,e4 xs (s.seq h),e5 ys (s.seq h2)⟩⟩
theorem wR {K : Fg} {a : Addr} {xs : List V} {H1 : Hp} (h : ag K H1 a xs) :
  qK (yF K a) H1 xs.length (fun i H v H' => ∃ T x,v = .ref T /\ H T = none /\ H' = upd H T (.tup [.int (i : Nat),x]) /\ xs[i]? = some x) :=
 ⟨fun i H hi s => ⟨xs,xs[i],s.seq h,by simp [hi]⟩,fun H s => ⟨xs,s.seq h,Nat.le_refl _⟩,
  fun i H v H' _ s ⟨T,x,e1,e2,e3,e4⟩ => ⟨T,x,e1,e2,e3,e4 xs (s.seq h)⟩⟩
theorem wK {J : It} {g : TG} {te : TE} {vs : List Nat} {σ : St} {H1 : Hp} {D : Addr} {Qd : Hp -> Prop} {n : Nat} {Y : Nat -> Hp -> V -> Hp -> Prop} (S : qK J H1 n Y) (R : Nat -> V -> Hp -> Prop) (hD : H1 D = none) (hn : n <= sizeLine)
  (keep : ∀ i y H H',H1 D = none -> R i y H -> (∀ b o,H b = some o -> b ≠ D -> H' b = some o) -> R i y H')
  (turn : ∀ i H x H',i < n -> ak H1 H -> (∃ acc,H D = some (.lst acc)) -> Y i H x H' -> ∀ Q : VK,(∀ y H4,ak H H4 -> R i y H4 -> Q y H4) -> g x (bJ σ vs) H' fun σ2 H2 => bJ σ2 vs = bJ σ vs /\ te σ2 H2 Q)
  (mg : ∀ x σ H (Q Q' : St -> Hp -> Prop),(∀ σ2 H2,Q σ2 H2 -> Q' σ2 H2) -> g x σ H Q -> g x σ H Q')
  (hd : ∀ H' ys,ak H1 H' -> H' D = some (.lst ys) -> ys.length = n -> (∀ i y,ys[i]? = some y -> R i y H') -> Qd H') :
  ∃ W : Nat -> Nat -> Hp -> Prop,(∃ m,W 0 m (upd H1 D (.lst []))) /\ ∀ i m H,W i m H →
   (J.stop i H /\ Qd H) \/ (J.go i H /\ ∃ Nx : Hp -> Prop,(∀ H',Nx H' -> ∃ m',m' < m /\ W (i + 1) m' H') /\ ∀ x H',J.yld i H x H' -> g x (bJ σ vs) H' fun σ2 H2 => bJ σ2 vs = bJ σ vs /\ wL σ2 H2 fun b H3 =>
    if b = true then te σ2 H3 fun y H4 => ∃ acc,H4 D = some (.lst acc) /\ acc.length < sizeLine /\ Nx (upd H4 D (.lst (acc ++ [y]))) else Nx H3) := by
 refine ⟨fun i m H => m = n - i /\ i <= n /\ ak H1 H /\ ∃ ys,H D = some (.lst ys) /\ ys.length = i /\ ∀ j y,ys[j]? = some y -> R j y H,
  ⟨n,by simp,Nat.zero_le _,ak.new hD,[],am,rfl,fun j y e => by simp at e⟩,?_⟩
 rintro i m H ⟨rfl,hi,sm,ys,hys,hl,hR⟩
 by_cases hlt : i < n
 ·let Nx : Hp -> Prop := fun H' => ak H1 H' /\ ∃ ys,H' D = some (.lst ys) /\ ys.length = i + 1 /\ ∀ (j : Nat) y,ys[j]? = some y -> R j y H'
  refine .inr ⟨S.go i H hlt sm,Nx,fun H' p => ⟨n - (i + 1),by omega,rfl,hlt,p⟩,fun x H' y => ?_⟩; refine mg x _ _ _ _ (fun σ2 H2 q => ⟨q.1,?_⟩) (turn i H x H' hlt sm ⟨ys,hys⟩ (S.yld i H x H' hlt sm y) (fun y H4 => ∃ acc,H4 D = some (.lst acc) /\ acc.length < sizeLine /\ Nx (upd H4 D (.lst (acc ++ [y])))) fun y H4 s4 r4 => ?_)
  ·exact q.2
  ·have h4 : H4 D = some (.lst ys) := s4 _ _ hys; refine ⟨ys,h4,by omega,(sm.trans s4).upd hD,ys ++ [y],am,by simp [hl],fun j z e => ?_⟩; have kp : ∀ b o,H4 b = some o -> b ≠ D -> (upd H4 D (.lst (ys ++ [y]))) b = some o := fun b o e hb => by rw [aK hb]; exact e
   by_cases hj : j < ys.length
   ·rw [List.getElem?_append_left hj] at e; exact keep j z H4 _ hD (keep j z H H4 hD (hR j z e) fun b o e _ => s4 b o e) kp
   ·rw [List.getElem?_append_right (by omega)] at e
    have hj0 : j - ys.length = 0 := by
     cases hq : j - ys.length with
     | zero => rfl
     | succ k => rw [hq] at e; simp at e
    rw [hj0] at e; have ez : y = z := Option.some.inj e; subst ez; have ej : j = i := by omega
    rw [ej]; exact keep i y H4 _ hD r4 kp
 ·have e : i = n := by omega
  subst e; exact .inl ⟨S.stop H sm,hd H ys sm hys hl hR⟩
theorem bg {i : Nat} : ∀ x σ H (Q Q' : St -> Hp -> Prop),(∀ σ2 H2,Q σ2 H2 -> Q' σ2 H2) -> gV i x σ H Q -> gV i x σ H Q' := fun _ _ _ _ _ h q => h _ _ q
theorem jZ {K : Fg} {i j : Nat} : ∀ x σ H (Q Q' : St -> Hp -> Prop),(∀ σ2 H2,Q σ2 H2 -> Q' σ2 H2) -> zD K 2 (tV (gV i) (tV (gV j) aba)) x σ H Q -> zD K 2 (tV (gV i) (tV (gV j) aba)) x σ H Q' := by
 rintro x σ H Q Q' h ⟨a,xs,e,q,l,v,r,e1,v2,r2,e2,e3,z⟩; exact ⟨a,xs,e,q,l,v,r,e1,v2,r2,e2,e3,h _ _ z⟩
theorem cF {J : It} {g : TG} {te : TE} {vs : List Nat} {σ : St} {H1 : Hp} {D : Addr} {Qd : Hp -> Prop} {n : Nat} {Y : Nat -> Hp -> V -> Hp -> Prop} (S : qK J H1 n Y) (f : Nat -> V) (hD : H1 D = none) (hn : n <= sizeLine)
  (turn : ∀ i H x H',i < n -> ak H1 H -> Y i H x H' -> ∀ Q : VK,(∀ H4,ak H H4 -> Q (f i) H4) -> g x (bJ σ vs) H' fun σ2 H2 => bJ σ2 vs = bJ σ vs /\ te σ2 H2 Q)
  (mg : ∀ x σ H (Q Q' : St -> Hp -> Prop),(∀ σ2 H2,Q σ2 H2 -> Q' σ2 H2) -> g x σ H Q -> g x σ H Q')
  (hd : ∀ H',ak H1 H' -> H' D = some (.lst ((List.range n).map f)) -> Qd H') :
  ∃ W : Nat -> Nat -> Hp -> Prop,(∃ m,W 0 m (upd H1 D (.lst []))) /\ ∀ i m H,W i m H →
   (J.stop i H /\ Qd H) \/ (J.go i H /\ ∃ Nx : Hp -> Prop,(∀ H',Nx H' -> ∃ m',m' < m /\ W (i + 1) m' H') /\ ∀ x H',J.yld i H x H' -> g x (bJ σ vs) H' fun σ2 H2 => bJ σ2 vs = bJ σ vs /\ wL σ2 H2 fun b H3 =>
    if b = true then te σ2 H3 fun y H4 => ∃ acc,H4 D = some (.lst acc) /\ acc.length < sizeLine /\ Nx (upd H4 D (.lst (acc ++ [y]))) else Nx H3) :=
 wK S (fun i y _ => y = f i) hD hn (fun _ _ _ _ _ h _ => h) (fun i H x H' hi s _ y Q q => turn i H x H' hi s y Q fun H4 s4 => q _ _ s4 rfl) mg fun H' ys s hys hl hR => hd H' s (by
  have e : ys = (List.range n).map f := by
   apply List.ext_getElem?; intro i
   by_cases hi : i < n
   ·have h1 : ys[i]? = some ys[i] := List.getElem?_eq_getElem (by omega); rw [h1,hR i _ h1,List.getElem?_map,List.getElem?_range hi]; rfl
   ·rw [List.getElem?_eq_none (by omega),List.getElem?_eq_none (by simp; omega)]
  rw [← e]
  exact hys)
theorem pq {J : It} {g : TG} {te : TE} {vs : List Nat} {σ : St} {H1 : Hp} {D : Addr} {Qd : Hp -> Prop} {n : Nat} {Y : Nat -> Hp -> V -> Hp -> Prop} (S : qK J H1 n Y) (f : Nat -> List V) (hD : H1 D = none) (hn : n <= sizeLine)
  (turn : ∀ i H x H',i < n -> ak H1 H -> Y i H x H' -> ∀ Q : VK,(∀ q H4,ak H H4 -> H q = none -> H4 q = some (.lst (f i)) -> Q (.ref q) H4) -> g x (bJ σ vs) H' fun σ2 H2 => bJ σ2 vs = bJ σ vs /\ te σ2 H2 Q)
  (mg : ∀ x σ H (Q Q' : St -> Hp -> Prop),(∀ σ2 H2,Q σ2 H2 -> Q' σ2 H2) -> g x σ H Q -> g x σ H Q')
  (hd : ∀ H' (qs : List Addr),ak H1 H' -> H' D = some (.lst (qs.map V.ref)) -> qs.length = n -> (∀ (i : Nat) q,qs[i]? = some q -> H' q = some (.lst (f i))) -> Qd H') :
  ∃ W : Nat -> Nat -> Hp -> Prop,(∃ m,W 0 m (upd H1 D (.lst []))) /\ ∀ i m H,W i m H →
   (J.stop i H /\ Qd H) \/ (J.go i H /\ ∃ Nx : Hp -> Prop,(∀ H',Nx H' -> ∃ m',m' < m /\ W (i + 1) m' H') /\ ∀ x H',J.yld i H x H' -> g x (bJ σ vs) H' fun σ2 H2 => bJ σ2 vs = bJ σ vs /\ wL σ2 H2 fun b H3 =>
    if b = true then te σ2 H3 fun y H4 => ∃ acc,H4 D = some (.lst acc) /\ acc.length < sizeLine /\ Nx (upd H4 D (.lst (acc ++ [y]))) else Nx H3) :=
 wK S (fun i y H => ∃ q,y = .ref q /\ q ≠ D /\ H q = some (.lst (f i))) hD hn (fun i y H H' _ ⟨q,e,ne,h⟩ k => ⟨q,e,ne,k _ _ h ne⟩)
  (fun i H x H' hi s ⟨acc,ha⟩ y Q q => turn i H x H' hi s y Q fun a H4 s4 n4 h4 => q _ _ s4 ⟨a,rfl,fun e => by (rw [e,ha] at n4; cases n4),h4⟩) mg fun H' ys s hys hl hR => by
  have hq : ∃ qs : List Addr,ys = qs.map V.ref := by
   clear hl hys
   induction ys with
   | nil => exact ⟨[],rfl⟩
   | cons y r _ =>
    have : ∀ (l : List V) (k : Nat),(∀ (i : Nat) y,l[i]? = some y -> ∃ q,y = V.ref q) -> ∃ qs : List Addr,l = qs.map V.ref := by
     intro l
     induction l with
     | nil => intro _ _; exact ⟨[],rfl⟩
     | cons z l ih =>
      intro k h; obtain ⟨q,e⟩ := h 0 z rfl
      obtain ⟨qs,e2⟩ := ih k fun i y hy => h (i + 1) y hy
      exact ⟨q :: qs,by rw [e,e2]; rfl⟩
    exact this (y :: r) 0 fun i z hz => let ⟨q,e,_⟩ := hR i z hz; ⟨q,e⟩
  obtain ⟨qs,rfl⟩ := hq; refine hd H' qs s hys (by simpa using hl) fun i q hi => ?_
  obtain ⟨q',e,_,h⟩ := hR i (.ref q) (by rw [List.getElem?_map,hi]; rfl); cases e; exact h
end L2

namespace L2
open PySem PySem.Spec PyProof.Rows
structure wU (K : Fg) (mg : Str -> Option Value) (x : Str) (C : Addr) (st : Stmt) (ps : List Str) : Prop where
 ex : ∃ (f : Addr) (fd : FuncData) (q : Str),qh K "__init__" q st f fd /\ Mk K C f /\ mg x = some (.ref C) /\ eD K fd ps []
structure oF (K : Fg) (C : Addr) (m qual : Str) (st : Stmt) (ps : List Str) : Prop where
 ex : ∃ (f : Addr) (fd : FuncData),qh K m qual st f fd /\ wt K C m f /\ eD K fd ps []
structure dS (P : Program) (w : World) (K : Fg) (mg : Str -> Option Value) (base : Heap) (k : Nat) (x : Str) (C : Addr) (ps : List Str) (sp : Sp) : Prop where
 ex : ∃ (f : Addr) (fd : FuncData),fR P w K mg base pL k f fd ps sp /\ Mk K C f /\ mg x = some (.ref C) /\ eD K fd ps []
structure gA (P : Program) (w : World) (K : Fg) (mg : Str -> Option Value) (base : Heap) (k : Nat) (C : Addr) (m : Str) (ps : List Str) (sp : Sp) : Prop where
 ex : ∃ (f : Addr) (fd : FuncData),fR P w K mg base pL k f fd ps sp /\ wt K C m f /\ eD K fd ps []
section
variable {P : Program} {w : World} {K : Fg} {mg : Str -> Option Value} {base : Heap}
theorem wU.ok {x : Str} {C : Addr} {st : Stmt} {N ps : List Str} {k : Nat} {sp : Sp} (D : wU K mg x C st ps) (S : aq N ps (aj st)) (len : ∀ vs H Q E,sp vs H Q E -> vs.length = ps.length)
  (hbody : ∀ (qual : Str) (f : Addr) (cdv : Value) (A : Around) (outer : List Env) (s : Shared) (H : Hp) (vs : List V) (Q : VK) (E : XK),bN k (A.deeper (envOfC qual (aj st) s.heap.objs.size f cdv)) -> sp vs H Q E →
   ∃ t,kT (o5 pL P w K mg base N qual (aj st) f cdv A outer s H E).nox (cf st) t /\ t { nx := fun _ H' => Q .non H',rt := Q } (start N vs) H) : dS P w K mg base (k + 1) x C ps sp := by
 obtain ⟨f,fd,q,F,hm,h2,hb⟩ := D.ex; exact ⟨f,fd,F.ok S len (hbody q f),hm,h2,hb⟩
theorem oF.ok {m qual : Str} {C : Addr} {st : Stmt} {N ps : List Str} {k : Nat} {sp : Sp} (D : oF K C m qual st ps) (S : aq N ps (aj st)) (len : ∀ vs H Q E,sp vs H Q E -> vs.length = ps.length)
  (hbody : ∀ (f : Addr) (cdv : Value) (A : Around) (outer : List Env) (s : Shared) (H : Hp) (vs : List V) (Q : VK) (E : XK),bN k (A.deeper (envOfC qual (aj st) s.heap.objs.size f cdv)) -> sp vs H Q E →
   ∃ t,kT (o5 pL P w K mg base N qual (aj st) f cdv A outer s H E).nox (cf st) t /\ t { nx := fun _ H' => Q .non H',rt := Q } (start N vs) H) : gA P w K mg base (k + 1) C m ps sp := by
 obtain ⟨f,fd,F,hm,hb⟩ := D.ex; exact ⟨f,fd,F.ok S len (hbody f),hm,hb⟩
end
section
variable {X : Cx} {k : Nat} {ps : List Str} {sp : Sp} {x m : Str} {C : Addr} {p pos apos : Pos} {e o : Expr} {es : List Expr} {ta : TE} {t : TA}
theorem adq (G : dS X.prog X.w X.K X.mg X.base k x C ps sp) (hr : bN (k + 1) X.A) (hg : Gl X x) (ha : PA X (e :: es) t) (hdb : (x == ("__debug__" : Str)) = false := by decide)
  (he : starEach (e :: es) X.env = (false,eval e X.env) :: starEach es X.env := by rfl) (hpl : (backTo pos (starEach es X.env)).any (·.1) = false := by rfl) :
  PE X (.Call (.Name x p) (e :: es) [] pos) (zA C sp [] E0 t) := by
 obtain ⟨f,fd,F,hM,hm,hb⟩ := G.ex; exact ab5 hM F hr hg hm hb .nil tZ ha hdb he hpl
theorem sD {pl : Sem Bool} (c : kS X.K C) (G : gA X.prog X.w X.K X.mg X.base k C m ps sp) (hr : bN k X.A) (he : PE X o ta) (ha : PA X (e :: es) t)
  (hst : starEach (e :: es) X.env = (false,eval e X.env) :: starEach es X.env := by rfl) (hpl : (backTo pos (starEach es X.env)).any (·.1) = false := by rfl)
  (ht : eval (.Call (.Attribute o m apos) (e :: es) [] pos) X.env = (do
   let ov ← eval o X.env
   standAt apos.atName
   let (f,first) ← holding [ov] (getMethod ov m pl)
   callWith pos f first (backTo pos (starEach (e :: es) X.env)) (backToKw pos (keywordEach [] X.env))) := by rfl) :
  PE X (.Call (.Attribute o m apos) (e :: es) [] pos) (wj C m sp [] E0 ta t) := by
 obtain ⟨f,fd,F,hm,hb⟩ := G.ex; exact abZ (pl := pl) he c hm F hr hb .nil tZ ha hst hpl ht
theorem gf {pl : Sem Bool} (c : kS X.K C) (G : gA X.prog X.w X.K X.mg X.base k C m ps sp) (hr : bN k X.A) (he : PE X o ta)
  (ht : eval (.Call (.Attribute o m apos) [] [] pos) X.env = (do
   let ov ← eval o X.env
   standAt apos.atName
   let (f,first) ← holding [ov] (getMethod ov m pl)
   callWith pos f first (backTo pos (starEach [] X.env)) (backToKw pos (keywordEach [] X.env))) := by rfl) :
  PE X (.Call (.Attribute o m apos) [] [] pos) (wj C m sp [] E0 ta uI) := by
 obtain ⟨f,fd,F,hm,hb⟩ := G.ex; exact aa2 (pl := pl) he c hm F hr hb .nil tZ ht
end
def aN (l : Addr) (H H' : Hp) : Prop := ∀ b o,H b = some o -> b ≠ l -> H' b = some o
theorem ak.keep {l : Addr} {H H' : Hp} (s : ak H H') : aN l H H' := fun b o e _ => s b o e
theorem aN.trans {l : Addr} {H H1 H2 : Hp} (a : aN l H H1) (b : aN l H1 H2) : aN l H H2 := fun c o e n => b c o (a c o e n) n
theorem aN.upd {l : Addr} {H : Hp} {o : HO} : aN l H (upd H l o) := fun b u e n => by rw [aK n]; exact e
def af (a b : Addr) : List (Str × V) := cW "cells" (.ref b) (cW "lengths" (.ref a) [])
theorem aU (a b : Addr) : (af a b).lookup ("lengths" : Str) = some (.ref a) := by
 unfold af; rw [gJ,if_neg (by decide +kernel),gJ,if_pos rfl]
theorem cy (a b : Addr) : (af a b).lookup ("cells" : Str) = some (.ref b) := by
 unfold af; rw [gJ,if_pos rfl]
def b_ (C : Addr) (H : Hp) (x : Addr) (A : Ad.Arr) : Prop := ∃ dx a b,H x = some (.ins C dx (af a b)) /\ H a = some (.lst (vn A.shape)) /\ H b = some (.lst (vi A.cells))
theorem b_.keep {C : Addr} {H H' : Hp} {x : Addr} {A : Ad.Arr} (h : b_ C H x A) (s : ak H H') : b_ C H' x A := by
 obtain ⟨dx,a,b,h1,h2,h3⟩ := h; exact ⟨dx,a,b,s _ _ h1,s _ _ h2,s _ _ h3⟩
theorem aG {A : Ad.Arr} (h : A.ok = true) : Ad.shapeOk A.shape = true /\ A.cells.length = Ad.product_ A.shape /\ ∀ z ∈ A.cells,Ad.cellFine z = true := by
 unfold Ad.Arr.ok at h; simp only [Bool.and_eq_true,beq_iff_eq,List.all_eq_true] at h; exact ⟨h.1,h.2.1,h.2.2⟩
theorem iH {A : Ad.Arr} (h1 : Ad.shapeOk A.shape = true) (h2 : A.cells.length = Ad.product_ A.shape) (h3 : ∀ z ∈ A.cells,Ad.cellFine z = true) : A.ok = true := by
 unfold Ad.Arr.ok; simp only [Bool.and_eq_true,beq_iff_eq,List.all_eq_true]; exact ⟨h1,h2,h3⟩
theorem ci {s : List Nat} (h : Ad.shapeOk s = true) : ∀ n ∈ s,n < 2 ^ 63 := fun n hn =>
 Nat.lt_of_le_of_lt (Nat.le_trans (Ma.cg (Ma.aE h).2.1 n hn) (Ma.aE h).2.2) (by decide)
theorem w8 {A : Ad.Arr} {p : List Nat} (h : A.ok = true) (hp : Ma.In A.shape p) : A.cells[Ad.cellOf A.shape p]? = some (A.at_ p) := by
 have hl := (aG h).2.1; have h1 := hp.lt; unfold Ad.Arr.at_ Ad.Arr.cell; rw [List.getD_eq_getElem?_getD]; rw [List.getElem?_eq_getElem (by omega)]; rfl
def jE (C : Addr) (H : Hp) : Option Ad.Arr -> V -> Prop
 | none,v => v = .non
 | some A,v => ∃ x,v = .ref x /\ b_ C H x A /\ A.ok = true
structure aB (C : Addr) (H : Hp) (l : Addr) (t : Ay.State) : Prop where
 ex : ∃ vs : List V,H l = some (.lst vs) /\ vs.length = 8 /\ t.length = 8 /\ ∀ (i : Nat) v o,vs[i]? = some v -> t[i]? = some o -> jE C H o v
theorem jE.keep {C : Addr} {H H' : Hp} {o : Option Ad.Arr} {v : V} (h : jE C H o v) (s : ak H H') : jE C H' o v := by
 cases o with
 | none => exact h
 | some A =>
  obtain ⟨x,e,h1,h2⟩ := h; exact ⟨x,e,h1.keep s,h2⟩
theorem aB.keep {C : Addr} {H H' : Hp} {l : Addr} {t : Ay.State} (h : aB C H l t) (s : ak H H') : aB C H' l t := by
 obtain ⟨vs,h1,h2,h3,h4⟩ := h.ex; exact ⟨vs,s _ _ h1,h2,h3,fun i v o e1 e2 => (h4 i v o e1 e2).keep s⟩
theorem adF {vs : List V} {zs : List Int} (h : vs.length = 8) (h0 : ∀ v,vs[0]? = some v -> ∀ z,v ≠ .int z) : HO.lst vs ≠ HO.lst (vi zs) := fun e => by
 have e : vs = vi zs := HO.lst.inj e; obtain ⟨v,h1⟩ : ∃ v,vs[0]? = some v := ⟨_,List.getElem?_eq_getElem (by omega)⟩; have h2 := h1; rw [e] at h2; obtain ⟨z,_,hz⟩ := dQ h2; exact h0 _ h1 z hz
theorem jE.noInt {C : Addr} {H : Hp} {o : Option Ad.Arr} {v : V} (h : jE C H o v) : ∀ z,v ≠ .int z := by
 cases o with
 | none => intro z e; rw [show v = .non from h] at e; cases e
 | some A =>
  obtain ⟨x,e,_⟩ := h; intro z e'; rw [e] at e'; cases e'
theorem aB.apart {C : Addr} {H : Hp} {l b : Addr} {t : Ay.State} {zs : List Int} (h : aB C H l t) (hb : H b = some (.lst (vi zs))) : b ≠ l := by
 obtain ⟨vs,h1,h2,h3,h4⟩ := h.ex; refine fun e => mq h1 hb (adF h2 fun v hv => ?_) e.symm
 have ht : t[0]? = some t[0] := List.getElem?_eq_getElem (by omega); exact (h4 0 v _ hv ht).noInt
theorem b_.keepL {C : Addr} {H H' : Hp} {l x : Addr} {t : Ay.State} {A : Ad.Arr} (S : aB C H l t) (h : b_ C H x A) (k : aN l H H') : b_ C H' x A := by
 obtain ⟨dx,a,b,h1,h2,h3⟩ := h; obtain ⟨vs,g1,_⟩ := S.ex; exact ⟨dx,a,b,k _ _ h1 (fun e => mq h1 g1 (by intro z; cases z) e),k _ _ h2 (S.apart h2),k _ _ h3 (S.apart h3)⟩
theorem aB.set {C : Addr} {H : Hp} {l : Addr} {t : Ay.State} (S : aB C H l t) {vs : List V} (hv : H l = some (.lst vs)) (k : Nat) {v : V} {o : Option Ad.Arr} (hs : jE C H o v) : aB C (upd H l (.lst (vs.set k v))) l (t.set k o) := by
 obtain ⟨ws,h1,h2,h3,h4⟩ := S.ex; rw [hv] at h1; cases h1; have kp : aN l H (upd H l (.lst (vs.set k v))) := aN.upd
 have ks : ∀ {o : Option Ad.Arr} {v' : V},jE C H o v' -> jE C (upd H l (.lst (vs.set k v))) o v' := fun {o v'} h => by
  cases o with
  | none => exact h
  | some A =>
   obtain ⟨x,e,q1,q2⟩ := h; exact ⟨x,e,q1.keepL S kp,q2⟩
 refine ⟨_,am,by rw [List.length_set]; exact h2,by rw [List.length_set]; exact h3,fun i v' o' e1 e2 => ?_⟩
 by_cases hi : i = k
 ·subst hi
  by_cases hl : i < 8
  ·rw [List.getElem?_set_self (by omega)] at e1 e2; cases e1; cases e2; exact ks hs
  ·rw [List.getElem?_eq_none (by rw [List.length_set]; omega)] at e1; cases e1
 ·rw [List.getElem?_set_ne (Ne.symm hi)] at e1 e2; exact ks (h4 i v' o' e1 e2)
def aQ (C : Addr) (H : Hp) (l : Addr) (r : Ay.State × Ay.Answer) (Q : VK) : Prop :=
 ∀ (H' : Hp) (p : Addr),aN l H H' -> aB C H' l r.1 -> H p = none -> H' p = some (.lst (vi (AyNeutral.told r.2))) -> Q (.ref p) H'
theorem aQ.no {C : Addr} {H H' : Hp} {l : Addr} {t : Ay.State} {n : Nat} {z : Int} {Q : VK} (S : aB C H l t) (sm : ak H H') (k : aQ C H l (t,Ay.no n) Q) (hz : z = -(n : Int)) : ∀ p,H' p = none -> Q (.ref p) (upd H' p (.lst [.int z])) := fun p hp => by
 have s2 : ak H (L2.upd H' p (.lst [.int z])) := sm.upd (sm.free hp); refine k _ p s2.keep (S.keep s2) (sm.free hp) ?_; rw [am,hz]; rfl
theorem aQ.same {C : Addr} {H H' : Hp} {l : Addr} {r : Ay.State × Ay.Answer} {Q : VK} (k : aQ C H l r Q) (sm : ak H H') : aQ C H' l r Q := fun H2 p k2 S2 hp h2 => k H2 p (sm.keep.trans k2) S2 (sm.free hp) h2
theorem i_ {t : Ay.State} {k : Nat} {x : Ay.State × Ay.Answer} (h : 8 <= k) : Ay.into t k x = (t,Ay.no 1) := if_pos h
theorem eZ {t : Ay.State} {k : Nat} {x : Ay.State × Ay.Answer} (h : k < 8) : Ay.into t k x = x := if_neg (by show ¬ 8 <= k; omega)
theorem aa4 {t : Ay.State} {i : Nat} {f : Ad.Arr -> Ay.State × Ay.Answer} (h : 8 <= i) : Ay.ofSlot t i f = (t,Ay.no 1) := if_pos h
theorem abe {t : Ay.State} {i : Nat} {f : Ad.Arr -> Ay.State × Ay.Answer} (h : i < 8) (e : t.getD i none = none) : Ay.ofSlot t i f = (t,Ay.no 2) := by
 unfold Ay.ofSlot; rw [if_neg (by show ¬ 8 <= i; omega),e]
theorem abi {t : Ay.State} {i : Nat} {f : Ad.Arr -> Ay.State × Ay.Answer} {A : Ad.Arr} (h : i < 8) (e : t.getD i none = some A) : Ay.ofSlot t i f = f A := by
 unfold Ay.ofSlot; rw [if_neg (by show ¬ 8 <= i; omega),e]
theorem bc : 1 <= sizeLine := by decide
theorem lR : 2 <= sizeLine := by decide
theorem bz {c A B : Prop} [Decidable c] (hc : ¬ c) (h : A) : if (!decide c) = true then A else B := by
 rw [decide_eq_false hc]; exact h
theorem a5 {a b : Int} (h : ¬ a = b) : ¬ V.int a = V.int b := fun e => h (V.int.inj e)
end L2

namespace L2
open PySem PySem.Spec PyProof.Rows
theorem i3 {K : Fg} {H : Hp} : ∀ zs : List Int,o_ K H (vi zs) (zs.map PyData.int)
 | [] => .nil
 | z :: r => .cons (.int z) (i3 r)
theorem sy : ∀ zs : List Int,PyData.canLayAll0 (zs.map PyData.int) = true
 | [] => by simp [PyData.canLayAll0]
 | z :: r => by simp [PyData.canLayAll0,PyData.canLay0,sy r]
theorem tI : ∀ zs : List Int,PyData.depthAll (zs.map PyData.int) = 0
 | [] => by simp [PyData.depthAll]
 | z :: r => by simp [PyData.depthAll,PyData.depth,tI r]
theorem jC (zs : List Int) : SeqAt.shaped (.list (zs.map PyData.int)) = true := by
 simp [SeqAt.shaped,PyData.canLay0,PyData.depth,sy,tI]
theorem sq : ∀ xs ys : List Int,PyData.eqvAll (xs.map PyData.int) (ys.map PyData.int) = decide (xs = ys)
 | [],[] => by simp [PyData.eqvAll]
 | [],_ :: _ => by simp [PyData.eqvAll]
 | _ :: _,[] => by simp [PyData.eqvAll]
 | x :: xs,y :: ys => by
  simp only [List.map_cons,PyData.eqvAll,PyData.eqv,sq xs ys,List.cons.injEq]
  by_cases h1 : x = y <;> by_cases h2 : xs = ys <;> simp [h1,h2]
theorem xE (xs ys : List Int) : PyData.eqv (.list (xs.map PyData.int)) (.list (ys.map PyData.int)) = decide (xs = ys) := by
 rw [PyData.eqv,sq]
def adX (K : Fg) : R2 := fun x y H Q => ∃ a b xs ys,x = .ref a /\ y = .ref b /\ ag K H a (vi xs) /\ ag K H b (vi ys) /\ Q (.bl (decide (xs = ys))) H
def aes (K : Fg) : R2 := fun x y H Q => ∃ a b xs ys,x = .ref a /\ y = .ref b /\ ag K H a (vi xs) /\ ag K H b (vi ys) /\ Q (.bl (!decide (xs = ys))) H
section
variable {X : Cx}
theorem xA (hu : X.A.units + 64 < cLine) : eh X (compareOp .Eq) (adX X.K) := by
 intro pins s σ H x y v u Q I rx ry h; obtain ⟨a,b,xs,ys,e1,e2,ha,hb,q⟩ := h; subst e1 e2; exact acM hu pins s σ H _ _ v u Q I rx ry ⟨_,_,.lst ha (i3 xs),.lst hb (i3 ys),jC xs,jC ys,by rw [xE]; exact q⟩
theorem ul (hu : X.A.units + 64 < cLine) : eh X (compareOp .NotEq) (aes X.K) := by
 intro pins s σ H x y v u Q I rx ry h; obtain ⟨a,b,xs,ys,e1,e2,ha,hb,q⟩ := h; subst e1 e2; exact acZ hu pins s σ H _ _ v u Q I rx ry ⟨_,_,.lst ha (i3 xs),.lst hb (i3 ys),jC xs,jC ys,by rw [xE]; exact q⟩
def abt (K : Fg) : List V -> Hp -> VK -> Prop := fun vs H Q => ∃ (a : Addr) (ns : List Int),vs = [V.ref a] /\ ag K H a (ns.map V.int) ∧
 ∀ (ys : List Int) (p : Addr),ys.Perm ns -> ys.Pairwise (· <= ·) -> H p = none -> Q (.ref p) (upd H p (.lst (ys.map V.int)))
theorem zt : gg X (.builtin "sorted") (abt X.K) := by
 intro pins s σ H vs us Q I r h; obtain ⟨a,ns,rfl,hs,q⟩ := h; obtain ⟨its,rv,hl,hz⟩ := I.list hs; rw [aL.ref1 r]; have hi := rv.ints; rw [List.length_map] at hz; refine PyProof.Rows.sorted_intsAny hl.isList hi (by rw [hi.length]; exact hz) fun out ns' h1 h2 h3 => ?_
 obtain ⟨ep,he'⟩ := PyProof.Rows.sortedAll_at s.heap its out; have hlen : (ns'.map V.int).length <= sizeLine := by rw [List.length_map,h2.length_eq]; exact hz
 exact ⟨.ref _,upd H (s.heap.objs.size + 1) (.lst (ns'.map V.int)),I.laid (t' := s.toks) (fun _ _ => PyProof.Rows.sortedAll_old) (Nat.le_succ _) ⟨hlen,out.toList,ep,qa h1,he'⟩,rfl,q ns' _ h2 h3 (I.hok.fresh (Nat.le_succ _))⟩
theorem xU : gg X (.type "range") (fun xs H Q => ∃ j,xs = [.int j] /\ ∀ p,H p = none -> Q (.ref p) (upd H p (.rng 0 j))) := by
 intro pins s σ H xs us Q I r h; obtain ⟨j,rfl,q⟩ := h; obtain ⟨u,rfl,t,rfl⟩ := r.one; refine call_range_1 ?_; exact ⟨.ref _,_,I.laid (o := .rng 0 j) (fun _ _ e => Heap.get?_push_of_some _ e) (Nat.le_refl _) ⟨_,_,_,Heap.get?_push_size _ rfl⟩,rfl,q _ I.fresh⟩
theorem zd {n : Nat} {acc : Array Value} (h : ItemsOf (fun i v => ∃ t,v = Value.int ((0 : Int) + i * 1) t) acc n) : aL (vn (List.range n)) acc.toList := by
 obtain ⟨hs,hi⟩ := h
 have : ∀ (k : Nat) (l : List Value) (m : Nat),l.length = k -> (∀ (j : Nat) v,l[j]? = some v -> ∃ t,v = Value.int (((m + j : Nat) : Int)) t) -> aL (vn ((List.range k).map (m + ·))) l := by
  intro k
  induction k with
  | zero =>
   intro l m hl _
   cases l with
   | nil => exact .nil
   | cons _ _ => simp at hl
  | succ k ih =>
   intro l m hl h
   cases l with
   | nil => simp at hl
   | cons v l =>
    rw [List.range_succ_eq_map,List.map_cons,List.map_map]; refine .cons (h 0 v rfl) ?_
    have e : (List.range k).map ((m + ·) ∘ Nat.succ) = (List.range k).map ((m + 1) + ·) := by
     apply List.map_congr_left; intro a _; show m + (a + 1) = m + 1 + a; omega
    rw [e]; refine ih l (m + 1) (by simpa using hl) fun j w hw => ?_
    obtain ⟨t,e⟩ := h (j + 1) w hw; exact ⟨t,by rw [e]; congr 2; omega⟩
 have h2 := this n acc.toList 0 (by simpa using hs) fun j v hv => by
  obtain ⟨t,e⟩ := hi j v (by simpa using hv); exact ⟨t,by rw [e]; congr 1; omega⟩
 have e : (List.range n).map (0 + ·) = List.range n := by
  have : ∀ l : List Nat,l.map (0 + ·) = l := by
   intro l
   induction l with
   | nil => rfl
   | cons x l ih => rw [List.map_cons,ih,Nat.zero_add]
  exact this _
 rw [e] at h2; exact h2
theorem vV (hc : X.calm = true) : gg X (.type "list") (fun xs H Q => ∃ (p : Addr) (n : Nat),xs = [.ref p] /\ H p = some (.rng 0 n) /\ n <= 2 ^ 24 /\ ∀ l,H l = none -> Q (.ref l) (upd H l (.lst (vn (List.range n))))) := by
 intro pins s σ H xs us Q I r h; obtain ⟨p,n,rfl,hp,hn,q⟩ := h; rw [aL.ref1 r]; obtain ⟨t,u,v,hr⟩ := I.hok p _ hp; have hsm : Builtin.Range.small 0 (n : Int) 1 = true := small_one (by omega) (by omega) (by omega) (by omega); refine call_list_range (n := n) (I.ok.hd hc) hr hsm (by rw [rangeSize_nat]; omega) hn fun h' tk acc' c' hk hS' hacc => ?_
 have hv := zd hacc; have hl : (vn (List.range n)).length <= sizeLine := by rw [aI,List.length_range]; exact hn
 exact ⟨.ref _,_,I.laid (o := .lst (vn (List.range n))) (t' := tk) hk (Nat.le_refl _) ⟨hl,acc'.toList,c',hv,by rw [hS']⟩,rfl,q _ I.fresh⟩
end
theorem j2 (xs : List V) (k : Nat) : eJ xs (some (k : Int)) none = xs.drop k := by
 unfold eJ; rw [HT.rB,HT.wP]
 by_cases h : k <= xs.length
 ·rw [Nat.min_eq_left h,List.take_of_length_le (by rw [List.length_drop]; omega)]
 ·rw [Nat.min_eq_right (by omega),List.drop_of_length_le (by omega : xs.length <= xs.length),List.drop_of_length_le (by omega),List.take_nil]
theorem vQ (xs : List V) (k n : Nat) (h : k + n <= xs.length) : eJ xs (some (k : Int)) (some ((k + n : Nat) : Int)) = (xs.drop k).take n := by
 unfold eJ; rw [HT.rB,HT.rB,Nat.min_eq_left (by omega),Nat.min_eq_left (by omega)]; congr 1; omega
theorem yD (xs : List V) (n : Nat) : eJ xs none (some (n : Int)) = xs.take n := by
 unfold eJ; rw [HT.rB,HT.wP,List.drop_zero,Nat.sub_zero]
 by_cases h : n <= xs.length
 ·rw [Nat.min_eq_left h]
 ·rw [Nat.min_eq_right (by omega),List.take_of_length_le (by omega),List.take_of_length_le (by omega)]
theorem vb (l : List Nat) (k : Nat) : (vn l).drop k = vn (l.drop k) := by
 show ((l.map _).map _).drop k = ((l.drop k).map _).map _; rw [List.map_drop,List.map_drop]
theorem ux (l : List Int) (k : Nat) : (vi l).drop k = vi (l.drop k) := (List.map_drop ..).symm
theorem yJ (l : List Int) (k : Nat) : (vi l).take k = vi (l.take k) := (List.map_take ..).symm
theorem xg.three (r : Nat) (h : r <= 1000) : xg 2 ((3 * r : Nat) : Int) 3 r := by
 have e : Builtin.Range.rangeSize 2 ((3 * r : Nat) : Int) 3 = r := by
  unfold Builtin.Range.rangeSize; rw [if_pos (by decide)]
  by_cases h0 : r = 0
  ·subst h0; rfl
  ·rw [if_pos (by omega)]; omega
 refine ⟨by decide,by decide,?_,e⟩; unfold Builtin.Range.small; rw [e]; have hj : (0 : Int) <= ((3 * r : Nat) : Int) /\ ((3 * r : Nat) : Int) <= 3000 := by omega
 have hr : (r : Int) <= 1000 := by omega
 generalize ((3 * r : Nat) : Int) = j at hj; have h0 : (0 : Int) <= (r : Int) := by omega
 generalize (r : Int) = k at hr h0; have f2 : Builtin.Range.rangeFitsLong 2 = true := by decide
 have f3 : Builtin.Range.rangeFitsLong 3 = true := by decide
 have fit : ∀ i : Int,0 <= i -> i <= 10000 -> Builtin.Range.rangeFitsLong i = true := fun i h1 h2 => by
  unfold Builtin.Range.rangeFitsLong; rw [decide_eq_true (show -(2 ^ 63) <= i by omega),decide_eq_true (show i < 2 ^ 63 by omega)]; rfl
 rw [f2,f3,fit j hj.1 (by omega),fit k h0 (by omega),if_pos (by decide),fit (j + (3 - 1)) (by omega) (by omega)]
 simp
section
variable {X : Cx} {pos : Pos}
theorem u9 (K : Fg) (hK : X.K = K) {e : Expr} {f : Str} {ta : TE} (he : PE X e ta) (hb : attributeBase e f X.env (eval e X.env) = eval e X.env) : PE X (.Attribute e f pos) (acq K ta f) := by
 subst hK; exact aD he hb
theorem abj (K : Fg) (hK : X.K = K) : zU X (zv K) := by
 subst hK; exact yx
theorem ab2 (K : Fg) (hK : X.K = K) : zU X (acp K) := by
 subst hK; exact t7
theorem lj (K : Fg) (hK : X.K = K) {es : List Expr} {k : Nat} {t : vJ} {n : Nat} (hc : X.calm = true) (h : z8 X es t)
  (hn : (assignEach es X.env).length = n := by rfl) (hst : (assignEach es X.env).findIdx? (·.1) = none := by rfl) : PG X (.Tuple es k pos) (zD K n t) := by
 subst hK; exact gQ hc h hn hst
theorem wb (K : Fg) (hK : X.K = K) : gg X (.builtin "len") (fun xs H Q => ∃ p ys,xs = [.ref p] /\ (ag K H p ys \/ cG K H p ys) /\ Q (.int ys.length) H) := by
 subst hK; exact qj
end
end L2

namespace L2
open PySem PySem.Spec PyProof.Rows
def rk (es : Array DictEntry) : Bool := es.all fun e => match e.key with
 | .int k _ => e.hash == hashInt k
 | _ => false
theorem xB {P : Program} {w : World} {es : Array DictEntry} (h : rk es = true) : KeysOf (gp P w) es := by
 intro e he; unfold rk at h; have := Array.all_eq_true_iff_forall_mem.mp h e he
 cases hk : e.key with
 | int k t =>
  rw [hk] at this; exact ⟨.inl k,by rw [yT]; exact vm k t,show e.hash = hashInt k by simpa using this⟩
 | _ => rw [hk] at this; cases this
structure wf (K : Fg) (mg : Str -> Option Value) (sh : Int -> Option (Nat × Nat)) : Prop where
 ex : ∃ (d : Addr) (es : Array DictEntry) (ep : Nat),mg "FORMS" = some (.ref d) /\ K.lookup d = some { cls := .type "dict",data := .dict es ep } /\ rk es = true ∧
  ∀ p n m,sh p = some (n,m) -> ∃ a,findBy iW es (.inl p) = some (.ref a) /\ ∀ H,cG K H a [.int (n : Int),.int (m : Int)]
def acT (K : Fg) (sh : Int -> Option (Nat × Nat)) (ty : TE) : TE := fun σ H Q => ty σ H fun y H1 => ∃ p n m,y = .int p /\ sh p = some (n,m) /\ ∀ a,(∀ H,cG K H a [.int (n : Int),.int (m : Int)]) -> Q (.ref a) H1
theorem aaW {X : Cx} {sh : Int -> Option (Nat × Nat)} {i : Expr} {ty : TE} {p pos : Pos} (F : wf X.K X.mg sh) (hg : Gl X "FORMS") (hi : PE X i ty) (hs : abg i) : PE X (.Subscript (.Name "FORMS" p) i pos) (acT X.K sh ty) := by
 intro pins s σ H Q I h; obtain ⟨d,es,ep,hm,hk,ht,hf⟩ := F.ex; have ho : PE X (.Name "FORMS" p) (tC (.ref d)) := rF hg hm rfl (by decide); refine yM PySem.F.slot_dict_getitem.lookup hs (bp (ho pins s σ H (fun v H1 => v = .ref d /\ H1 = H) I ⟨rfl,rfl⟩) fun u s1 ⟨x,H1,I1,rx,ex,eH⟩ => ?_); subst ex eH; obtain rfl : u = Value.ref d := rx; refine bp (hi pins s1 σ H1 _ I1 h) fun iv s2 ⟨y,H2,I2,ry,q,n,m,ey,hsh,k⟩ => ?_
 subst ey; obtain ⟨a,h1,h2⟩ := hf q n m hsh; have hd := I2.kIn d _ hk; have hM : s2.heap.MapOf (gp X.prog X.w) d (findBy (gp X.prog X.w).is es) := ⟨_,es,ep,hd,⟨rfl,rfl,rfl⟩,rfl,xB ht,fun _ => rfl⟩; refine ⟨⟨_,hd,rfl⟩,?_⟩; obtain ⟨t,rfl⟩ := ry; exact wpAny_getItem_of (k := Sum.inl q) (r9 X.prog X.w q t) hM h1 ⟨.ref a,H2,I2.tok _,rfl,k a h2⟩
end L2

namespace L2
open PySem PySem.Spec PyProof.Rows
section
variable {K : Fg} {h : Heap} {mg : Str -> Option Value} {R : Prop}
theorem adB {x qual : Str} {st : Stmt} {ps : List Str} {f : Addr} {oc : Value} {od an : Option Addr} {osl : Array (Option Value)} {kV doc pm cdv ct : Value} (X : K.In h) (G : h.Ns mainGlobals mg)
  (a : PySem.W.nsIn K mainGlobals x = some (some (.ref f))) (l : K.lookup f = some ⟨oc,od,.func (PySem.W.fnOf x qual (dh st) (cf st) (aj st) .none kV doc pm an cdv ct),osl⟩)
  (c : PySem.W.codeIn K cdv qual = true) (k : PySem.W.keepIn K (.ref f) = true)
  (hb : ∀ (kV doc pm : Value) (an : Option Addr) (cdv ct : Value) (us : List Value),us.length = ps.length -> bindArgs (PySem.W.fnOf x qual (dh st) (cf st) (aj st) .none kV doc pm an cdv ct) ⟨us,[]⟩ = pure (ps.zip us))
  (cont : Df K mg x qual st ps -> R) : R :=
 have F := uc (st := st) l c k
 cont ⟨f,_,F,PySem.W.mg_of X G a,F.binds hb⟩
theorem adG {x qual : Str} {st : Stmt} {ps : List Str} {f : Addr} {oc : Value} {od an : Option Addr} {osl : Array (Option Value)} {kV doc pm cdv ct : Value} (X : K.In h) (G : h.Ns mainGlobals mg)
  (a : PySem.W.nsIn K mainGlobals x = some (some (.ref f))) (l : K.lookup f = some ⟨oc,od,.func (PySem.W.fnOf x qual (dh st) (cf st) (aj st) .none kV doc pm an cdv ct),osl⟩)
  (c : PySem.W.codeIn K cdv qual = true) (k : PySem.W.keepIn K (.ref f) = true)
  (hb : ∀ (kV doc pm : Value) (an : Option Addr) (cdv ct : Value) (us : List Value),us.length = ps.length -> bindArgs (PySem.W.fnOf x qual (dh st) (cf st) (aj st) .none kV doc pm an cdv ct) ⟨us,[]⟩ = pure (ps.zip us))
  (cont : ∀ f fd,mg x = some (.ref f) -> qh K x qual st f fd -> (∀ (s : Shared) (us : List Value),us.length = ps.length -> BindsTo s fd ⟨us,[]⟩ (ps.zip us)) -> R) : R :=
 cont f _ (PySem.W.mg_of X G a) (uc (st := st) l c k) fun s us hu => .of_eq (hb _ _ _ _ _ _ us hu)
theorem aak {x : Str} {C : Addr} (X : K.In h) (G : h.Ns mainGlobals mg) (a : PySem.W.nsIn K mainGlobals x = some (some (.ref C)))
  (pg : PySem.W.plainGet K C Str.empty = true) (hd : PySem.W.hasDictIn K C = true) (po : PySem.W.plainOver K C = true) (sa : PySem.W.findIn K (.ref C) "__setattr__" = some (some (.builtin "object.__setattr__")))
  (mk : PySem.W.makesIn K C = true) (kc : PySem.W.keepIn K (.ref C) = true) (cont : mg x = some (.ref C) -> kS K C -> PySem.W.makesIn K C = true -> PySem.W.keepIn K (.ref C) = true -> R) : R :=
 cont (PySem.W.mg_of X G a) ⟨pg,hd,po,sa⟩ mk kc
theorem aai {x qual : Str} {st : Stmt} {ps : List Str} {C f : Addr} {oc : Value} {od an : Option Addr} {osl : Array (Option Value)} {kV doc pm cdv ct : Value} (hm : mg x = some (.ref C)) (mk : PySem.W.makesIn K C = true) (kc : PySem.W.keepIn K (.ref C) = true)
  (a : PySem.W.findIn K (.ref C) "__init__" = some (some (.ref f))) (i : PySem.W.isFn K (.ref f) = true) (l : K.lookup f = some ⟨oc,od,.func (PySem.W.fnOf "__init__" qual (dh st) (cf st) (aj st) .none kV doc pm an cdv ct),osl⟩)
  (c : PySem.W.codeIn K cdv qual = true) (k : PySem.W.keepIn K (.ref f) = true)
  (hb : ∀ (kV doc pm : Value) (an : Option Addr) (cdv ct : Value) (us : List Value),us.length = ps.length -> bindArgs (PySem.W.fnOf "__init__" qual (dh st) (cf st) (aj st) .none kV doc pm an cdv ct) ⟨us,[]⟩ = pure (ps.zip us))
  (cont : wU K mg x C st ps -> R) : R :=
 have F := uc (st := st) l c k
 cont ⟨f,_,_,F,⟨mk,a,i,kc⟩,hm,F.binds hb⟩
theorem qp {m qual : Str} {st : Stmt} {ps : List Str} {C f : Addr} {oc : Value} {od an : Option Addr} {osl : Array (Option Value)} {kV doc pm cdv ct : Value} (_ : kS K C)
  (a : PySem.W.findIn K (.ref C) m = some (some (.ref f))) (i : PySem.W.isFn K (.ref f) = true) (l : K.lookup f = some ⟨oc,od,.func (PySem.W.fnOf m qual (dh st) (cf st) (aj st) .none kV doc pm an cdv ct),osl⟩)
  (c : PySem.W.codeIn K cdv qual = true) (k : PySem.W.keepIn K (.ref f) = true)
  (hb : ∀ (kV doc pm : Value) (an : Option Addr) (cdv ct : Value) (us : List Value),us.length = ps.length -> bindArgs (PySem.W.fnOf m qual (dh st) (cf st) (aj st) .none kV doc pm an cdv ct) ⟨us,[]⟩ = pure (ps.zip us))
  (cont : oF K C m qual st ps -> R) : R :=
 have F := uc (st := st) l c k
 cont ⟨f,_,F,⟨a,i,k⟩,F.binds hb⟩
theorem bR {x : Str} {i : Int} {t : Tok} (X : K.In h) (G : h.Ns mainGlobals mg) (a : PySem.W.nsIn K mainGlobals x = some (some (.int i t))) (cont : (∃ t,mg x = some (.int i t)) -> R) : R := cont ⟨t,PySem.W.mg_of X G a⟩
theorem eO {x : Str} (X : K.In h) (G : h.Ns mainGlobals mg) (a : PySem.W.nsIn K mainGlobals x = some none) (cont : mg x = none -> R) : R := cont (PySem.W.mg_none_of X G a)
theorem we {C : Addr} {x : Str} (_ : kS K C) (a : PySem.W.findIn K (.ref C) x = some none) (cont : gb K C x -> R) : R := cont a
theorem abF {sh : Int -> Option (Nat × Nat)} {d : Addr} {es : Array DictEntry} {ep : Nat} (X : K.In h) (G : h.Ns mainGlobals mg) (a : PySem.W.nsIn K mainGlobals "FORMS" = some (some (.ref d))) (l : K.lookup d = some { cls := .type "dict",data := .dict es ep })
  (t : rk es = true) (hf : ∀ p n m,sh p = some (n,m) -> ∃ a,findBy iW es (.inl p) = some (.ref a) /\ ∀ H,cG K H a [.int (n : Int),.int (m : Int)]) (cont : wf K mg sh -> R) : R := cont ⟨d,es,ep,PySem.W.mg_of X G a,l,t,hf⟩
theorem bF {es : Array DictEntry} {a : Addr} {p : Int} {n m : Nat} {t u : Tok} {k : Nat} {oc : Option Addr} {sl : Array (Option Value)} (b : findBy iW es (.inl p) = some (.ref a)) (l : K.lookup a = some { cls := .type "tuple",dict := oc,data := .seq #[.int (n : Int) t,.int (m : Int) u] k,slots := sl }) :
  ∃ a,findBy iW es (.inl p) = some (.ref a) /\ ∀ H,cG K H a [.int (n : Int),.int (m : Int)] :=
 ⟨a,b,fun H => .inr ⟨_,_,_,l,rfl,rfl,(show 2 <= sizeLine by decide),.cons ⟨_,rfl⟩ (.cons ⟨_,rfl⟩ .nil)⟩⟩
end
theorem acB {J : It} {g : TG} {tt : TT} {te : TE} {vs : List Nat} {σ : St} {H1 : Hp} {D : Addr} {Qd : Hp -> Prop} {n : Nat} {Y : Nat -> Hp -> V -> Hp -> Prop} (S : qK J H1 n Y) (f : Nat -> V) (c : Nat -> Bool) (hD : H1 D = none) (hn : n <= sizeLine)
  (turn : ∀ i H x H',i < n -> ak H1 H -> Y i H x H' -> ∀ (Q : VK) (Q' : Hp -> Prop),(c i = true -> ∀ H4,ak H H4 -> Q (f i) H4) -> (c i = false -> ∀ H4,ak H H4 -> Q' H4) →
   g x (bJ σ vs) H' fun σ2 H2 => bJ σ2 vs = bJ σ vs /\ tt σ2 H2 fun b H3 => if b = true then te σ2 H3 Q else Q' H3)
  (hd : ∀ H',ak H1 H' -> H' D = some (.lst (((List.range n).filter c).map f)) -> Qd H') :
  ∃ W : Nat -> Nat -> Hp -> Prop,(∃ m,W 0 m (upd H1 D (.lst []))) /\ ∀ i m H,W i m H →
   (J.stop i H /\ Qd H) \/ (J.go i H /\ ∃ Nx : Hp -> Prop,(∀ H',Nx H' -> ∃ m',m' < m /\ W (i + 1) m' H') /\ ∀ x H',J.yld i H x H' -> g x (bJ σ vs) H' fun σ2 H2 => bJ σ2 vs = bJ σ vs /\ tt σ2 H2 fun b H3 =>
    if b = true then te σ2 H3 fun y H4 => ∃ acc,H4 D = some (.lst acc) /\ acc.length < sizeLine /\ Nx (upd H4 D (.lst (acc ++ [y]))) else Nx H3) := by
 refine ⟨fun i m H => m = n - i /\ i <= n /\ ak H1 H /\ H D = some (.lst (((List.range i).filter c).map f)),⟨n,by simp,Nat.zero_le _,ak.new hD,am⟩,?_⟩; rintro i m H ⟨rfl,hi,sm,hys⟩
 by_cases hlt : i < n
 ·have hlen : (((List.range i).filter c).map f).length < sizeLine := by
   rw [List.length_map]; have := List.length_filter_le c (List.range i); rw [List.length_range] at this; omega
  refine .inr ⟨S.go i H hlt sm,fun H' => ak H1 H' /\ H' D = some (.lst (((List.range (i + 1)).filter c).map f)),fun H' p => ⟨n - (i + 1),by omega,rfl,hlt,p⟩,fun x H' y => ?_⟩; refine turn i H x H' hlt sm (S.yld i H x H' hlt sm y) _ _ (fun hc H4 s4 => ?_) (fun hc H4 s4 => ?_)
  ·refine ⟨_,s4 _ _ hys,hlen,(sm.trans s4).upd hD,?_⟩; rw [am,List.range_succ,List.filter_append,List.filter_cons,if_pos hc,List.filter_nil,List.map_append]; rfl
  ·refine ⟨sm.trans s4,?_⟩; rw [s4 _ _ hys,List.range_succ,List.filter_append,List.filter_cons,if_neg (by rw [hc]; simp),List.filter_nil,List.append_nil]
 ·have e : i = n := by omega
  subst e; exact .inl ⟨S.stop H sm,hd H sm hys⟩
theorem wp {X : Cx} : eh X (binaryOp .FloorDiv) (rI (fun _ j => j ≠ 0 /\ j.natAbs < 2 ^ 64) fun i j => .int (i.fdiv j)) := opI fun _ j _ _ _ _ _ hc q => floordiv_int hc.1 q (.inl (PyProof.noPylong_of_log2 (by
 have h : j.natAbs.log2 < 64 := (Nat.log2_lt (by omega)).mpr hc.2
 omega)))
end L2

namespace L2
open PySem PySem.Spec PyProof.Rows
def GT (K : Fg) (mg : Str -> Option Value) (x : Str) (vs : List V) : Prop := ∃ a,mg x = some (.ref a) /\ ∀ H,cG K H a vs
def tGT (K : Fg) (vs : List V) : TE := fun _ H Q => ∀ a,(∀ H',cG K H' a vs) -> Q (.ref a) H
theorem abL {X : Cx} {x : Str} {vs : List V} {pos : Pos} (h : GT X.K X.mg x vs) (hg : Gl X x) (hd : (x == ("__debug__" : Str)) = false := by decide) : PE X (.Name x pos) (tGT X.K vs) := by
 obtain ⟨a,hm,ha⟩ := h; intro pins s σ H Q I q; exact rF hg hm (v := .ref a) rfl hd pins s σ H Q I (q a ha)
theorem adl {K : Fg} {h : Heap} {mg : Str -> Option Value} {R : Prop} {x : Str} {a : Addr} {its : Array Value} {k : Nat} {oc : Option Addr} {sl : Array (Option Value)} (vs : List V) (X : K.In h) (G : h.Ns mainGlobals mg)
  (b : PySem.W.nsIn K mainGlobals x = some (some (.ref a))) (l : K.lookup a = some { cls := .type "tuple",dict := oc,data := .seq its k,slots := sl }) (hz : its.size <= sizeLine) (hv : aL vs its.toList) (cont : GT K mg x vs -> R) : R :=
 cont ⟨a,PySem.W.mg_of X G b,fun H => .inr ⟨_,_,_,l,rfl,rfl,hz,hv⟩⟩
def Tab (K : Fg) (mg : Str -> Option Value) (x : Str) (f : Int -> Option Int) : Prop := ∃ (d : Addr) (es : Array DictEntry) (ep : Nat),mg x = some (.ref d) /\ K.lookup d = some { cls := .type "dict",data := .dict es ep } /\ rk es = true ∧
  ∀ p n,f p = some n -> ∃ t,findBy iW es (.inl p) = some (.int n t)
def adS (f : Int -> Option Int) (ty : TE) : TE := fun σ H Q => ty σ H fun y H1 => ∃ p n,y = .int p /\ f p = some n /\ Q (.int n) H1
theorem acJ {X : Cx} {x : Str} {f : Int -> Option Int} {i : Expr} {ty : TE} {p pos : Pos} (F : Tab X.K X.mg x f) (hg : Gl X x) (hi : PE X i ty) (hs : abg i) (hd : (x == ("__debug__" : Str)) = false := by decide) : PE X (.Subscript (.Name x p) i pos) (adS f ty) := by
 intro pins s σ H Q I h; obtain ⟨d,es,ep,hm,hk,ht,hf⟩ := F; have ho : PE X (.Name x p) (tC (.ref d)) := rF hg hm rfl hd; refine yM PySem.F.slot_dict_getitem.lookup hs (bp (ho pins s σ H (fun v H1 => v = .ref d /\ H1 = H) I ⟨rfl,rfl⟩) fun u s1 ⟨y,H1,I1,rx,ex,eH⟩ => ?_); subst ex eH; obtain rfl : u = Value.ref d := rx; refine bp (hi pins s1 σ H1 _ I1 h) fun iv s2 ⟨y,H2,I2,ry,q,n,ey,hsh,k⟩ => ?_
 subst ey; obtain ⟨tn,h1⟩ := hf q n hsh; have hdd := I2.kIn d _ hk; have hM : s2.heap.MapOf (gp X.prog X.w) d (findBy (gp X.prog X.w).is es) := ⟨_,es,ep,hdd,⟨rfl,rfl,rfl⟩,rfl,xB ht,fun _ => rfl⟩; refine ⟨⟨_,hdd,rfl⟩,?_⟩; obtain ⟨t,rfl⟩ := ry; exact wpAny_getItem_of (k := Sum.inl q) (r9 X.prog X.w q t) hM h1 ⟨.int n,H2,I2.tok _,⟨tn,rfl⟩,k⟩
theorem acz {K : Fg} {h : Heap} {mg : Str -> Option Value} {R : Prop} {x : Str} {f : Int -> Option Int} {d : Addr} {es : Array DictEntry} {ep : Nat} (X : K.In h) (G : h.Ns mainGlobals mg) (a : PySem.W.nsIn K mainGlobals x = some (some (.ref d))) (l : K.lookup d = some { cls := .type "dict",data := .dict es ep })
  (t : rk es = true) (hf : ∀ p n,f p = some n -> ∃ t,findBy iW es (.inl p) = some (.int n t)) (cont : Tab K mg x f -> R) : R := cont ⟨d,es,ep,PySem.W.mg_of X G a,l,t,hf⟩
abbrev ov : Option Int -> V
 | none => .non
 | some z => .int z
abbrev vo (l : List (Option Int)) : List V := l.map ov
theorem yB (l : List Int) : vo (l.map some) = vi l := by
 show List.map _ (List.map _ _) = _; rw [List.map_map]; rfl
theorem acf (l : List (Option Int)) : (vo l).all le = true := by
 rw [List.all_eq_true]; intro v hv; obtain ⟨o,_,rfl⟩ := List.mem_map.mp hv; cases o <;> rfl
theorem ady (l : List (Option Int)) : yz .non (vo l) = decide (none ∈ l) := by
 induction l with
 | nil => simp [yz]
 | cons o l ih =>
  unfold yz at ih ⊢; show (pI (ov o) .non || (vo l).any fun y => pI y V.non) = _; rw [ih]
  cases o with
  | none => simp [pI]
  | some z => simp [pI]
theorem xy {l : List (Option Int)} {i : Nat} {o : Option Int} (h : l[i]? = some o) : (vo l)[i]? = some (ov o) := by rw [List.getElem?_map,h]; rfl
def dR (H : Hp) (p : Addr) : Int × Int := match H p with
 | some (.tup [.int a,.int b]) => (a,b)
 | _ => (0,0)
def lt2 (a b : Int × Int) : Prop := a.1 < b.1 \/ (a.1 = b.1 /\ a.2 < b.2)
def abv : List V -> Hp -> VK -> Prop := fun vs H Q => ∃ (a : Addr) (ps : List Addr),vs = [V.ref a] /\ H a = some (.lst (ps.map V.ref)) /\ (∀ p ∈ ps,H p = some (.tup [.int (dR H p).1,.int (dR H p).2])) ∧
 ∀ (qs : List Addr) (p : Addr),qs.Perm ps -> qs.Pairwise (fun u v => ¬ lt2 (dR H v) (dR H u)) -> H p = none -> Q (.ref p) (upd H p (.lst (qs.map V.ref)))
theorem abO : ∀ {ps : List Addr} {us : List Value},aL (ps.map V.ref) us -> us = ps.map Value.ref
 | [],us,h => by cases h; rfl
 | p :: ps,us,h => by
  cases h with
  | cons r t =>
   rw [abO t]; rw [show _ = Value.ref p from r]; rfl
theorem abI : ∀ (ps : List Addr),aL (ps.map V.ref) (ps.map Value.ref)
 | [] => .nil
 | p :: ps => .cons rfl (abI ps)
theorem aeo {a b c d : Int} (h : lexLt itemOrd [Sum.inl a,Sum.inl b] [Sum.inl c,Sum.inl d] = false) : ¬ lt2 (a,b) (c,d) := by
 intro z; have h1 : lexLt itemOrd [Sum.inl a,Sum.inl b] [Sum.inl c,Sum.inl d] = (decide (a < c) || (!decide (c < a) && (decide (b < d) || (!decide (d < b) && false)))) := rfl; rw [h1] at h
 rcases z with z | ⟨z1,z2⟩
 ·rw [decide_eq_true (show a < c from z)] at h; cases h
 ·have z1 : a = c := z1; have z2 : b < d := z2; rw [decide_eq_true z2,decide_eq_false (show ¬ c < a by omega)] at h; simp at h
theorem zI {X : Cx} : gg X (.builtin "sorted") abv := by
 intro pins s σ H vs us Q I r h; obtain ⟨a,ps,rfl,hs,hk,q⟩ := h; obtain ⟨its,rv,hl,hz⟩ := I.list (ag.of hs); rw [aL.ref1 r]; have hi := abO rv; subst hi; rw [List.length_map] at hz
 have tup : ∀ p ∈ ps,∃ o xs n,s.heap.get? p = some o /\ o.cls = .type "tuple" /\ o.data = .seq xs n /\ ∃ t u,xs = #[.int (dR H p).1 t,.int (dR H p).2 u] := fun p hp => by
  obtain ⟨its2,r2,⟨o,ho,hc,n,hd⟩,_⟩ := I.tuple (cG.of (K := X.K) (hk p hp)); obtain ⟨t,u,e⟩ := aL.int2 r2; subst e; exact ⟨o,_,n,ho,hc,hd,t,u,rfl⟩
 have key : ∀ p ∈ ps,PyProof.Rows.G.tupKeyC s.heap (fun _ => false) (.ref p) = some [Sum.inl (dR H p).1,Sum.inl (dR H p).2] := fun p hp => by
  obtain ⟨o,xs,n,ho,hc,hd,t,u,rfl⟩ := tup p hp; unfold PyProof.Rows.G.tupKeyC; have e1 : PyProof.Rows.G.isTupObj s.heap (.ref p) = true := by simp [PyProof.Rows.G.isTupObj,ho,hc]
  rw [if_pos e1]; simp only [tupKey,ho,hd]; rfl
 have tups : ∀ l : List Addr,(∀ p ∈ l,p ∈ ps) -> ∃ fs,TupsOf s.heap (fun _ => false) (l.map Value.ref) fs := by
  intro l
  induction l with
  | nil => exact fun _ => ⟨[],.nil⟩
  | cons p l ih =>
   intro hm
   obtain ⟨fs,h2⟩ := ih fun x hx => hm x (List.mem_cons_of_mem _ hx)
   obtain ⟨o,xs,n,ho,hc,hd,t,u,e⟩ := tup p (hm p (List.mem_cons_self ..)); subst e; exact ⟨_,.cons ⟨p,o,_,n,rfl,ho,hc,hd,rfl,fun _ => ⟨_,_,rfl⟩,fun e => by cases e⟩ h2⟩
 obtain ⟨fs,htup⟩ := tups ps fun _ h => h
 refine PyProof.Rows.G.sorted_tups (shape := fun _ => false) (vs := ps.map Value.ref) hl.isList htup (fun v hv => ?_) (by rw [List.length_map]; exact hz) fun st' hp hso _ => ?_
 ·obtain ⟨p,hp,rfl⟩ := List.mem_map.mp hv; exact ⟨_,key p hp⟩
 ·have hpl : (arrOf st').toList.Perm ((ps.map Value.ref).zip (ps.map Value.ref)) := by
   have e := Array.perm_iff_toList_perm.mp hp; rw [pairsOf_toList] at e; exact e
  have hzip : (ps.map Value.ref).zip (ps.map Value.ref) = ps.map fun p => ((Value.ref p,Value.ref p) : Keyed) := by
   rw [List.zip_map',]
  rw [hzip] at hpl
  have hex : ∀ (l : List Keyed),(∀ k ∈ l,∃ p ∈ ps,k = ((Value.ref p,Value.ref p) : Keyed)) -> ∃ qs : List Addr,l = qs.map fun p => ((Value.ref p,Value.ref p) : Keyed) := by
   intro l
   induction l with
   | nil => exact fun _ => ⟨[],rfl⟩
   | cons k l ih =>
    intro hm
    obtain ⟨qs,e⟩ := ih fun x hx => hm x (List.mem_cons_of_mem _ hx)
    obtain ⟨p,_,ek⟩ := hm k (List.mem_cons_self ..); exact ⟨p :: qs,by rw [e,ek]; rfl⟩
  obtain ⟨qs,hqs⟩ := hex (arrOf st').toList fun k hk2 => by
   obtain ⟨p,h1,h2⟩ := List.mem_map.mp (hpl.mem_iff.mp hk2); exact ⟨p,h1,h2.symm⟩
  have hqp : qs.Perm ps := by
   rw [hqs] at hpl; have := hpl.map (fun k : Keyed => match k.1 with | .ref a => a | _ => 0); rw [List.map_map,List.map_map] at this
   have e1 : ∀ l : List Addr,l.map ((fun k : Keyed => match k.1 with | .ref a => a | _ => 0) ∘ fun p => ((Value.ref p,Value.ref p) : Keyed)) = l := by
    intro l
    induction l with
    | nil => rfl
    | cons x l ih => rw [List.map_cons,ih]; rfl
   rw [e1,e1] at this; exact this
  have hlen : qs.length = ps.length := hqp.length_eq; have hsz : (pairsOf (ps.map Value.ref)).size = ps.length := by rw [pairsOf_size,List.length_map]
  have hat : ∀ i p,qs[i]? = some p -> KK (PyProof.Rows.G.tupKindC s.heap fun _ => false) (arrOf st') i = [Sum.inl (dR H p).1,Sum.inl (dR H p).2] := fun i p hi => by
   unfold KK
   have e : (arrOf st')[i]? = some ((Value.ref p,Value.ref p) : Keyed) := by
    rw [← Array.getElem?_toList,hqs,List.getElem?_map,hi]; rfl
   rw [e]; show (PyProof.Rows.G.tupKeyC s.heap (fun _ => false) (.ref p)).getD [] = _; rw [key p (hqp.mem_iff.mp (List.mem_of_getElem? hi))]; rfl
  have hpw : qs.Pairwise (fun u v => ¬ lt2 (dR H v) (dR H u)) := by
   rw [List.pairwise_iff_getElem]; intro i j hi hj hij; have := hso i j (by omega) (by rw [hsz]; omega); rw [hat i _ (List.getElem?_eq_getElem hi),hat j _ (List.getElem?_eq_getElem hj)] at this; exact aeo this
  have hout : (arrOf st').map (·.2) = (qs.map Value.ref).toArray := by
   apply Array.ext'; rw [Array.toList_map,hqs,List.map_map]; rfl
  rw [hout]; obtain ⟨ep,he'⟩ := PyProof.Rows.sortedAll_at s.heap (ps.map Value.ref) (qs.map Value.ref).toArray; have hlen2 : (qs.map V.ref).length <= sizeLine := by rw [List.length_map,hlen]; exact hz
  exact ⟨.ref _,upd H (s.heap.objs.size + 1) (.lst (qs.map V.ref)),I.laid (t' := s.toks) (fun _ _ => PyProof.Rows.sortedAll_old) (Nat.le_succ _) ⟨hlen2,qs.map Value.ref,ep,abI qs,he'⟩,rfl,q qs _ hqp hpw (I.hok.fresh (Nat.le_succ _))⟩
theorem adA {J : It} {g : TG} {te : TE} {vs : List Nat} {σ : St} {H1 : Hp} {D : Addr} {Qd : Hp -> Prop} {n : Nat} {Y : Nat -> Hp -> V -> Hp -> Prop} (S : qK J H1 n Y) (f : Nat -> List V) (hD : H1 D = none) (hn : n <= sizeLine)
  (turn : ∀ i H x H',i < n -> ak H1 H -> Y i H x H' -> ∀ Q : VK,(∀ q H4,ak H H4 -> H q = none -> H4 q = some (.tup (f i)) -> Q (.ref q) H4) -> g x (bJ σ vs) H' fun σ2 H2 => bJ σ2 vs = bJ σ vs /\ te σ2 H2 Q)
  (mg : ∀ x σ H (Q Q' : St -> Hp -> Prop),(∀ σ2 H2,Q σ2 H2 -> Q' σ2 H2) -> g x σ H Q -> g x σ H Q')
  (hd : ∀ H' (qs : List Addr),ak H1 H' -> H' D = some (.lst (qs.map V.ref)) -> qs.length = n -> (∀ (i : Nat) q,qs[i]? = some q -> H' q = some (.tup (f i))) -> Qd H') :
  ∃ W : Nat -> Nat -> Hp -> Prop,(∃ m,W 0 m (upd H1 D (.lst []))) /\ ∀ i m H,W i m H →
   (J.stop i H /\ Qd H) \/ (J.go i H /\ ∃ Nx : Hp -> Prop,(∀ H',Nx H' -> ∃ m',m' < m /\ W (i + 1) m' H') /\ ∀ x H',J.yld i H x H' -> g x (bJ σ vs) H' fun σ2 H2 => bJ σ2 vs = bJ σ vs /\ wL σ2 H2 fun b H3 =>
    if b = true then te σ2 H3 fun y H4 => ∃ acc,H4 D = some (.lst acc) /\ acc.length < sizeLine /\ Nx (upd H4 D (.lst (acc ++ [y]))) else Nx H3) :=
 wK S (fun i y H => ∃ q,y = .ref q /\ q ≠ D /\ H q = some (.tup (f i))) hD hn (fun i y H H' _ ⟨q,e,ne,h⟩ k => ⟨q,e,ne,k _ _ h ne⟩)
  (fun i H x H' hi s ⟨acc,ha⟩ y Q q => turn i H x H' hi s y Q fun a H4 s4 n4 h4 => q _ _ s4 ⟨a,rfl,fun e => by (rw [e,ha] at n4; cases n4),h4⟩) mg fun H' ys s hys hl hR => by
  have hq : ∃ qs : List Addr,ys = qs.map V.ref := by
   clear hl hys
   have : ∀ (l : List V),(∀ (i : Nat) y,l[i]? = some y -> ∃ q,y = V.ref q) -> ∃ qs : List Addr,l = qs.map V.ref := by
    intro l
    induction l with
    | nil => intro _; exact ⟨[],rfl⟩
    | cons z l ih =>
     intro h; obtain ⟨q,e⟩ := h 0 z rfl
     obtain ⟨qs,e2⟩ := ih fun i y hy => h (i + 1) y hy
     exact ⟨q :: qs,by rw [e,e2]; rfl⟩
   exact this ys fun i z hz => let ⟨q,e,_⟩ := hR i z hz; ⟨q,e⟩
  obtain ⟨qs,rfl⟩ := hq; refine hd H' qs s hys (by simpa using hl) fun i q hi => ?_
  obtain ⟨q',e,_,h⟩ := hR i (.ref q) (by rw [List.getElem?_map,hi]; rfl); cases e; exact h
theorem abT {x : Str} {H1 : Hp} : qK (Its x) H1 x.cps.size (fun i H v H' => H' = H /\ ∃ c,x.cps[i]? = some c /\ v = .str ⟨#[c]⟩) :=
 ⟨fun i H hi s => hi,fun H s => Nat.le_refl _,fun i H x H' _ s y => y⟩
end L2

namespace L2
open PySem PySem.Spec PyProof.Rows
theorem fs {N P : List Str} {sc : Scope} (a : sc.kind = .function := by rfl) (b : sc.isCoroutine = false := by rfl) (c : sc.isGenerator = false := by rfl) (d : N.Nodup := by decide +kernel) (e : N.take P.length = P := by rfl)
  (f : ∀ x ∈ P,sc.names.lookup x = some .local \/ sc.names.lookup x = some .cell := by decide +kernel) (g : ∀ y ∈ sc.names,y.2 ≠ .free := by decide +kernel) : aq N P sc := ⟨a,b,c,d,e,f,g⟩
abbrev Dd (K : Fg) (mg : Str -> Option Value) (x : Str) (st : Stmt) (ps : List Str) : Prop := Df K mg x x st ps
theorem aC (x : Str) (st : Stmt) (ps : List Str) {K : Fg} {h : Heap} {mg : Str -> Option Value} {R : Prop} {f : Addr} {oc : Value} {od an : Option Addr} {osl : Array (Option Value)} {kV doc pm cdv ct : Value} (X : K.In h) (G : h.Ns mainGlobals mg)
  (a : PySem.W.nsIn K mainGlobals x = some (some (.ref f))) (l : K.lookup f = some ⟨oc,od,.func (PySem.W.fnOf x x (dh st) (cf st) (aj st) .none kV doc pm an cdv ct),osl⟩)
  (c : PySem.W.codeIn K cdv x = true) (k : PySem.W.keepIn K (.ref f) = true)
  (hb : ∀ (kV doc pm : Value) (an : Option Addr) (cdv ct : Value) (us : List Value),us.length = ps.length -> bindArgs (PySem.W.fnOf x x (dh st) (cf st) (aj st) .none kV doc pm an cdv ct) ⟨us,[]⟩ = pure (ps.zip us))
  (cont : Dd K mg x st ps -> R) : R := adB X G a l c k hb cont
theorem bN.m {j k : Nat} {A : Around} (r : bN k A) (h : j <= k := by decide) : bN j A := r.mono h
section
variable {X : Cx} {a b e : Expr} {es : List Expr} {ta tb te : TE} {t : TA} {p pos pos' apos : Pos}
theorem au (ha : PE X a ta) (hb : PE X b tb) (hs : uX b := by exact fun _ _ => rfl) : PE X (.Subscript a b pos) (vp (zv X.K) ta tb) := rA yx ha hb hs
theorem oY (K : Fg) (ha : PE X a ta) (hb : PE X b tb) (hK : X.K = K := by rfl) (hs : uX b := by exact fun _ _ => rfl) : PE X (.Subscript a b pos) (vp (zv K) ta tb) := rA (abj K hK) ha hb hs
theorem aF {op : CmpOp} {r : R2} (ho : eh X (compareOp op) r) (ha : PE X a ta) (hb : PE X b tb) (hm : behindInMarks op b = false := by exact aaJ _) : PT X (.Compare a [op] [b] pos) (abJ (vp r ta tb)) := yr ho ha hb hm
theorem lZ {op : CmpOp} {r : R2} (ho : eh X (compareOp op) r) (ha : PE X a ta) (hb : PE X b tb) (hm : behindInMarks op b = false := by exact aaJ _) : PE X (.Compare a [op] [b] pos) (vp r ta tb) := ace ho ha hb hm
theorem aH (i : Nat) {x : Str} (hN : X.N.Nodup) (he : PE X e te) (hi : X.N[i]? = some x := by rfl) (hx : yo X.env.scope x := by first | exact Or.inl rfl | exact Or.inr rfl) (hs : swapsWith e (some (.Name x pos')) pos.line X.env = pure false := by rfl) (hf : X.fn x = true \/ X.env.scope.names.lookup x = some .local := by first | exact .inl rfl | exact .inr rfl | assumption) :
  PS X (.Assign [.Name x pos'] e pos) (y8 te (gV i)) := acW hN hi hx he hs hf
theorem a0 (i : Nat) {x : Str} (hN : X.N.Nodup) (hi : X.N[i]? = some x := by rfl) (hx : yo X.env.scope x := by first | exact Or.inl rfl | exact Or.inr rfl) (hf : X.fn x = true \/ X.env.scope.names.lookup x = some .local := by first | exact .inl rfl | exact .inr rfl | assumption) :
  PG X (.Name x pos) (gV i) := acm hN hi hx hf
theorem ap {k kk : Nat} {ps : List Str} {sp : Sp} {x : Str} (G : Ok X.prog X.w X.K X.mg X.base k x ps sp) (hr : bN kk X.A) (ha : PA X (e :: es) t) (hk : k <= kk := by decide) (hg : Gl X x := by rfl) (hdb : (x == ("__debug__" : Str)) = false := by decide)
  (he : starEach (e :: es) X.env = (false,eval e X.env) :: starEach es X.env := by rfl) (hpl : (backTo pos (starEach es X.env)).any (·.1) = false := by rfl) : PE X (.Call (.Name x p) (e :: es) [] pos) (tK sp [] E0 t) := aed G (hr.mono hk) hg ha hdb he hpl
theorem d5 {k kk : Nat} {ps : List Str} {sp : Sp} {x : Str} {C : Addr} (G : dS X.prog X.w X.K X.mg X.base k x C ps sp) (hr : bN kk X.A) (ha : PA X (e :: es) t) (hk : k + 1 <= kk := by decide) (hg : Gl X x := by rfl) (hdb : (x == ("__debug__" : Str)) = false := by decide)
  (he : starEach (e :: es) X.env = (false,eval e X.env) :: starEach es X.env := by rfl) (hpl : (backTo pos (starEach es X.env)).any (·.1) = false := by rfl) : PE X (.Call (.Name x p) (e :: es) [] pos) (zA C sp [] E0 t) := adq G (hr.mono hk) hg ha hdb he hpl
theorem bA (hm : X.mg "len" = none) (he : PE X e te) (hg : Gl X "len" := by rfl) (h1 : starEach [e] X.env = (false,eval e X.env) :: starEach [] X.env := by rfl) (hpl : (backTo pos (starEach [] X.env)).any (·.1) = false := by rfl) :
  PE X (.Call (.Name "len" p) [e] [] pos) (tCB (fun xs H Q => ∃ p ys,xs = [.ref p] /\ (ag X.K H p ys \/ cG X.K H p ys) /\ Q (.int ys.length) H) (abH te uI)) := bH qj hg hm PySem.boot_len (ab he ac h1) (by decide) (by decide) h1 hpl
end
end L2

namespace Go
open PySem PySem.Spec PyProof.Rows L2
def aT (i : Nat) : Stmt := PySem.Challenge.pw_arraydesk_s01_answers.main.body.getD i (.Pass ⟨0,0,0,0⟩)
def rJ (p : Int) : Option Int := if p = 1 then some 0 else if p = 2 then some 3 else if p = 3 then some 4 else none
structure Txt (K : Fg) (mg : Str -> Option Value) (C : Addr) : Prop where
 b_len : mg "len" = none
 b_range : mg "range" = none
 b_zip : mg "zip" = none
 b_reversed : mg "reversed" = none
 b_list : mg "list" = none
 b_enumerate : mg "enumerate" = none
 b_min : mg "min" = none
 b_max : mg "max" = none
 b_sorted : mg "sorted" = none
 b_str : mg "str" = none
 b_ord : mg "ord" = none
 g_MOST_LENGTHS : ∃ t,mg "MOST_LENGTHS" = some (.int 4 t)
 g_MOST_CELLS : ∃ t,mg "MOST_CELLS" = some (.int 1024 t)
 g_MOST_COUNT : ∃ t,mg "MOST_COUNT" = some (.int 1024 t)
 g_GREATEST_CELL : ∃ t,mg "GREATEST_CELL" = some (.int 1000000000000000 t)
 g_SLOTS : ∃ t,mg "SLOTS" = some (.int 8 t)
 g_WRONG : ∃ t,mg "WRONG" = some (.int (-1) t)
 g_EMPTY : ∃ t,mg "EMPTY" = some (.int (-2) t)
 g_UNLIKE : ∃ t,mg "UNLIKE" = some (.int (-3) t)
 g_NOWHERE : ∃ t,mg "NOWHERE" = some (.int (-4) t)
 g_BEYOND : ∃ t,mg "BEYOND" = some (.int (-6) t)
 g_NOTHING : ∃ t,mg "NOTHING" = some (.int (-5) t)
 g_NO_TEXT : ∃ t,mg "NO_TEXT" = some (.int (-8) t)
 g_MOST_TIMES : ∃ t,mg "MOST_TIMES" = some (.int 1024 t)
 g_MOST_BYTES : ∃ t,mg "MOST_BYTES" = some (.int 8192 t)
 g_SUM : ∃ t,mg "SUM" = some (.int 0 t)
 g_DIFFERENCE : ∃ t,mg "DIFFERENCE" = some (.int 1 t)
 g_PRODUCT : ∃ t,mg "PRODUCT" = some (.int 2 t)
 g_LEAST : ∃ t,mg "LEAST" = some (.int 3 t)
 g_MOST : ∃ t,mg "MOST" = some (.int 4 t)
 g_QUOTIENT : ∃ t,mg "QUOTIENT" = some (.int 5 t)
 g_REST : ∃ t,mg "REST" = some (.int 6 t)
 g_BELOW : ∃ t,mg "BELOW" = some (.int 7 t)
 g_GREATEST_OP : ∃ t,mg "GREATEST_OP" = some (.int 8 t)
 g_GREATEST_MODE : ∃ t,mg "GREATEST_MODE" = some (.int 3 t)
 t_FOLD_OPS : GT K mg "FOLD_OPS" [.int 0,.int 2,.int 3,.int 4]
 d_LANDING_OPS : Tab K mg "LANDING_OPS" rJ
 cl : kS K C
 nL : gb K C "lengths"
 nC : gb K C "cells"
end Go

namespace Go
open PySem PySem.Spec PyProof.Rows L2
abbrev iF : Stmt := (aT 3)
abbrev kY : Stmt := (aT 4)
abbrev kU : Stmt := (aT 5)
abbrev jR : Stmt := (aT 6)
abbrev lf : Stmt := (aT 7)
abbrev gR : Stmt := (aT 8)
abbrev gy : Stmt := (aT 10)
abbrev jK : Stmt := (aT 9)
abbrev gY : Stmt := (aT 11)
abbrev gq : Stmt := (aT 31)
abbrev lw : Stmt := (aT 57)
abbrev jY : Stmt := (aT 58)
abbrev fH : Stmt := (aT 59)
structure iC (K : Fg) (R : Addr) : Prop where
 cl : kS K R
 nN : gb K R "numbers"
 nR : gb K R "reached"
abbrev eC : Stmt := (je (aT 81) 0)
abbrev fc : Stmt := (je (aT 81) 1)
abbrev dP : Stmt := (je (aT 81) 4)
abbrev eE : Stmt := (je (aT 81) 5)
abbrev gW : Stmt := (aT 82)
abbrev jP : Stmt := (aT 83)
def pA (K : Fg) : Sp := fun vs H Q _ => ∃ (a : Addr) (zs : List Int),vs = [.ref a] /\ ag K H a (vi zs) /\ PyYqlnca.answers_asked zs = true /\ ∀ (H' : Hp) (p : Addr),H' p = some (.lst (vi (PyYqlnca.answers zs))) -> Q (.ref p) H'
abbrev mB : Stmt := (aT 142)
abbrev fK : Stmt := (aT 40)
abbrev ff : Stmt := (aT 113)
abbrev fj : Stmt := (aT 107)
abbrev hZ : Stmt := (aT 141)
abbrev fh : Stmt := (je (aT 14) 0)
abbrev mG : Stmt := (aT 15)
abbrev mr : Stmt := (aT 16)
abbrev fw : Stmt := (aT 26)
abbrev fk : Stmt := (aT 27)
abbrev eY : Stmt := (aT 28)
abbrev eB : Stmt := (aT 29)
abbrev fI : Stmt := (aT 30)
abbrev tp : Stmt := (aT 32)
abbrev jw : Stmt := (aT 35)
abbrev jN : Stmt := (aT 36)
abbrev gT : Stmt := (aT 37)
abbrev ge : Stmt := (aT 38)
abbrev jz : Stmt := (aT 39)
abbrev iX : Stmt := (aT 109)
abbrev iQ : Stmt := (aT 110)
abbrev mv : Stmt := (aT 111)
abbrev k9 : Stmt := (aT 112)
abbrev ms : Stmt := (aT 85)
abbrev cx : Stmt := (aT 86)
abbrev eM : Stmt := (aT 87)
abbrev dq : Stmt := (aT 99)
abbrev lh : Stmt := (aT 100)
abbrev eq : Stmt := (aT 101)
abbrev de : Stmt := (aT 102)
abbrev dt : Stmt := (aT 103)
abbrev g8 : Stmt := (aT 104)
abbrev iT : Stmt := (aT 105)
abbrev lg : Stmt := (aT 106)
abbrev cT : Stmt := (aT 129)
abbrev dM : Stmt := (aT 130)
abbrev jO : Stmt := (aT 133)
abbrev gh : Stmt := (aT 131)
abbrev fU : Stmt := (aT 132)
abbrev jM : Stmt := (aT 78)
abbrev iD : Stmt := (aT 61)
abbrev h_ : Stmt := (aT 62)
abbrev db : Stmt := (aT 63)
abbrev iE : Stmt := (aT 64)
abbrev jx : Stmt := (aT 65)
abbrev jH : Stmt := (aT 116)
abbrev iw : Stmt := (aT 117)
abbrev gM : Stmt := (aT 124)
abbrev eA : Stmt := (je (aT 81) 2)
abbrev fL : Stmt := (je (aT 81) 3)
abbrev i6 : Stmt := (aT 118)
abbrev g9 : Stmt := (aT 119)
abbrev jI : Stmt := (aT 121)
abbrev gk : Stmt := (aT 120)
abbrev iI : Stmt := (aT 122)
abbrev i5 : Stmt := (aT 123)
abbrev jL : Stmt := (aT 125)
theorem y6 {p n : Int} (h : rJ p = some n) : (p = 1 /\ n = 0) \/ (p = 2 /\ n = 3) \/ (p = 3 /\ n = 4) := by
 unfold rJ at h
 split at h
 ·cases h; exact .inl ⟨by assumption,rfl⟩
 ·split at h
  ·cases h; exact .inr (.inl ⟨by assumption,rfl⟩)
  ·split at h
   ·cases h; exact .inr (.inr ⟨by assumption,rfl⟩)
   ·cases h
abbrev fe : Stmt := (aT 137)
abbrev dZ : Stmt := (aT 96)
abbrev fb : Stmt := (aT 79)
abbrev gX : Stmt := (aT 66)
abbrev hJ : Stmt := (aT 126)
abbrev hE : Stmt := (aT 140)
abbrev gP : Stmt := (aT 134)
abbrev gO : Stmt := (aT 135)
abbrev fr : Stmt := (aT 136)
abbrev kX : Stmt := (aT 52)
abbrev mK : Stmt := (aT 53)
abbrev g_ : Stmt := (aT 54)
abbrev i4 : Stmt := (aT 55)
abbrev fJ : Stmt := (aT 33)
abbrev du : Stmt := (aT 88)
abbrev et : Stmt := (aT 89)
abbrev dO : Stmt := (aT 91)
abbrev gn : Stmt := (aT 92)
abbrev jG : Stmt := (aT 93)
abbrev gL : Stmt := (aT 94)
abbrev gK : Stmt := (aT 95)
abbrev dX : Stmt := (aT 70)
abbrev jA : Stmt := (aT 71)
abbrev eF : Stmt := (aT 72)
abbrev gU : Stmt := (aT 73)
abbrev gt : Stmt := (aT 74)
abbrev gd : Stmt := (aT 75)
abbrev jB : Stmt := (aT 77)
abbrev gN : Stmt := (aT 76)
end Go

namespace Go
open PySem PySem.Spec PyProof.Rows L2
def abN : Prop := ∀ (P : Program) (w : World) (K : Fg) (mg : Str -> Option Value) (base : Heap) (C al f : Addr) (fd : FuncData),Txt K mg C -> iC K al -> wf K mg PyYqlnca.shape →
  Dd K mg "cell_count" iF ["lengths"] →
  Dd K mg "is_shape" kY ["lengths"] →
  Dd K mg "is_place" kU ["lengths","place"] →
  Dd K mg "number_of" jR ["lengths","place"] →
  Dd K mg "place_of" lf ["lengths","cell"] →
  Dd K mg "places_of" gR ["lengths"] →
  wU K mg "Array" C fh ["self","lengths","cells"] →
  Dd K mg "is_cell" mG ["number"] →
  Dd K mg "cell_at" mr ["array","place"] →
  Dd K mg "empty_slots" fw [] →
  Dd K mg "target_refusal" fk ["k"] →
  Dd K mg "source_refusal" eY ["slots","i"] →
  Dd K mg "sources_refusal" eB ["slots","sources"] →
  Dd K mg "slots_refusal" fI ["slots","k","sources"] →
  Dd K mg "keep" tp ["slots","k","array"] →
  Dd K mg "are_cells" jw ["numbers"] →
  Dd K mg "call_make" jN ["slots","k","lengths","cells"] →
  Dd K mg "call_fill" gT ["slots","k","v","lengths"] →
  Dd K mg "call_count" ge ["slots","k","start","step","lengths"] →
  Dd K mg "call_drop" jz ["slots","k"] →
  Dd K mg "call_shape" iX ["slots","i"] →
  Dd K mg "call_cells" iQ ["slots","i"] →
  Dd K mg "call_at" mv ["slots","i","place"] →
  Dd K mg "call_set" k9 ["slots","i","v","place"] →
  Dd K mg "spreads" ms ["small","great"] →
  Dd K mg "place_before_spread" cx ["small","place"] →
  Dd K mg "spread_array" eM ["array","lengths"] →
  Dd K mg "section_lengths" dq ["cuts"] →
  Dd K mg "are_cuts" lh ["lengths","cuts"] →
  Dd K mg "cuts_lie_within" eq ["lengths","cuts"] →
  Dd K mg "place_before_cut" de ["cuts","place"] →
  Dd K mg "section_numbers" dt ["lengths","cuts"] →
  Dd K mg "call_spread" g8 ["slots","k","i","lengths"] →
  Dd K mg "call_cut" iT ["slots","k","i","cuts"] →
  Dd K mg "call_put" lg ["slots","i","j","cuts"] →
  Dd K mg "place_before_turn" cT ["axes","place"] →
  Dd K mg "turned_array" dM ["array","axes"] →
  Dd K mg "call_turn" jO ["slots","k","i","axes"] →
  Dd K mg "without_axis" gy ["numbers","axis"] →
  Dd K mg "with_axis" jK ["numbers","axis","number"] →
  Dd K mg "with_length" gY ["lengths","axis","length"] →
  Dd K mg "axis_refusal" gq ["slots","k","sources","axis"] →
  Dd K mg "row_at" lw ["array","axis","others"] →
  Dd K mg "rows_of" jY ["array","axis"] →
  Dd K mg "array_of_rows" fH ["lengths","axis","rows"] →
  wU K mg "Reader" al eC ["self","numbers"] →
  oF K al "is_done" "Reader.is_done" fc ["self"] →
  oF K al "read_whole" "Reader.read_whole" dP ["self"] →
  oF K al "read_row" "Reader.read_row" eE ["self"] →
  Dd K mg "read_wholes" gW ["reader","size"] →
  Dd K mg "read_rows" jP ["reader","size"] →
  Dd K mg "making_answer" fK ["slots","call","wholes","rows"] →
  Dd K mg "telling_answer" ff ["slots","call","wholes","rows"] →
  Dd K mg "section_answer" fj ["slots","call","wholes","rows"] →
  Dd K mg "lengths_join" gh ["first","second","axis"] →
  Dd K mg "rolled_row" fU ["row","by"] →
  Dd K mg "call_join" gP ["slots","k","axis","i","j"] →
  Dd K mg "call_roll" gO ["slots","k","axis","by","i"] →
  Dd K mg "call_repeat" fr ["slots","k","axis","times","i"] →
  Dd K mg "op_value" kX ["op","x","y"] →
  Dd K mg "op_cell" mK ["op","x","y"] →
  Dd K mg "scanned_row" g_ ["f","row"] →
  Dd K mg "folded_row" i4 ["f","row"] →
  Dd K mg "keep_reckoned" fJ ["slots","k","array"] →
  Dd K mg "with_ones_ahead" du ["lengths","rank"] →
  Dd K mg "meeting_lengths" et ["first","second"] →
  Dd K mg "reckoned_array" dO ["op","first","second","lengths"] →
  Dd K mg "fold_refusal" gn ["slots","k","f","axis","i"] →
  Dd K mg "call_both" jG ["slots","k","op","i","j"] →
  Dd K mg "call_fold" gL ["slots","k","f","axis","i"] →
  Dd K mg "call_scan" gK ["slots","k","f","axis","i"] →
  Dd K mg "ordered_row" dX ["row"] →
  Dd K mg "are_below" jA ["numbers","bound"] →
  Dd K mg "packed_cells" eF ["array","mask"] →
  Dd K mg "landed_cell" gU ["mode","standing","cell"] →
  Dd K mg "landed_array" gt ["array","mode","numbers","landing"] →
  Dd K mg "call_order" gd ["slots","k","axis","i"] →
  Dd K mg "call_pack" jB ["slots","k","i","j"] →
  Dd K mg "call_take" gN ["slots","k","axis","i","j"] →
  Dd K mg "call_land" jM ["slots","i","mode","j","l"] →
  Dd K mg "tables_fit" iD ["first","second"] →
  Dd K mg "product_sum" h_ ["row","column"] →
  Dd K mg "multiplied_cells" db ["first","second"] →
  Dd K mg "call_times" iE ["slots","k","i","j"] →
  Dd K mg "call_same" jx ["slots","i","j"] →
  Dd K mg "line_size" jH ["lengths"] →
  Dd K mg "text_of" iw ["array"] →
  Dd K mg "call_text" gM ["slots","i"] →
  oF K al "upcoming" "Reader.upcoming" eA ["self"] →
  oF K al "passes" "Reader.passes" fL ["self","number"] →
  Dd K mg "next_digit" i6 ["reader"] →
  Dd K mg "read_number" g9 ["reader","least","most"] →
  Dd K mg "read_cell" jI ["reader"] →
  Dd K mg "read_lengths" gk ["reader"] →
  Dd K mg "read_cells" iI ["reader","lengths"] →
  Dd K mg "read_array" i5 ["reader"] →
  Dd K mg "call_read" jL ["slots","k","text"] →
  Dd K mg "turning_answer" fe ["slots","call","wholes","rows"] →
  Dd K mg "reckoning_answer" dZ ["slots","call","wholes"] →
  Dd K mg "picking_answer" fb ["slots","call","wholes"] →
  Dd K mg "pair_answer" gX ["slots","call","wholes"] →
  Dd K mg "text_answer" hJ ["slots","call","wholes","rows"] →
  Dd K mg "call_answer" hE ["slots","call","wholes","rows"] →
  Dd K mg "next_answer" hZ ["slots","reader"] →
  qh K "answers" "answers" mB f fd -> fR P w K mg base pL 12 f fd ["calls"] (pA K)
theorem acd {Q : List Value -> Prop} (h : Q []) : ∀ u : List Value,u.length = 0 -> Q u
 | [],_ => h
theorem b9 {Q : List Value -> Prop} (h : ∀ a,Q [a]) : ∀ u : List Value,u.length = 1 -> Q u
 | [a],_ => h a
theorem a8 {Q : List Value -> Prop} (h : ∀ a b,Q [a,b]) : ∀ u : List Value,u.length = 2 -> Q u
 | [a,b],_ => h a b
theorem b8 {Q : List Value -> Prop} (h : ∀ a b c,Q [a,b,c]) : ∀ u : List Value,u.length = 3 -> Q u
 | [a,b,c],_ => h a b c
theorem b7 {Q : List Value -> Prop} (h : ∀ a b c d,Q [a,b,c,d]) : ∀ u : List Value,u.length = 4 -> Q u
 | [a,b,c,d],_ => h a b c d
theorem fE {Q : List Value -> Prop} (h : ∀ a b c d e,Q [a,b,c,d,e]) : ∀ u : List Value,u.length = 5 -> Q u
 | [a,b,c,d,e],_ => h a b c d e
theorem two {R : Prop} {T : Prop} (hc : T) (main : R) : R := main
set_option maxHeartbeats 0 in
theorem acw : PySem.Challenge.rw_arraydesk_s01_answers.wellSaid = true := by
 unfold PySem.W.OpenSpec.wellSaid PySem.W.looksOpen; simp only [Bool.and_eq_true]
 repeat' apply And.intro
 all_goals decide +kernel
end Go
namespace PySem.W.Fast
def tw15804001992248680179:=0
def tw9113217158003792541:=0
def tw14113190471371831238:=0
def tw8274801521074785119:=0
def tw18312200000686781113:=0
def tw9621374696904345592:=0
def tw16412649102292539266:=0
def tw17957592146524693829:=0
def tw2056023088694589473:=0
def tw17554180675883671066:=0
def tw10600586244914513508:=0
def tw3850051552424594361:=0
def tw10914691322173371374:=0
def tw2982918281862285276:=0
def tw8424741914741555465:=0
def tw14000957906180604765:=0
def tw8312840220936623805:=0
def tw12633149170273734585:=0
def tw4937732820093235889:=0
def tw6466938796519669193:=0
def tw16515137969391538781:=0
def tw9575339178056477533:=0
def tw9890701683667535766:=0
def tw370638939517395878:=0
def tw17120067560966113293:=0
def tw6476079340286703568:=0
def tw4439476503167321324:=0
def tw1824963527672570651:=0
def tw5002276734857352155:=0
def tw9768389442438028086:=0
def tw3785003240106581936:=0
def tw7442091370379334005:=0
def tw5032361532613098849:=0
def tw11106436145954150619:=0
def tw6413580446314477778:=0
def tw1989466493415272397:=0
def tw11567040539103595774:=0
def tw6182266646423275113:=0
def tw4645668863811513503:=0
def tw176590412764706200:=0
def tw6468776601430363:=0
def tw15746155111286350041:=0
def tw10134337144276965660:=0
def tw13814016394975851940:=0
def tw616955569819802960:=0
def tw6102634924920814075:=0
def tw10170046683677083806:=0
def tw3519843677899444794:=0
def tw15124109516480450959:=0
def tw572539717159612921:=0
def tw16182671914645287302:=0
def tw11333591040558246059:=0
def tw6429260281730118376:=0
def tw17073090486812271690:=0
def tw18343744640118497262:=0
def tw13165215104263160907:=0
def tw18416502251172516928:=0
def tw2278435719697598298:=0
def tw18375874212147943759:=0
def tw16872585300396142179:=0
def tw10160516042586466865:=0
def tw17660106896972580852:=0
def tw413554792789595264:=0
def tw11594158748272033780:=0
def tw9116155795316956680:=0
def tw14580075939921367488:=0
def tw17983304838426158405:=0
def tw13030187233820152471:=0
def tw8553220420725279933:=0
def tw7531836989447012171:=0
def tw11747380710314674982:=0
def tw10744654939175871540:=0
def tw6584168711693155299:=0
def tw12561444939669225638:=0
def tw14129523421501010108:=0
def tw17142582967572861758:=0
def tw5565795452456396991:=0
def tw10330424275578301382:=0
def tw12113063239141238773:=0
def tw6642958840073604133:=0
def tw4823174823486990679:=0
def tw4235403027589343600:=0
def tw3371455174040002185:=0
def tw6630203397686792551:=0
def tw10190224215970459399:=0
def tw14600090886334473213:=0
def tw4165200668827693434:=0
def tw9059553373994107053:=0
def tw1010651452322247778:=0
def tw7451842096049372984:=0
def tw10414251943300562791:=0
def tw6214190838116145758:=0
def tw8952307125221153696:=0
def tw3938661866844298550:=0
def tw17407333924697915481:=0
def tw8324874006773458283:=0
def tw4128693068303195149:=0
def tw17049595813706136192:=0
def tw8980661440999515843:=0
def tw6724692767161949028:=0
def tw9103731277588396560:=0
def tw6593825798220437918:=0
def tw4225918502534395334:=0
def tw6235497842658817351:=0
def tw5016816448937838562:=0
def tw5883709870986061829:=0
def tw8345715987416571219:=0
def tw5397368881784852383:=0
def tw16800071545197093205:=0
def tw12051532446286093797:=0
def tw10362151441025868840:=0
def tw5154666854354979772:=0
def tw2001446261403312309:=0
def tw13646486774256991796:=0
def tw10086828580655495384:=0
def tw7743387729456155262:=0
def tw488456155882775853:=0
def tw11030558529978743707:=0
def tw9582197934824482474:=0
def tw16769263234829216396:=0
def tw4062612213780889174:=0
def tw11544932871907262288:=0
def tw16672862869047488342:=0
def tw2893820520825672610:=0
def tw5481759660594574796:=0
def tw16036947285627613475:=0
def tw2264271029973518149:=0
def tw16534465010760919862:=0
def tw10795000003810253124:=0
def tw5309252670217174039:=0
def tw10898514499714954945:=0
def tw9328790284910505766:=0
def tw4265791964488087221:=0
def tw13543967281694716498:=0
def tw8210085659755965886:=0
def tw6752846266603693304:=0
def tw2511986882246238725:=0
def tw17712739559129628906:=0
def tw18296678454957158965:=0
def tw9263328491216271867:=0
def tw4441986298030764244:=0
def tw12747689299251599411:=0
def tw9947087521541500169:=0
def tw4124326144586019031:=0
def tw4051126095117780639:=0
def tw3089701348827939489:=0
def tw6273986437208518949:=0
def tw13836894123034597330:=0
def tw5953968940985098003:=0
def tw16351215893241315700:=0
def tw8906170611679223273:=0
def tw15881879999019356948:=0
def tw442921621580733718:=0
def tw8175680656112429838:=0
def tw13741755407296890857:=0
def tw14281830139247313294:=0
def tw579892214824331521:=0
def tw1091173720181566921:=0
def tw1395368624619994075:=0
def tw432469627757447229:=0
def tw16542793979958472727:=0
def tw13192287805113199269:=0
def tw6189948070340344969:=0
def tw488404145152397652:=0
def tw13754112821909139668:=0
def tw17681124398905224015:=0
def tw8086543040528548145:=0
def tw1896452159534900275:=0
def tw6098348506164697209:=0
def tw15358881017480260415:=0
def tw9467496672799133785:=0
def tw17159522800440658489:=0
def tw6163661872724457211:=0
def tw14295347434419495019:=0
def tw13302615483445325211:=0
def tw11966116770098759094:=0
def tw17412961907556797215:=0
def tw14309636320413186665:=0
def tw9329617496824821945:=0
def tw15954486295035642197:=0
def tw11463096729063794688:=0
def tw6050168082698369096:=0
def tw5371985275035914777:=0
def tw5047277749890735915:=0
def tw11505290035957901409:=0
def tw16142880481174634085:=0
def tw8094677959598276300:=0
def tw17538422689658873620:=0
def tw15426277123248401905:=0
def tw6418629130267364611:=0
def tw16988294986098701900:=0
def tw9818376468297533929:=0
def tw14440995073984311067:=0
def tw2349542341052238596:=0
def tw2716593155467493718:=0
def tw4415185107221495887:=0
def tw9303592223938933102:=0
def tw9568643594159359037:=0
def tw4118092046796277239:=0
def tw17644551066597230634:=0
def tw10575516866773331040:=0
def tw17398089225162708575:=0
def tw11653150686643713583:=0
def tw12531140218673160188:=0
def tw1845106423907724359:=0
def tw13185682670803858639:=0
def tw10096212173890506374:=0
def tw12525408888482182033:=0
def tw9061189727027604079:=0
def tw2741377276173039103:=0
def tw13097201258765178834:=0
def tw14832206821910229432:=0
def tw14933883095862373556:=0
def tw14094113833733597814:=0
def tw16165151318785454258:=0
def tw15321774166502614394:=0
def tw2058969720650211491:=0
def tw8432653499918718156:=0
def tw1258306586196207373:=0
def tw8359696481251044689:=0
def tw15526727899765971161:=0
def tw10947329719214449878:=0
def tw8406276763678598560:=0
def tw5679350339501746331:=0
def tw4106058832454723642:=0
def tw736681643963671523:=0
def tw17233852787255213741:=0
def tw5597278508774114250:=0
def tw4338160945096931215:=0
def tw4600260132504454848:=0
def tw8341649428562858644:=0
def tw1752237066444461149:=0
def tw2966741849170346068:=0
def tw3979772580308148926:=0
def tw1344925277613707995:=0
def tw7607148211257021461:=0
def tw12138409220584903557:=0
def tw3146873201910459241:=0
def tw12814982106088927625:=0
def tw2862423212777557740:=0
def tw14413664540011689661:=0
def tw4246239667314247509:=0
def tw14054013582119710013:=0
def tw15660878879526924965:=0
def tw1059225279893617882:=0
def tw5399476090499770796:=0
def tw8051840398121776278:=0
def tw6594525166530069095:=0
def tw16913064348326227989:=0
def tw14971931540568219146:=0
def tw5033432857257347512:=0
def tw6919705023479360329:=0
def tw12906137496229445483:=0
def tw2321607512703974172:=0
def tw1290911489612139371:=0
def tw14928046461179654704:=0
def tw17061437943755565703:=0
def tw14755321295563512933:=0
def tw11478484706102331819:=0
def tw14951617912338632084:=0
def tw14511132781990775645:=0
def tw3801848834764331764:=0
def tw9771104436064289494:=0
def tw1221277141968615257:=0
def tw5042887751862085072:=0
def tw1663394348726874282:=0
def tw17285518967827532633:=0
def tw8436418615316483037:=0
def tw14636367552541713942:=0
def tw5020527978341642787:=0
def tw17507014537748479997:=0
def tw9755419410080801925:=0
def tw17403067509209963994:=0
def tw5600905255926627680:=0
def tw15504484163528910611:=0
def tw2842940294944933564:=0
def tw13516119807338455582:=0
def tw16918338600115390428:=0
def tw3202197148523356496:=0
def tw5115926510834732012:=0
def tw17757401839369712320:=0
def tw15008162988822095155:=0
def tw2351420376241112321:=0
def tw11755806626014083230:=0
def tw12107952943469519586:=0
def tw13525331838460627075:=0
def tw16098202704311747842:=0
def tw10739250597953165420:=0
def tw10453731404387008707:=0
def tw6088629869316525109:=0
def tw7327607234763195764:=0
def tw3074602524807649778:=0
def tw580375966627279179:=0
def tw8321107761436352331:=0
def tw16557579351783379990:=0
def tw12801715935529666319:=0
def tw10465586856069476207:=0
def tw781836961736147506:=0
def tw4240781928683746673:=0
def tw2312396140234686825:=0
def tw16869459779485768092:=0
end PySem.W.Fast
section
open PySem PySem.W PyProof.Rows
set_option maxRecDepth 100000 in
set_option maxHeartbeats 0 in
theorem Go.main_of (wH : Go.abN) : PySem.Challenge.rw_arraydesk_s01_answers.Holds := by
 have acw := Go.acw; apply Go.two
 case main =>
  w_on; k_headS; (case hw => exact ⟨[.list [.int 4,.int 0]],by decide +kernel,by decide +kernel⟩)
 k_fillS
 refine L2.ze (r := PySem.Challenge.rw_arraydesk_s01_answers) (k := 12) (CX := L2.pL) (ps := ["calls"]) (sp := Go.pA) (by decide +kernel) rfl rfl ⟨rfl,by decide,by decide⟩ (fun w h Y => PySem.W.kIn_of Y) ?F ?S (fun _ _ _ _ z => z)
 case F =>
  intro w mg fa h Y KX G hmg
  refine' L2.aak (x := "Array") KX G ?a ?pg ?hd ?po ?sa ?mk ?kc ?_; (case a => k_is); (case pg => k_is); (case hd => k_is); (case po => k_is); (case sa => k_is); (case mk => k_is); (case kc => k_is)
  intro hm_Array cl_Array mk_Array kc_Array
  refine' L2.we (x := "lengths") cl_Array ?a ?_; (case a => k_is)
  intro no_Array_lengths
  refine' L2.we (x := "cells") cl_Array ?a ?_; (case a => k_is)
  intro no_Array_cells
  refine' L2.aak (x := "Reader") KX G ?a ?pg ?hd ?po ?sa ?mk ?kc ?_; (case a => k_is); (case pg => k_is); (case hd => k_is); (case po => k_is); (case sa => k_is); (case mk => k_is); (case kc => k_is)
  intro hm_Reader cl_Reader mk_Reader kc_Reader
  refine' L2.we (x := "numbers") cl_Reader ?a ?_; (case a => k_is)
  intro no_Reader_numbers
  refine' L2.we (x := "reached") cl_Reader ?a ?_; (case a => k_is)
  intro no_Reader_reached
  refine' L2.eO (x := "len") KX G ?a ?_; (case a => k_is)
  intro b_len
  refine' L2.eO (x := "range") KX G ?a ?_; (case a => k_is)
  intro b_range
  refine' L2.eO (x := "zip") KX G ?a ?_; (case a => k_is)
  intro b_zip
  refine' L2.eO (x := "reversed") KX G ?a ?_; (case a => k_is)
  intro b_reversed
  refine' L2.eO (x := "list") KX G ?a ?_; (case a => k_is)
  intro b_list
  refine' L2.eO (x := "enumerate") KX G ?a ?_; (case a => k_is)
  intro b_enumerate
  refine' L2.eO (x := "min") KX G ?a ?_; (case a => k_is)
  intro b_min
  refine' L2.eO (x := "max") KX G ?a ?_; (case a => k_is)
  intro b_max
  refine' L2.eO (x := "sorted") KX G ?a ?_; (case a => k_is)
  intro b_sorted
  refine' L2.eO (x := "str") KX G ?a ?_; (case a => k_is)
  intro b_str
  refine' L2.eO (x := "ord") KX G ?a ?_; (case a => k_is)
  intro b_ord
  refine' L2.bR (x := "MOST_LENGTHS") (i := (4)) KX G ?a ?_; (case a => k_is)
  intro g_MOST_LENGTHS
  refine' L2.bR (x := "MOST_CELLS") (i := (1024)) KX G ?a ?_; (case a => k_is)
  intro g_MOST_CELLS
  refine' L2.bR (x := "MOST_COUNT") (i := (1024)) KX G ?a ?_; (case a => k_is)
  intro g_MOST_COUNT
  refine' L2.bR (x := "GREATEST_CELL") (i := (1000000000000000)) KX G ?a ?_; (case a => k_is)
  intro g_GREATEST_CELL
  refine' L2.bR (x := "SLOTS") (i := (8)) KX G ?a ?_; (case a => k_is)
  intro g_SLOTS
  refine' L2.bR (x := "WRONG") (i := (-1)) KX G ?a ?_; (case a => k_is)
  intro g_WRONG
  refine' L2.bR (x := "EMPTY") (i := (-2)) KX G ?a ?_; (case a => k_is)
  intro g_EMPTY
  refine' L2.bR (x := "UNLIKE") (i := (-3)) KX G ?a ?_; (case a => k_is)
  intro g_UNLIKE
  refine' L2.bR (x := "NOWHERE") (i := (-4)) KX G ?a ?_; (case a => k_is)
  intro g_NOWHERE
  refine' L2.bR (x := "BEYOND") (i := (-6)) KX G ?a ?_; (case a => k_is)
  intro g_BEYOND
  refine' L2.bR (x := "NOTHING") (i := (-5)) KX G ?a ?_; (case a => k_is)
  intro g_NOTHING
  refine' L2.bR (x := "NO_TEXT") (i := (-8)) KX G ?a ?_; (case a => k_is)
  intro g_NO_TEXT
  refine' L2.bR (x := "MOST_TIMES") (i := (1024)) KX G ?a ?_; (case a => k_is)
  intro g_MOST_TIMES
  refine' L2.bR (x := "MOST_BYTES") (i := (8192)) KX G ?a ?_; (case a => k_is)
  intro g_MOST_BYTES
  refine' L2.bR (x := "SUM") (i := (0)) KX G ?a ?_; (case a => k_is)
  intro g_SUM
  refine' L2.bR (x := "DIFFERENCE") (i := (1)) KX G ?a ?_; (case a => k_is)
  intro g_DIFFERENCE
  refine' L2.bR (x := "PRODUCT") (i := (2)) KX G ?a ?_; (case a => k_is)
  intro g_PRODUCT
  refine' L2.bR (x := "LEAST") (i := (3)) KX G ?a ?_; (case a => k_is)
  intro g_LEAST
  refine' L2.bR (x := "MOST") (i := (4)) KX G ?a ?_; (case a => k_is)
  intro g_MOST
  refine' L2.bR (x := "QUOTIENT") (i := (5)) KX G ?a ?_; (case a => k_is)
  intro g_QUOTIENT
  refine' L2.bR (x := "REST") (i := (6)) KX G ?a ?_; (case a => k_is)
  intro g_REST
  refine' L2.bR (x := "BELOW") (i := (7)) KX G ?a ?_; (case a => k_is)
  intro g_BELOW
  refine' L2.bR (x := "GREATEST_OP") (i := (8)) KX G ?a ?_; (case a => k_is)
  intro g_GREATEST_OP
  refine' L2.bR (x := "GREATEST_MODE") (i := (3)) KX G ?a ?_; (case a => k_is)
  intro g_GREATEST_MODE
  refine' L2.adl (x := "FOLD_OPS") [.int 0,.int 2,.int 3,.int 4] KX G ?b ?l ?hz ?hv ?_; (case b => k_is); (case l => k_is); (case hz => decide); (case hv => exact .cons ⟨_,rfl⟩ (.cons ⟨_,rfl⟩ (.cons ⟨_,rfl⟩ (.cons ⟨_,rfl⟩ (.nil)))))
  intro t_FOLD_OPS
  refine' L2.acz (x := "LANDING_OPS") (f := Go.rJ) KX G ?a ?l ?t ?hf ?_; (case a => k_is); (case l => k_is); (case t => decide +kernel)
  case hf =>
   intro p n hs
   rcases Go.y6 hs with ⟨rfl,rfl⟩ | ⟨rfl,rfl⟩ | ⟨rfl,rfl⟩
   ·exact ⟨_,rfl⟩
   ·exact ⟨_,rfl⟩
   ·exact ⟨_,rfl⟩
  intro d_LANDING_OPS; have T : Go.Txt _ mg _ := ⟨b_len,b_range,b_zip,b_reversed,b_list,b_enumerate,b_min,b_max,b_sorted,b_str,b_ord,g_MOST_LENGTHS,g_MOST_CELLS,g_MOST_COUNT,g_GREATEST_CELL,g_SLOTS,g_WRONG,g_EMPTY,g_UNLIKE,g_NOWHERE,g_BEYOND,g_NOTHING,g_NO_TEXT,g_MOST_TIMES,g_MOST_BYTES,g_SUM,g_DIFFERENCE,g_PRODUCT,g_LEAST,g_MOST,g_QUOTIENT,g_REST,g_BELOW,g_GREATEST_OP,g_GREATEST_MODE,t_FOLD_OPS,d_LANDING_OPS,cl_Array,no_Array_lengths,no_Array_cells⟩; have aA : Go.iC _ _ := ⟨cl_Reader,no_Reader_numbers,no_Reader_reached⟩
  refine' L2.abF (sh := PyYqlnca.shape) KX G ?a ?l ?t ?hf ?_; (case a => k_is); (case l => k_is); (case t => decide +kernel)
  case hf =>
   intro p n m hs
   rcases Ma.mO hs with ⟨rfl,rfl,rfl⟩ | ⟨rfl,rfl,rfl⟩ | ⟨rfl,rfl,rfl⟩ | ⟨rfl,rfl,rfl⟩ | ⟨rfl,rfl,rfl⟩ | ⟨rfl,rfl,rfl⟩ | ⟨rfl,rfl,rfl⟩ | ⟨rfl,rfl,rfl⟩ | ⟨rfl,rfl,rfl⟩ | ⟨rfl,rfl,rfl⟩ | ⟨rfl,rfl,rfl⟩ | ⟨rfl,rfl,rfl⟩ | ⟨rfl,rfl,rfl⟩ | ⟨rfl,rfl,rfl⟩ | ⟨rfl,rfl,rfl⟩ | ⟨rfl,rfl,rfl⟩ | ⟨rfl,rfl,rfl⟩ | ⟨rfl,rfl,rfl⟩ | ⟨rfl,rfl,rfl⟩ | ⟨rfl,rfl,rfl⟩ | ⟨rfl,rfl,rfl⟩ | ⟨rfl,rfl,rfl⟩ | ⟨rfl,rfl,rfl⟩ | ⟨rfl,rfl,rfl⟩ | ⟨rfl,rfl,rfl⟩ | ⟨rfl,rfl,rfl⟩
   ·refine' L2.bF ?b ?l; (case b => rfl); (case l => k_is)
   ·refine' L2.bF ?b ?l; (case b => rfl); (case l => k_is)
   ·refine' L2.bF ?b ?l; (case b => rfl); (case l => k_is)
   ·refine' L2.bF ?b ?l; (case b => rfl); (case l => k_is)
   ·refine' L2.bF ?b ?l; (case b => rfl); (case l => k_is)
   ·refine' L2.bF ?b ?l; (case b => rfl); (case l => k_is)
   ·refine' L2.bF ?b ?l; (case b => rfl); (case l => k_is)
   ·refine' L2.bF ?b ?l; (case b => rfl); (case l => k_is)
   ·refine' L2.bF ?b ?l; (case b => rfl); (case l => k_is)
   ·refine' L2.bF ?b ?l; (case b => rfl); (case l => k_is)
   ·refine' L2.bF ?b ?l; (case b => rfl); (case l => k_is)
   ·refine' L2.bF ?b ?l; (case b => rfl); (case l => k_is)
   ·refine' L2.bF ?b ?l; (case b => rfl); (case l => k_is)
   ·refine' L2.bF ?b ?l; (case b => rfl); (case l => k_is)
   ·refine' L2.bF ?b ?l; (case b => rfl); (case l => k_is)
   ·refine' L2.bF ?b ?l; (case b => rfl); (case l => k_is)
   ·refine' L2.bF ?b ?l; (case b => rfl); (case l => k_is)
   ·refine' L2.bF ?b ?l; (case b => rfl); (case l => k_is)
   ·refine' L2.bF ?b ?l; (case b => rfl); (case l => k_is)
   ·refine' L2.bF ?b ?l; (case b => rfl); (case l => k_is)
   ·refine' L2.bF ?b ?l; (case b => rfl); (case l => k_is)
   ·refine' L2.bF ?b ?l; (case b => rfl); (case l => k_is)
   ·refine' L2.bF ?b ?l; (case b => rfl); (case l => k_is)
   ·refine' L2.bF ?b ?l; (case b => rfl); (case l => k_is)
   ·refine' L2.bF ?b ?l; (case b => rfl); (case l => k_is)
   ·refine' L2.bF ?b ?l; (case b => rfl); (case l => k_is)
  intro TF
  refine' L2.aC "cell_count" Go.iF ["lengths"] KX G ?a ?l ?c ?k (fun _ _ _ _ _ _ => Go.b9 fun _ => rfl) ?_; (case a => k_is); (case l => k_is); (case c => k_is); (case k => k_is)
  intro lF
  refine' L2.aC "is_shape" Go.kY ["lengths"] KX G ?a ?l ?c ?k (fun _ _ _ _ _ _ => Go.b9 fun _ => rfl) ?_; (case a => k_is); (case l => k_is); (case c => k_is); (case k => k_is)
  intro oI
  refine' L2.aC "is_place" Go.kU ["lengths","place"] KX G ?a ?l ?c ?k (fun _ _ _ _ _ _ => Go.a8 fun _ _ => rfl) ?_; (case a => k_is); (case l => k_is); (case c => k_is); (case k => k_is)
  intro pB
  refine' L2.aC "number_of" Go.jR ["lengths","place"] KX G ?a ?l ?c ?k (fun _ _ _ _ _ _ => Go.a8 fun _ _ => rfl) ?_; (case a => k_is); (case l => k_is); (case c => k_is); (case k => k_is)
  intro nh
  refine' L2.aC "place_of" Go.lf ["lengths","cell"] KX G ?a ?l ?c ?k (fun _ _ _ _ _ _ => Go.a8 fun _ _ => rfl) ?_; (case a => k_is); (case l => k_is); (case c => k_is); (case k => k_is)
  intro o9
  refine' L2.aC "places_of" Go.gR ["lengths"] KX G ?a ?l ?c ?k (fun _ _ _ _ _ _ => Go.b9 fun _ => rfl) ?_; (case a => k_is); (case l => k_is); (case c => k_is); (case k => k_is)
  intro m7
  refine' L2.aai (x := "Array") (qual := "Array.__init__") (st := Go.fh) (ps := ["self","lengths","cells"]) hm_Array mk_Array kc_Array ?a ?i ?l ?c ?k (fun _ _ _ _ _ _ => Go.b8 fun _ _ _ => rfl) ?_; (case a => k_is); (case i => k_is); (case l => k_is); (case c => k_is); (case k => k_is)
  intro u_
  refine' L2.aC "is_cell" Go.mG ["number"] KX G ?a ?l ?c ?k (fun _ _ _ _ _ _ => Go.b9 fun _ => rfl) ?_; (case a => k_is); (case l => k_is); (case c => k_is); (case k => k_is)
  intro qY
  refine' L2.aC "cell_at" Go.mr ["array","place"] KX G ?a ?l ?c ?k (fun _ _ _ _ _ _ => Go.a8 fun _ _ => rfl) ?_; (case a => k_is); (case l => k_is); (case c => k_is); (case k => k_is)
  intro qc
  refine' L2.aC "empty_slots" Go.fw [] KX G ?a ?l ?c ?k (fun _ _ _ _ _ _ => Go.acd rfl) ?_; (case a => k_is); (case l => k_is); (case c => k_is); (case k => k_is)
  intro kf
  refine' L2.aC "target_refusal" Go.fk ["k"] KX G ?a ?l ?c ?k (fun _ _ _ _ _ _ => Go.b9 fun _ => rfl) ?_; (case a => k_is); (case l => k_is); (case c => k_is); (case k => k_is)
  intro ir
  refine' L2.aC "source_refusal" Go.eY ["slots","i"] KX G ?a ?l ?c ?k (fun _ _ _ _ _ _ => Go.a8 fun _ _ => rfl) ?_; (case a => k_is); (case l => k_is); (case c => k_is); (case k => k_is)
  intro im
  refine' L2.aC "sources_refusal" Go.eB ["slots","sources"] KX G ?a ?l ?c ?k (fun _ _ _ _ _ _ => Go.a8 fun _ _ => rfl) ?_; (case a => k_is); (case l => k_is); (case c => k_is); (case k => k_is)
  intro gC
  refine' L2.aC "slots_refusal" Go.fI ["slots","k","sources"] KX G ?a ?l ?c ?k (fun _ _ _ _ _ _ => Go.b8 fun _ _ _ => rfl) ?_; (case a => k_is); (case l => k_is); (case c => k_is); (case k => k_is)
  intro iV
  refine' L2.aC "keep" Go.tp ["slots","k","array"] KX G ?a ?l ?c ?k (fun _ _ _ _ _ _ => Go.b8 fun _ _ _ => rfl) ?_; (case a => k_is); (case l => k_is); (case c => k_is); (case k => k_is)
  intro wB
  refine' L2.aC "are_cells" Go.jw ["numbers"] KX G ?a ?l ?c ?k (fun _ _ _ _ _ _ => Go.b9 fun _ => rfl) ?_; (case a => k_is); (case l => k_is); (case c => k_is); (case k => k_is)
  intro mU
  refine' L2.aC "call_make" Go.jN ["slots","k","lengths","cells"] KX G ?a ?l ?c ?k (fun _ _ _ _ _ _ => Go.b7 fun _ _ _ _ => rfl) ?_; (case a => k_is); (case l => k_is); (case c => k_is); (case k => k_is)
  intro np
  refine' L2.aC "call_fill" Go.gT ["slots","k","v","lengths"] KX G ?a ?l ?c ?k (fun _ _ _ _ _ _ => Go.b7 fun _ _ _ _ => rfl) ?_; (case a => k_is); (case l => k_is); (case c => k_is); (case k => k_is)
  intro nv
  refine' L2.aC "call_count" Go.ge ["slots","k","start","step","lengths"] KX G ?a ?l ?c ?k (fun _ _ _ _ _ _ => Go.fE fun _ _ _ _ _ => rfl) ?_; (case a => k_is); (case l => k_is); (case c => k_is); (case k => k_is)
  intro lU
  refine' L2.aC "call_drop" Go.jz ["slots","k"] KX G ?a ?l ?c ?k (fun _ _ _ _ _ _ => Go.a8 fun _ _ => rfl) ?_; (case a => k_is); (case l => k_is); (case c => k_is); (case k => k_is)
  intro nA
  refine' L2.aC "call_shape" Go.iX ["slots","i"] KX G ?a ?l ?c ?k (fun _ _ _ _ _ _ => Go.a8 fun _ _ => rfl) ?_; (case a => k_is); (case l => k_is); (case c => k_is); (case k => k_is)
  intro lQ
  refine' L2.aC "call_cells" Go.iQ ["slots","i"] KX G ?a ?l ?c ?k (fun _ _ _ _ _ _ => Go.a8 fun _ _ => rfl) ?_; (case a => k_is); (case l => k_is); (case c => k_is); (case k => k_is)
  intro l9
  refine' L2.aC "call_at" Go.mv ["slots","i","place"] KX G ?a ?l ?c ?k (fun _ _ _ _ _ _ => Go.b8 fun _ _ _ => rfl) ?_; (case a => k_is); (case l => k_is); (case c => k_is); (case k => k_is)
  intro qm
  refine' L2.aC "call_set" Go.k9 ["slots","i","v","place"] KX G ?a ?l ?c ?k (fun _ _ _ _ _ _ => Go.b7 fun _ _ _ _ => rfl) ?_; (case a => k_is); (case l => k_is); (case c => k_is); (case k => k_is)
  intro o6
  refine' L2.aC "spreads" Go.ms ["small","great"] KX G ?a ?l ?c ?k (fun _ _ _ _ _ _ => Go.a8 fun _ _ => rfl) ?_; (case a => k_is); (case l => k_is); (case c => k_is); (case k => k_is)
  intro qU
  refine' L2.aC "place_before_spread" Go.cx ["small","place"] KX G ?a ?l ?c ?k (fun _ _ _ _ _ _ => Go.a8 fun _ _ => rfl) ?_; (case a => k_is); (case l => k_is); (case c => k_is); (case k => k_is)
  intro eR
  refine' L2.aC "spread_array" Go.eM ["array","lengths"] KX G ?a ?l ?c ?k (fun _ _ _ _ _ _ => Go.a8 fun _ _ => rfl) ?_; (case a => k_is); (case l => k_is); (case c => k_is); (case k => k_is)
  intro jr
  refine' L2.aC "section_lengths" Go.dq ["cuts"] KX G ?a ?l ?c ?k (fun _ _ _ _ _ _ => Go.b9 fun _ => rfl) ?_; (case a => k_is); (case l => k_is); (case c => k_is); (case k => k_is)
  intro gB
  refine' L2.aC "are_cuts" Go.lh ["lengths","cuts"] KX G ?a ?l ?c ?k (fun _ _ _ _ _ _ => Go.a8 fun _ _ => rfl) ?_; (case a => k_is); (case l => k_is); (case c => k_is); (case k => k_is)
  intro oR
  refine' L2.aC "cuts_lie_within" Go.eq ["lengths","cuts"] KX G ?a ?l ?c ?k (fun _ _ _ _ _ _ => Go.a8 fun _ _ => rfl) ?_; (case a => k_is); (case l => k_is); (case c => k_is); (case k => k_is)
  intro gF
  refine' L2.aC "place_before_cut" Go.de ["cuts","place"] KX G ?a ?l ?c ?k (fun _ _ _ _ _ _ => Go.a8 fun _ _ => rfl) ?_; (case a => k_is); (case l => k_is); (case c => k_is); (case k => k_is)
  intro fW
  refine' L2.aC "section_numbers" Go.dt ["lengths","cuts"] KX G ?a ?l ?c ?k (fun _ _ _ _ _ _ => Go.a8 fun _ _ => rfl) ?_; (case a => k_is); (case l => k_is); (case c => k_is); (case k => k_is)
  intro gI
  refine' L2.aC "call_spread" Go.g8 ["slots","k","i","lengths"] KX G ?a ?l ?c ?k (fun _ _ _ _ _ _ => Go.b7 fun _ _ _ _ => rfl) ?_; (case a => k_is); (case l => k_is); (case c => k_is); (case k => k_is)
  intro kb
  refine' L2.aC "call_cut" Go.iT ["slots","k","i","cuts"] KX G ?a ?l ?c ?k (fun _ _ _ _ _ _ => Go.b7 fun _ _ _ _ => rfl) ?_; (case a => k_is); (case l => k_is); (case c => k_is); (case k => k_is)
  intro o4
  refine' L2.aC "call_put" Go.lg ["slots","i","j","cuts"] KX G ?a ?l ?c ?k (fun _ _ _ _ _ _ => Go.b7 fun _ _ _ _ => rfl) ?_; (case a => k_is); (case l => k_is); (case c => k_is); (case k => k_is)
  intro pf
  refine' L2.aC "place_before_turn" Go.cT ["axes","place"] KX G ?a ?l ?c ?k (fun _ _ _ _ _ _ => Go.a8 fun _ _ => rfl) ?_; (case a => k_is); (case l => k_is); (case c => k_is); (case k => k_is)
  intro fF
  refine' L2.aC "turned_array" Go.dM ["array","axes"] KX G ?a ?l ?c ?k (fun _ _ _ _ _ _ => Go.a8 fun _ _ => rfl) ?_; (case a => k_is); (case l => k_is); (case c => k_is); (case k => k_is)
  intro jv
  refine' L2.aC "call_turn" Go.jO ["slots","k","i","axes"] KX G ?a ?l ?c ?k (fun _ _ _ _ _ _ => Go.b7 fun _ _ _ _ => rfl) ?_; (case a => k_is); (case l => k_is); (case c => k_is); (case k => k_is)
  intro m6
  refine' L2.aC "without_axis" Go.gy ["numbers","axis"] KX G ?a ?l ?c ?k (fun _ _ _ _ _ _ => Go.a8 fun _ _ => rfl) ?_; (case a => k_is); (case l => k_is); (case c => k_is); (case k => k_is)
  intro jf
  refine' L2.aC "with_axis" Go.jK ["numbers","axis","number"] KX G ?a ?l ?c ?k (fun _ _ _ _ _ _ => Go.b8 fun _ _ _ => rfl) ?_; (case a => k_is); (case l => k_is); (case c => k_is); (case k => k_is)
  intro nj
  refine' L2.aC "with_length" Go.gY ["lengths","axis","length"] KX G ?a ?l ?c ?k (fun _ _ _ _ _ _ => Go.b8 fun _ _ _ => rfl) ?_; (case a => k_is); (case l => k_is); (case c => k_is); (case k => k_is)
  intro kj
  refine' L2.aC "axis_refusal" Go.gq ["slots","k","sources","axis"] KX G ?a ?l ?c ?k (fun _ _ _ _ _ _ => Go.b7 fun _ _ _ _ => rfl) ?_; (case a => k_is); (case l => k_is); (case c => k_is); (case k => k_is)
  intro jl
  refine' L2.aC "row_at" Go.lw ["array","axis","others"] KX G ?a ?l ?c ?k (fun _ _ _ _ _ _ => Go.b8 fun _ _ _ => rfl) ?_; (case a => k_is); (case l => k_is); (case c => k_is); (case k => k_is)
  intro sF
  refine' L2.aC "rows_of" Go.jY ["array","axis"] KX G ?a ?l ?c ?k (fun _ _ _ _ _ _ => Go.a8 fun _ _ => rfl) ?_; (case a => k_is); (case l => k_is); (case c => k_is); (case k => k_is)
  intro rb
  refine' L2.aC "array_of_rows" Go.fH ["lengths","axis","rows"] KX G ?a ?l ?c ?k (fun _ _ _ _ _ _ => Go.b8 fun _ _ _ => rfl) ?_; (case a => k_is); (case l => k_is); (case c => k_is); (case k => k_is)
  intro iK
  refine' L2.aai (x := "Reader") (qual := "Reader.__init__") (st := Go.eC) (ps := ["self","numbers"]) hm_Reader mk_Reader kc_Reader ?a ?i ?l ?c ?k (fun _ _ _ _ _ _ => Go.a8 fun _ _ => rfl) ?_; (case a => k_is); (case i => k_is); (case l => k_is); (case c => k_is); (case k => k_is)
  intro sM
  refine' L2.qp (m := "is_done") (qual := "Reader.is_done") (st := Go.fc) (ps := ["self"]) cl_Reader ?a ?i ?l ?c ?k (fun _ _ _ _ _ _ => Go.b9 fun _ => rfl) ?_; (case a => k_is); (case i => k_is); (case l => k_is); (case c => k_is); (case k => k_is)
  intro pZ
  refine' L2.qp (m := "read_whole") (qual := "Reader.read_whole") (st := Go.dP) (ps := ["self"]) cl_Reader ?a ?i ?l ?c ?k (fun _ _ _ _ _ _ => Go.b9 fun _ => rfl) ?_; (case a => k_is); (case i => k_is); (case l => k_is); (case c => k_is); (case k => k_is)
  intro me
  refine' L2.qp (m := "read_row") (qual := "Reader.read_row") (st := Go.eE) (ps := ["self"]) cl_Reader ?a ?i ?l ?c ?k (fun _ _ _ _ _ _ => Go.b9 fun _ => rfl) ?_; (case a => k_is); (case i => k_is); (case l => k_is); (case c => k_is); (case k => k_is)
  intro ph
  refine' L2.aC "read_wholes" Go.gW ["reader","size"] KX G ?a ?l ?c ?k (fun _ _ _ _ _ _ => Go.a8 fun _ _ => rfl) ?_; (case a => k_is); (case l => k_is); (case c => k_is); (case k => k_is)
  intro km
  refine' L2.aC "read_rows" Go.jP ["reader","size"] KX G ?a ?l ?c ?k (fun _ _ _ _ _ _ => Go.a8 fun _ _ => rfl) ?_; (case a => k_is); (case l => k_is); (case c => k_is); (case k => k_is)
  intro nY
  refine' L2.aC "making_answer" Go.fK ["slots","call","wholes","rows"] KX G ?a ?l ?c ?k (fun _ _ _ _ _ _ => Go.b7 fun _ _ _ _ => rfl) ?_; (case a => k_is); (case l => k_is); (case c => k_is); (case k => k_is)
  intro iL
  refine' L2.aC "telling_answer" Go.ff ["slots","call","wholes","rows"] KX G ?a ?l ?c ?k (fun _ _ _ _ _ _ => Go.b7 fun _ _ _ _ => rfl) ?_; (case a => k_is); (case l => k_is); (case c => k_is); (case k => k_is)
  intro ip
  refine' L2.aC "section_answer" Go.fj ["slots","call","wholes","rows"] KX G ?a ?l ?c ?k (fun _ _ _ _ _ _ => Go.b7 fun _ _ _ _ => rfl) ?_; (case a => k_is); (case l => k_is); (case c => k_is); (case k => k_is)
  intro iq
  refine' L2.aC "lengths_join" Go.gh ["first","second","axis"] KX G ?a ?l ?c ?k (fun _ _ _ _ _ _ => Go.b8 fun _ _ _ => rfl) ?_; (case a => k_is); (case l => k_is); (case c => k_is); (case k => k_is)
  intro jm
  refine' L2.aC "rolled_row" Go.fU ["row","by"] KX G ?a ?l ?c ?k (fun _ _ _ _ _ _ => Go.a8 fun _ _ => rfl) ?_; (case a => k_is); (case l => k_is); (case c => k_is); (case k => k_is)
  intro lv
  refine' L2.aC "call_join" Go.gP ["slots","k","axis","i","j"] KX G ?a ?l ?c ?k (fun _ _ _ _ _ _ => Go.fE fun _ _ _ _ _ => rfl) ?_; (case a => k_is); (case l => k_is); (case c => k_is); (case k => k_is)
  intro nt
  refine' L2.aC "call_roll" Go.gO ["slots","k","axis","by","i"] KX G ?a ?l ?c ?k (fun _ _ _ _ _ _ => Go.fE fun _ _ _ _ _ => rfl) ?_; (case a => k_is); (case l => k_is); (case c => k_is); (case k => k_is)
  intro nB
  refine' L2.aC "call_repeat" Go.fr ["slots","k","axis","times","i"] KX G ?a ?l ?c ?k (fun _ _ _ _ _ _ => Go.fE fun _ _ _ _ _ => rfl) ?_; (case a => k_is); (case l => k_is); (case c => k_is); (case k => k_is)
  intro kt
  refine' L2.aC "op_value" Go.kX ["op","x","y"] KX G ?a ?l ?c ?k (fun _ _ _ _ _ _ => Go.b8 fun _ _ _ => rfl) ?_; (case a => k_is); (case l => k_is); (case c => k_is); (case k => k_is)
  intro pc
  refine' L2.aC "op_cell" Go.mK ["op","x","y"] KX G ?a ?l ?c ?k (fun _ _ _ _ _ _ => Go.b8 fun _ _ _ => rfl) ?_; (case a => k_is); (case l => k_is); (case c => k_is); (case k => k_is)
  intro p5
  refine' L2.aC "scanned_row" Go.g_ ["f","row"] KX G ?a ?l ?c ?k (fun _ _ _ _ _ _ => Go.a8 fun _ _ => rfl) ?_; (case a => k_is); (case l => k_is); (case c => k_is); (case k => k_is)
  intro kr
  refine' L2.aC "folded_row" Go.i4 ["f","row"] KX G ?a ?l ?c ?k (fun _ _ _ _ _ _ => Go.a8 fun _ _ => rfl) ?_; (case a => k_is); (case l => k_is); (case c => k_is); (case k => k_is)
  intro lO
  refine' L2.aC "keep_reckoned" Go.fJ ["slots","k","array"] KX G ?a ?l ?c ?k (fun _ _ _ _ _ _ => Go.b8 fun _ _ _ => rfl) ?_; (case a => k_is); (case l => k_is); (case c => k_is); (case k => k_is)
  intro iY
  refine' L2.aC "with_ones_ahead" Go.du ["lengths","rank"] KX G ?a ?l ?c ?k (fun _ _ _ _ _ _ => Go.a8 fun _ _ => rfl) ?_; (case a => k_is); (case l => k_is); (case c => k_is); (case k => k_is)
  intro gH
  refine' L2.aC "meeting_lengths" Go.et ["first","second"] KX G ?a ?l ?c ?k (fun _ _ _ _ _ _ => Go.a8 fun _ _ => rfl) ?_; (case a => k_is); (case l => k_is); (case c => k_is); (case k => k_is)
  intro gG
  refine' L2.aC "reckoned_array" Go.dO ["op","first","second","lengths"] KX G ?a ?l ?c ?k (fun _ _ _ _ _ _ => Go.b7 fun _ _ _ _ => rfl) ?_; (case a => k_is); (case l => k_is); (case c => k_is); (case k => k_is)
  intro ic
  refine' L2.aC "fold_refusal" Go.gn ["slots","k","f","axis","i"] KX G ?a ?l ?c ?k (fun _ _ _ _ _ _ => Go.fE fun _ _ _ _ _ => rfl) ?_; (case a => k_is); (case l => k_is); (case c => k_is); (case k => k_is)
  intro jc
  refine' L2.aC "call_both" Go.jG ["slots","k","op","i","j"] KX G ?a ?l ?c ?k (fun _ _ _ _ _ _ => Go.fE fun _ _ _ _ _ => rfl) ?_; (case a => k_is); (case l => k_is); (case c => k_is); (case k => k_is)
  intro nH
  refine' L2.aC "call_fold" Go.gL ["slots","k","f","axis","i"] KX G ?a ?l ?c ?k (fun _ _ _ _ _ _ => Go.fE fun _ _ _ _ _ => rfl) ?_; (case a => k_is); (case l => k_is); (case c => k_is); (case k => k_is)
  intro nS
  refine' L2.aC "call_scan" Go.gK ["slots","k","f","axis","i"] KX G ?a ?l ?c ?k (fun _ _ _ _ _ _ => Go.fE fun _ _ _ _ _ => rfl) ?_; (case a => k_is); (case l => k_is); (case c => k_is); (case k => k_is)
  intro nU
  refine' L2.aC "ordered_row" Go.dX ["row"] KX G ?a ?l ?c ?k (fun _ _ _ _ _ _ => Go.b9 fun _ => rfl) ?_; (case a => k_is); (case l => k_is); (case c => k_is); (case k => k_is)
  intro kg
  refine' L2.aC "are_below" Go.jA ["numbers","bound"] KX G ?a ?l ?c ?k (fun _ _ _ _ _ _ => Go.a8 fun _ _ => rfl) ?_; (case a => k_is); (case l => k_is); (case c => k_is); (case k => k_is)
  intro nV
  refine' L2.aC "packed_cells" Go.eF ["array","mask"] KX G ?a ?l ?c ?k (fun _ _ _ _ _ _ => Go.a8 fun _ _ => rfl) ?_; (case a => k_is); (case l => k_is); (case c => k_is); (case k => k_is)
  intro jd
  refine' L2.aC "landed_cell" Go.gU ["mode","standing","cell"] KX G ?a ?l ?c ?k (fun _ _ _ _ _ _ => Go.b8 fun _ _ _ => rfl) ?_; (case a => k_is); (case l => k_is); (case c => k_is); (case k => k_is)
  intro kz
  refine' L2.aC "landed_array" Go.gt ["array","mode","numbers","landing"] KX G ?a ?l ?c ?k (fun _ _ _ _ _ _ => Go.b7 fun _ _ _ _ => rfl) ?_; (case a => k_is); (case l => k_is); (case c => k_is); (case k => k_is)
  intro jj
  refine' L2.aC "call_order" Go.gd ["slots","k","axis","i"] KX G ?a ?l ?c ?k (fun _ _ _ _ _ _ => Go.b7 fun _ _ _ _ => rfl) ?_; (case a => k_is); (case l => k_is); (case c => k_is); (case k => k_is)
  intro lW
  refine' L2.aC "call_pack" Go.jB ["slots","k","i","j"] KX G ?a ?l ?c ?k (fun _ _ _ _ _ _ => Go.b7 fun _ _ _ _ => rfl) ?_; (case a => k_is); (case l => k_is); (case c => k_is); (case k => k_is)
  intro nu
  refine' L2.aC "call_take" Go.gN ["slots","k","axis","i","j"] KX G ?a ?l ?c ?k (fun _ _ _ _ _ _ => Go.fE fun _ _ _ _ _ => rfl) ?_; (case a => k_is); (case l => k_is); (case c => k_is); (case k => k_is)
  intro nG
  refine' L2.aC "call_land" Go.jM ["slots","i","mode","j","l"] KX G ?a ?l ?c ?k (fun _ _ _ _ _ _ => Go.fE fun _ _ _ _ _ => rfl) ?_; (case a => k_is); (case l => k_is); (case c => k_is); (case k => k_is)
  intro mT
  refine' L2.aC "tables_fit" Go.iD ["first","second"] KX G ?a ?l ?c ?k (fun _ _ _ _ _ _ => Go.a8 fun _ _ => rfl) ?_; (case a => k_is); (case l => k_is); (case c => k_is); (case k => k_is)
  intro lM
  refine' L2.aC "product_sum" Go.h_ ["row","column"] KX G ?a ?l ?c ?k (fun _ _ _ _ _ _ => Go.a8 fun _ _ => rfl) ?_; (case a => k_is); (case l => k_is); (case c => k_is); (case k => k_is)
  intro kI
  refine' L2.aC "multiplied_cells" Go.db ["first","second"] KX G ?a ?l ?c ?k (fun _ _ _ _ _ _ => Go.a8 fun _ _ => rfl) ?_; (case a => k_is); (case l => k_is); (case c => k_is); (case k => k_is)
  intro fN
  refine' L2.aC "call_times" Go.iE ["slots","k","i","j"] KX G ?a ?l ?c ?k (fun _ _ _ _ _ _ => Go.b7 fun _ _ _ _ => rfl) ?_; (case a => k_is); (case l => k_is); (case c => k_is); (case k => k_is)
  intro lE
  refine' L2.aC "call_same" Go.jx ["slots","i","j"] KX G ?a ?l ?c ?k (fun _ _ _ _ _ _ => Go.b8 fun _ _ _ => rfl) ?_; (case a => k_is); (case l => k_is); (case c => k_is); (case k => k_is)
  intro mX
  refine' L2.aC "line_size" Go.jH ["lengths"] KX G ?a ?l ?c ?k (fun _ _ _ _ _ _ => Go.b9 fun _ => rfl) ?_; (case a => k_is); (case l => k_is); (case c => k_is); (case k => k_is)
  intro nF
  refine' L2.aC "text_of" Go.iw ["array"] KX G ?a ?l ?c ?k (fun _ _ _ _ _ _ => Go.b9 fun _ => rfl) ?_; (case a => k_is); (case l => k_is); (case c => k_is); (case k => k_is)
  intro qy
  refine' L2.aC "call_text" Go.gM ["slots","i"] KX G ?a ?l ?c ?k (fun _ _ _ _ _ _ => Go.a8 fun _ _ => rfl) ?_; (case a => k_is); (case l => k_is); (case c => k_is); (case k => k_is)
  intro nI
  refine' L2.qp (m := "upcoming") (qual := "Reader.upcoming") (st := Go.eA) (ps := ["self"]) cl_Reader ?a ?i ?l ?c ?k (fun _ _ _ _ _ _ => Go.b9 fun _ => rfl) ?_; (case a => k_is); (case i => k_is); (case l => k_is); (case c => k_is); (case k => k_is)
  intro oZ
  refine' L2.qp (m := "passes") (qual := "Reader.passes") (st := Go.fL) (ps := ["self","number"]) cl_Reader ?a ?i ?l ?c ?k (fun _ _ _ _ _ _ => Go.a8 fun _ _ => rfl) ?_; (case a => k_is); (case i => k_is); (case l => k_is); (case c => k_is); (case k => k_is)
  intro sR
  refine' L2.aC "next_digit" Go.i6 ["reader"] KX G ?a ?l ?c ?k (fun _ _ _ _ _ _ => Go.b9 fun _ => rfl) ?_; (case a => k_is); (case l => k_is); (case c => k_is); (case k => k_is)
  intro lC
  refine' L2.aC "read_number" Go.g9 ["reader","least","most"] KX G ?a ?l ?c ?k (fun _ _ _ _ _ _ => Go.b8 fun _ _ _ => rfl) ?_; (case a => k_is); (case l => k_is); (case c => k_is); (case k => k_is)
  intro kH
  refine' L2.aC "read_cell" Go.jI ["reader"] KX G ?a ?l ?c ?k (fun _ _ _ _ _ _ => Go.b9 fun _ => rfl) ?_; (case a => k_is); (case l => k_is); (case c => k_is); (case k => k_is)
  intro n9
  refine' L2.aC "read_lengths" Go.gk ["reader"] KX G ?a ?l ?c ?k (fun _ _ _ _ _ _ => Go.b9 fun _ => rfl) ?_; (case a => k_is); (case l => k_is); (case c => k_is); (case k => k_is)
  intro js
  refine' L2.aC "read_cells" Go.iI ["reader","lengths"] KX G ?a ?l ?c ?k (fun _ _ _ _ _ _ => Go.a8 fun _ _ => rfl) ?_; (case a => k_is); (case l => k_is); (case c => k_is); (case k => k_is)
  intro lN
  refine' L2.aC "read_array" Go.i5 ["reader"] KX G ?a ?l ?c ?k (fun _ _ _ _ _ _ => Go.b9 fun _ => rfl) ?_; (case a => k_is); (case l => k_is); (case c => k_is); (case k => k_is)
  intro lY
  refine' L2.aC "call_read" Go.jL ["slots","k","text"] KX G ?a ?l ?c ?k (fun _ _ _ _ _ _ => Go.b8 fun _ _ _ => rfl) ?_; (case a => k_is); (case l => k_is); (case c => k_is); (case k => k_is)
  intro nq
  refine' L2.aC "turning_answer" Go.fe ["slots","call","wholes","rows"] KX G ?a ?l ?c ?k (fun _ _ _ _ _ _ => Go.b7 fun _ _ _ _ => rfl) ?_; (case a => k_is); (case l => k_is); (case c => k_is); (case k => k_is)
  intro ig
  refine' L2.aC "reckoning_answer" Go.dZ ["slots","call","wholes"] KX G ?a ?l ?c ?k (fun _ _ _ _ _ _ => Go.b8 fun _ _ _ => rfl) ?_; (case a => k_is); (case l => k_is); (case c => k_is); (case k => k_is)
  intro fQ
  refine' L2.aC "picking_answer" Go.fb ["slots","call","wholes"] KX G ?a ?l ?c ?k (fun _ _ _ _ _ _ => Go.b8 fun _ _ _ => rfl) ?_; (case a => k_is); (case l => k_is); (case c => k_is); (case k => k_is)
  intro ij
  refine' L2.aC "pair_answer" Go.gX ["slots","call","wholes"] KX G ?a ?l ?c ?k (fun _ _ _ _ _ _ => Go.b8 fun _ _ _ => rfl) ?_; (case a => k_is); (case l => k_is); (case c => k_is); (case k => k_is)
  intro kh
  refine' L2.aC "text_answer" Go.hJ ["slots","call","wholes","rows"] KX G ?a ?l ?c ?k (fun _ _ _ _ _ _ => Go.b7 fun _ _ _ _ => rfl) ?_; (case a => k_is); (case l => k_is); (case c => k_is); (case k => k_is)
  intro kC
  refine' L2.aC "call_answer" Go.hE ["slots","call","wholes","rows"] KX G ?a ?l ?c ?k (fun _ _ _ _ _ _ => Go.b7 fun _ _ _ _ => rfl) ?_; (case a => k_is); (case l => k_is); (case c => k_is); (case k => k_is)
  intro ko
  refine' L2.aC "next_answer" Go.hZ ["slots","reader"] KX G ?a ?l ?c ?k (fun _ _ _ _ _ _ => Go.a8 fun _ _ => rfl) ?_; (case a => k_is); (case l => k_is); (case c => k_is); (case k => k_is)
  intro kD
  refine' L2.adG (x := "answers") (qual := "answers") (st := Go.mB) (ps := ["calls"]) KX G ?a ?l ?c ?k (fun _ _ _ _ _ _ => Go.b9 fun _ => rfl) ?_; (case a => k_is); (case l => k_is); (case c => k_is); (case k => k_is)
  intro f fd hf F hb
  have e : fa = f := by
   have := hmg.symm.trans hf; cases this; rfl
  subst e; refine ⟨fd,hb,fun base _ _ => wH _ _ _ _ base _ _ _ fd T aA TF lF oI pB nh o9 m7 u_ qY qc kf ir im gC iV wB mU np nv lU nA lQ l9 qm o6 qU eR jr gB oR gF fW gI kb o4 pf fF jv m6 jf nj kj jl sF rb iK sM pZ me ph km nY iL ip iq jm lv nt nB kt pc p5 kr lO iY gH gG ic jc nH nS nU kg nV jd kz jj lW nu nG mT lM kI fN lE mX nF qy nI oZ sR lC kH n9 js lN lY nq ig fQ ij kh kC ko kD F⟩
 case S =>
  intro K H xs a hO hwi hask hx
  cases hx with
  | cons h1 h2 =>
   cases h2
   cases h1 with
   | lst hs ha =>
    have e := L2.yR a.1 _ ha; subst e; exact ⟨_,a.1,rfl,hs,hask,fun H' p hp => .lst (L2.ag.of hp) (L2.yE _)⟩
end

namespace Ma
structure bT (p : Int) (W : List Int) (X : List (List Int)) : Prop where
 ex : ∃ k m,PyYqlnca.shape p = some (k,m) /\ W.length = k /\ X.length = m
 ins : PyInside.call PyYqlnca.bound ((p :: W) :: X) = true
 ask : AyNeutral.asked1 ((p :: W) :: X) = true
def Rg (lo hi : Int) (m : Nat) (r : List Int) : Prop := (∀ z ∈ r,lo <= z /\ z <= hi) /\ r.length <= m
abbrev pd := Rg 0 4294967295 2000
abbrev abD := Rg (-9223372036854775808) 9223372036854775807 2000
abbrev acF := Rg 0 255 15900
theorem wn {z : Int} (h : PyInside.within 0 4294967295 z = true) : ∃ n : Nat,z = n := by
 simp only [PyInside.within,Bool.and_eq_true,decide_eq_true_eq] at h; exact ⟨z.toNat,by omega⟩
theorem ga {lo hi : Int} {m : Nat} {r : List Int} {b c : Bool} (h : (b && (decide (0 <= r.length) && decide (r.length <= m) && r.all (PyInside.within lo hi) && c)) = true) : Rg lo hi m r := by
 simp only [Bool.and_eq_true,List.all_eq_true,decide_eq_true_eq,PyInside.within] at h; exact ⟨h.2.1.2,h.2.1.1.2⟩
theorem rw2 {lo hi : Int} {m : Nat} {r : List Int} {b c d : Bool} (h : (b && (d && (decide (0 <= r.length) && decide (r.length <= m) && r.all (PyInside.within lo hi) && c))) = true) : Rg lo hi m r := by
 rw [← Bool.and_assoc] at h; exact ga h
theorem wN {W : List Int} {r : Bool} (hl : W.length = 1) (h : (PyInside.each [(0,4294967295)] W && r) = true) : ∃ (a : Nat),W = [(a : Int)] := by
 obtain ⟨a,rfl⟩ := c8 hl; simp only [PyInside.each,Bool.and_eq_true] at h; obtain ⟨na,ea⟩ := wn h.1.1; exact ⟨na,by rw [ea]⟩
theorem zZ {W : List Int} {r : Bool} (hl : W.length = 2) (h : (PyInside.each [(0,4294967295),(0,4294967295)] W && r) = true) : ∃ (a : Nat) (b : Nat),W = [(a : Int),(b : Int)] := by
 obtain ⟨a,b,rfl⟩ := l0 hl; simp only [PyInside.each,Bool.and_eq_true] at h; obtain ⟨na,ea⟩ := wn h.1.1; obtain ⟨nb,eb⟩ := wn h.1.2.1; exact ⟨na,nb,by rw [ea,eb]⟩
theorem wNZ {W : List Int} {r : Bool} (hl : W.length = 2) (h : (PyInside.each [(0,4294967295),(-9223372036854775808,9223372036854775807)] W && r) = true) : ∃ (a : Nat) (b : Int),W = [(a : Int),b] := by
 obtain ⟨a,b,rfl⟩ := l0 hl; simp only [PyInside.each,Bool.and_eq_true] at h; obtain ⟨na,ea⟩ := wn h.1.1; exact ⟨na,b,by rw [ea]⟩
theorem aa0 {W : List Int} {r : Bool} (hl : W.length = 3) (h : (PyInside.each [(0,4294967295),(0,4294967295),(0,4294967295)] W && r) = true) : ∃ (a : Nat) (b : Nat) (c : Nat),W = [(a : Int),(b : Int),(c : Int)] := by
 obtain ⟨a,b,c,rfl⟩ := vc hl; simp only [PyInside.each,Bool.and_eq_true] at h; obtain ⟨na,ea⟩ := wn h.1.1; obtain ⟨nb,eb⟩ := wn h.1.2.1; obtain ⟨nc,ec⟩ := wn h.1.2.2.1; exact ⟨na,nb,nc,by rw [ea,eb,ec]⟩
theorem aeh {W : List Int} {r : Bool} (hl : W.length = 3) (h : (PyInside.each [(0,4294967295),(-9223372036854775808,9223372036854775807),(-9223372036854775808,9223372036854775807)] W && r) = true) : ∃ (a : Nat) (b : Int) (c : Int),W = [(a : Int),b,c] := by
 obtain ⟨a,b,c,rfl⟩ := vc hl; simp only [PyInside.each,Bool.and_eq_true] at h; obtain ⟨na,ea⟩ := wn h.1.1; exact ⟨na,b,c,by rw [ea]⟩
theorem pz {W : List Int} {r : Bool} (hl : W.length = 4) (h : (PyInside.each [(0,4294967295),(0,4294967295),(0,4294967295),(0,4294967295)] W && r) = true) : ∃ (a : Nat) (b : Nat) (c : Nat) (d : Nat),W = [(a : Int),(b : Int),(c : Int),(d : Int)] := by
 obtain ⟨a,b,c,d,rfl⟩ := nJ hl; simp only [PyInside.each,Bool.and_eq_true] at h; obtain ⟨na,ea⟩ := wn h.1.1; obtain ⟨nb,eb⟩ := wn h.1.2.1; obtain ⟨nc,ec⟩ := wn h.1.2.2.1; obtain ⟨nd,ed⟩ := wn h.1.2.2.2.1; exact ⟨na,nb,nc,nd,by rw [ea,eb,ec,ed]⟩
theorem adu {W : List Int} {r : Bool} (hl : W.length = 4) (h : (PyInside.each [(0,4294967295),(0,4294967295),(-9223372036854775808,9223372036854775807),(0,4294967295)] W && r) = true) : ∃ (a : Nat) (b : Nat) (c : Int) (d : Nat),W = [(a : Int),(b : Int),c,(d : Int)] := by
 obtain ⟨a,b,c,d,rfl⟩ := nJ hl; simp only [PyInside.each,Bool.and_eq_true] at h; obtain ⟨na,ea⟩ := wn h.1.1; obtain ⟨nb,eb⟩ := wn h.1.2.1; obtain ⟨nd,ed⟩ := wn h.1.2.2.2.1; exact ⟨na,nb,c,nd,by rw [ea,eb,ed]⟩
theorem adW {W : List Int} {X : List (List Int)} (V : bT 1 W X) : ∃ (x0 : Nat) (r0 r1 : List Int),W = [(x0 : Int)] /\ X = [r0,r1] /\ pd r0 /\ abD r1 /\ AyNeutral.callOf ((1 :: W) :: X) = some (.make x0 (AyNeutral.nats r0) r1) := by
 obtain ⟨⟨k,m,hsh,hW,hX⟩,hi,_⟩ := V; cases hsh; obtain ⟨x0,rfl⟩ := wN hW hi; obtain ⟨r0,r1,rfl⟩ := l0 hX; exact ⟨x0,r0,r1,rfl,rfl,ga hi,rw2 hi,rfl⟩
theorem ad2 {W : List Int} {X : List (List Int)} (V : bT 2 W X) : ∃ (x0 : Nat) (x1 : Int) (r0 : List Int),W = [(x0 : Int),x1] /\ X = [r0] /\ pd r0 /\ AyNeutral.callOf ((2 :: W) :: X) = some (.fill x0 x1 (AyNeutral.nats r0)) := by
 obtain ⟨⟨k,m,hsh,hW,hX⟩,hi,_⟩ := V; cases hsh; obtain ⟨x0,x1,rfl⟩ := wNZ hW hi; obtain ⟨r0,rfl⟩ := c8 hX; exact ⟨x0,x1,r0,rfl,rfl,ga hi,rfl⟩
theorem adT {W : List Int} {X : List (List Int)} (V : bT 3 W X) : ∃ (x0 : Nat) (x1 : Int) (x2 : Int) (r0 : List Int),W = [(x0 : Int),x1,x2] /\ X = [r0] /\ pd r0 /\ AyNeutral.callOf ((3 :: W) :: X) = some (.count x0 x1 x2 (AyNeutral.nats r0)) := by
 obtain ⟨⟨k,m,hsh,hW,hX⟩,hi,_⟩ := V; cases hsh; obtain ⟨x0,x1,x2,rfl⟩ := aeh hW hi; obtain ⟨r0,rfl⟩ := c8 hX; exact ⟨x0,x1,x2,r0,rfl,rfl,ga hi,rfl⟩
theorem aej {W : List Int} {X : List (List Int)} (V : bT 4 W X) : ∃ (x0 : Nat),W = [(x0 : Int)] /\ X = [] /\ AyNeutral.callOf ((4 :: W) :: X) = some (.drop x0) := by
 obtain ⟨⟨k,m,hsh,hW,hX⟩,hi,_⟩ := V; cases hsh; obtain ⟨x0,rfl⟩ := wN hW hi; cases ck hX; exact ⟨x0,rfl,rfl,rfl⟩
theorem ad9 {W : List Int} {X : List (List Int)} (V : bT 5 W X) : ∃ (x0 : Nat),W = [(x0 : Int)] /\ X = [] /\ AyNeutral.callOf ((5 :: W) :: X) = some (.shape x0) := by
 obtain ⟨⟨k,m,hsh,hW,hX⟩,hi,_⟩ := V; cases hsh; obtain ⟨x0,rfl⟩ := wN hW hi; cases ck hX; exact ⟨x0,rfl,rfl,rfl⟩
theorem ad7 {W : List Int} {X : List (List Int)} (V : bT 6 W X) : ∃ (x0 : Nat),W = [(x0 : Int)] /\ X = [] /\ AyNeutral.callOf ((6 :: W) :: X) = some (.cells x0) := by
 obtain ⟨⟨k,m,hsh,hW,hX⟩,hi,_⟩ := V; cases hsh; obtain ⟨x0,rfl⟩ := wN hW hi; cases ck hX; exact ⟨x0,rfl,rfl,rfl⟩
theorem aea {W : List Int} {X : List (List Int)} (V : bT 7 W X) : ∃ (x0 : Nat) (r0 : List Int),W = [(x0 : Int)] /\ X = [r0] /\ pd r0 /\ AyNeutral.callOf ((7 :: W) :: X) = some (.at_ x0 (AyNeutral.nats r0)) := by
 obtain ⟨⟨k,m,hsh,hW,hX⟩,hi,_⟩ := V; cases hsh; obtain ⟨x0,rfl⟩ := wN hW hi; obtain ⟨r0,rfl⟩ := c8 hX; exact ⟨x0,r0,rfl,rfl,ga hi,rfl⟩
theorem adM {W : List Int} {X : List (List Int)} (V : bT 8 W X) : ∃ (x0 : Nat) (x1 : Int) (r0 : List Int),W = [(x0 : Int),x1] /\ X = [r0] /\ pd r0 /\ AyNeutral.callOf ((8 :: W) :: X) = some (.set x0 x1 (AyNeutral.nats r0)) := by
 obtain ⟨⟨k,m,hsh,hW,hX⟩,hi,_⟩ := V; cases hsh; obtain ⟨x0,x1,rfl⟩ := wNZ hW hi; obtain ⟨r0,rfl⟩ := c8 hX; exact ⟨x0,x1,r0,rfl,rfl,ga hi,rfl⟩
theorem aen {W : List Int} {X : List (List Int)} (V : bT 9 W X) : ∃ (x0 : Nat) (x1 : Nat) (r0 : List Int),W = [(x0 : Int),(x1 : Int)] /\ X = [r0] /\ pd r0 /\ AyNeutral.callOf ((9 :: W) :: X) = some (.spread x0 x1 (AyNeutral.nats r0)) := by
 obtain ⟨⟨k,m,hsh,hW,hX⟩,hi,_⟩ := V; cases hsh; obtain ⟨x0,x1,rfl⟩ := zZ hW hi; obtain ⟨r0,rfl⟩ := c8 hX; exact ⟨x0,x1,r0,rfl,rfl,ga hi,rfl⟩
theorem adk {W : List Int} {X : List (List Int)} (V : bT 10 W X) : ∃ (x0 : Nat) (x1 : Nat) (r0 : List Int),W = [(x0 : Int),(x1 : Int)] /\ X = [r0] /\ abD r0 /\ AyNeutral.callOf ((10 :: W) :: X) = some (.cut x0 x1 r0) := by
 obtain ⟨⟨k,m,hsh,hW,hX⟩,hi,_⟩ := V; cases hsh; obtain ⟨x0,x1,rfl⟩ := zZ hW hi; obtain ⟨r0,rfl⟩ := c8 hX; exact ⟨x0,x1,r0,rfl,rfl,ga hi,rfl⟩
theorem adE {W : List Int} {X : List (List Int)} (V : bT 11 W X) : ∃ (x0 : Nat) (x1 : Nat) (r0 : List Int),W = [(x0 : Int),(x1 : Int)] /\ X = [r0] /\ abD r0 /\ AyNeutral.callOf ((11 :: W) :: X) = some (.put x0 x1 r0) := by
 obtain ⟨⟨k,m,hsh,hW,hX⟩,hi,_⟩ := V; cases hsh; obtain ⟨x0,x1,rfl⟩ := zZ hW hi; obtain ⟨r0,rfl⟩ := c8 hX; exact ⟨x0,x1,r0,rfl,rfl,ga hi,rfl⟩
theorem ac4 {W : List Int} {X : List (List Int)} (V : bT 12 W X) : ∃ (x0 : Nat) (x1 : Nat) (r0 : List Int),W = [(x0 : Int),(x1 : Int)] /\ X = [r0] /\ pd r0 /\ AyNeutral.callOf ((12 :: W) :: X) = some (.turn x0 x1 (AyNeutral.nats r0)) := by
 obtain ⟨⟨k,m,hsh,hW,hX⟩,hi,_⟩ := V; cases hsh; obtain ⟨x0,x1,rfl⟩ := zZ hW hi; obtain ⟨r0,rfl⟩ := c8 hX; exact ⟨x0,x1,r0,rfl,rfl,ga hi,rfl⟩
theorem ac9 {W : List Int} {X : List (List Int)} (V : bT 13 W X) : ∃ (x0 : Nat) (x1 : Nat) (x2 : Nat) (x3 : Nat),W = [(x0 : Int),(x1 : Int),(x2 : Int),(x3 : Int)] /\ X = [] /\ AyNeutral.callOf ((13 :: W) :: X) = some (.join x0 x1 x2 x3) := by
 obtain ⟨⟨k,m,hsh,hW,hX⟩,hi,_⟩ := V; cases hsh; obtain ⟨x0,x1,x2,x3,rfl⟩ := pz hW hi; cases ck hX; exact ⟨x0,x1,x2,x3,rfl,rfl,rfl⟩
theorem ade {W : List Int} {X : List (List Int)} (V : bT 14 W X) : ∃ (x0 : Nat) (x1 : Nat) (x2 : Int) (x3 : Nat),W = [(x0 : Int),(x1 : Int),x2,(x3 : Int)] /\ X = [] /\ AyNeutral.callOf ((14 :: W) :: X) = some (.roll x0 x1 x2 x3) := by
 obtain ⟨⟨k,m,hsh,hW,hX⟩,hi,_⟩ := V; cases hsh; obtain ⟨x0,x1,x2,x3,rfl⟩ := adu hW hi; cases ck hX; exact ⟨x0,x1,x2,x3,rfl,rfl,rfl⟩
theorem ac6 {W : List Int} {X : List (List Int)} (V : bT 15 W X) : ∃ (x0 : Nat) (x1 : Nat) (x2 : Nat) (x3 : Nat),W = [(x0 : Int),(x1 : Int),(x2 : Int),(x3 : Int)] /\ X = [] /\ AyNeutral.callOf ((15 :: W) :: X) = some (.repeat_ x0 x1 x2 x3) := by
 obtain ⟨⟨k,m,hsh,hW,hX⟩,hi,_⟩ := V; cases hsh; obtain ⟨x0,x1,x2,x3,rfl⟩ := pz hW hi; cases ck hX; exact ⟨x0,x1,x2,x3,rfl,rfl,rfl⟩
theorem ac3 {W : List Int} {X : List (List Int)} (V : bT 16 W X) : ∃ (x0 : Nat) (x1 : Nat) (x2 : Nat) (x3 : Nat),W = [(x0 : Int),(x1 : Int),(x2 : Int),(x3 : Int)] /\ X = [] /\ AyNeutral.callOf ((16 :: W) :: X) = some (.both x0 x1 x2 x3) := by
 obtain ⟨⟨k,m,hsh,hW,hX⟩,hi,_⟩ := V; cases hsh; obtain ⟨x0,x1,x2,x3,rfl⟩ := pz hW hi; cases ck hX; exact ⟨x0,x1,x2,x3,rfl,rfl,rfl⟩
theorem adr {W : List Int} {X : List (List Int)} (V : bT 17 W X) : ∃ (x0 : Nat) (x1 : Nat) (x2 : Nat) (x3 : Nat),W = [(x0 : Int),(x1 : Int),(x2 : Int),(x3 : Int)] /\ X = [] /\ AyNeutral.callOf ((17 :: W) :: X) = some (.fold x0 x1 x2 x3) := by
 obtain ⟨⟨k,m,hsh,hW,hX⟩,hi,_⟩ := V; cases hsh; obtain ⟨x0,x1,x2,x3,rfl⟩ := pz hW hi; cases ck hX; exact ⟨x0,x1,x2,x3,rfl,rfl,rfl⟩
theorem adz {W : List Int} {X : List (List Int)} (V : bT 18 W X) : ∃ (x0 : Nat) (x1 : Nat) (x2 : Nat) (x3 : Nat),W = [(x0 : Int),(x1 : Int),(x2 : Int),(x3 : Int)] /\ X = [] /\ AyNeutral.callOf ((18 :: W) :: X) = some (.scan x0 x1 x2 x3) := by
 obtain ⟨⟨k,m,hsh,hW,hX⟩,hi,_⟩ := V; cases hsh; obtain ⟨x0,x1,x2,x3,rfl⟩ := pz hW hi; cases ck hX; exact ⟨x0,x1,x2,x3,rfl,rfl,rfl⟩
theorem adH {W : List Int} {X : List (List Int)} (V : bT 19 W X) : ∃ (x0 : Nat) (x1 : Nat) (x2 : Nat),W = [(x0 : Int),(x1 : Int),(x2 : Int)] /\ X = [] /\ AyNeutral.callOf ((19 :: W) :: X) = some (.order x0 x1 x2) := by
 obtain ⟨⟨k,m,hsh,hW,hX⟩,hi,_⟩ := V; cases hsh; obtain ⟨x0,x1,x2,rfl⟩ := aa0 hW hi; cases ck hX; exact ⟨x0,x1,x2,rfl,rfl,rfl⟩
theorem adp {W : List Int} {X : List (List Int)} (V : bT 20 W X) : ∃ (x0 : Nat) (x1 : Nat) (x2 : Nat) (x3 : Nat),W = [(x0 : Int),(x1 : Int),(x2 : Int),(x3 : Int)] /\ X = [] /\ AyNeutral.callOf ((20 :: W) :: X) = some (.take x0 x1 x2 x3) := by
 obtain ⟨⟨k,m,hsh,hW,hX⟩,hi,_⟩ := V; cases hsh; obtain ⟨x0,x1,x2,x3,rfl⟩ := pz hW hi; cases ck hX; exact ⟨x0,x1,x2,x3,rfl,rfl,rfl⟩
theorem adx {W : List Int} {X : List (List Int)} (V : bT 21 W X) : ∃ (x0 : Nat) (x1 : Nat) (x2 : Nat),W = [(x0 : Int),(x1 : Int),(x2 : Int)] /\ X = [] /\ AyNeutral.callOf ((21 :: W) :: X) = some (.pack x0 x1 x2) := by
 obtain ⟨⟨k,m,hsh,hW,hX⟩,hi,_⟩ := V; cases hsh; obtain ⟨x0,x1,x2,rfl⟩ := aa0 hW hi; cases ck hX; exact ⟨x0,x1,x2,rfl,rfl,rfl⟩
theorem adD {W : List Int} {X : List (List Int)} (V : bT 22 W X) : ∃ (x0 : Nat) (x1 : Nat) (x2 : Nat) (x3 : Nat),W = [(x0 : Int),(x1 : Int),(x2 : Int),(x3 : Int)] /\ X = [] /\ AyNeutral.callOf ((22 :: W) :: X) = some (.land x0 x1 x2 x3) := by
 obtain ⟨⟨k,m,hsh,hW,hX⟩,hi,_⟩ := V; cases hsh; obtain ⟨x0,x1,x2,x3,rfl⟩ := pz hW hi; cases ck hX; exact ⟨x0,x1,x2,x3,rfl,rfl,rfl⟩
theorem adm {W : List Int} {X : List (List Int)} (V : bT 23 W X) : ∃ (x0 : Nat) (x1 : Nat) (x2 : Nat),W = [(x0 : Int),(x1 : Int),(x2 : Int)] /\ X = [] /\ AyNeutral.callOf ((23 :: W) :: X) = some (.times x0 x1 x2) := by
 obtain ⟨⟨k,m,hsh,hW,hX⟩,hi,_⟩ := V; cases hsh; obtain ⟨x0,x1,x2,rfl⟩ := aa0 hW hi; cases ck hX; exact ⟨x0,x1,x2,rfl,rfl,rfl⟩
theorem adv {W : List Int} {X : List (List Int)} (V : bT 24 W X) : ∃ (x0 : Nat) (x1 : Nat),W = [(x0 : Int),(x1 : Int)] /\ X = [] /\ AyNeutral.callOf ((24 :: W) :: X) = some (.same x0 x1) := by
 obtain ⟨⟨k,m,hsh,hW,hX⟩,hi,_⟩ := V; cases hsh; obtain ⟨x0,x1,rfl⟩ := zZ hW hi; cases ck hX; exact ⟨x0,x1,rfl,rfl,rfl⟩
theorem ac5 {W : List Int} {X : List (List Int)} (V : bT 25 W X) : ∃ (x0 : Nat),W = [(x0 : Int)] /\ X = [] /\ AyNeutral.callOf ((25 :: W) :: X) = some (.text x0) := by
 obtain ⟨⟨k,m,hsh,hW,hX⟩,hi,_⟩ := V; cases hsh; obtain ⟨x0,rfl⟩ := wN hW hi; cases ck hX; exact ⟨x0,rfl,rfl,rfl⟩
theorem ac2 {W : List Int} {X : List (List Int)} (V : bT 26 W X) : ∃ (x0 : Nat) (r0 : List Int),W = [(x0 : Int)] /\ X = [r0] /\ acF r0 /\ AyNeutral.callOf ((26 :: W) :: X) = some (.read x0 (AyNeutral.nats r0)) := by
 obtain ⟨⟨k,m,hsh,hW,hX⟩,hi,_⟩ := V; cases hsh; obtain ⟨x0,rfl⟩ := wN hW hi; obtain ⟨r0,rfl⟩ := c8 hX; exact ⟨x0,r0,rfl,rfl,ga hi,rfl⟩
end Ma

namespace Ma
open Ad
theorem allOf_map {α : Type} : ∀ {l : List (Option α)} {r : List α},allOf l = some r ↔ l = r.map some
 | [],r => by
  constructor
  ·intro h; have : r = [] := (Option.some.inj h).symm; rw [this]; rfl
  ·intro h
   cases r with
   | nil => rfl
   | cons _ _ => cases h
 | none :: l,r => by
  constructor
  ·intro h; cases h
  ·intro h
   cases r with
   | nil => cases h
   | cons _ _ => cases h
 | some x :: l,r => by
  have ih : ∀ {r : List α},allOf l = some r ↔ l = r.map some := allOf_map; show (allOf l).map (fun r => x :: r) = some r ↔ _
  constructor
  ·intro h
   cases e : allOf l with
   | none => rw [e] at h; cases h
   | some q =>
    rw [e] at h; have : x :: q = r := Option.some.inj h; rw [← this,List.map_cons,ih.mp e]
  ·intro h
   cases r with
   | nil => cases h
   | cons y q =>
    have h1 := List.cons.inj h; have h2 : x = y := Option.some.inj h1.1; rw [ih.mpr h1.2,h2]; rfl
theorem gx {α : Type} : ∀ {l : List (Option α)},none ∈ l -> allOf l = none
 | none :: l,_ => rfl
 | some x :: l,h => by
  have h2 : none ∈ l := by
   rcases List.mem_cons.mp h with e | e
   ·cases e
   ·exact e
  show (allOf l).map (fun r => x :: r) = none; rw [gx h2]; rfl
theorem mt {α : Type} {l : List (Option α)} (h : none ∉ l) : ∃ r,allOf l = some r := by
 cases e : allOf l with
 | some r => exact ⟨r,rfl⟩
 | none =>
  exfalso
  induction l with
  | nil => cases e
  | cons x l ih =>
   cases x with
   | none => exact h (List.mem_cons_self ..)
   | some x =>
    have e2 : (allOf l).map (fun r => x :: r) = none := e
    cases e3 : allOf l with
    | none => exact ih (fun z => h (List.mem_cons_of_mem _ z)) e3
    | some r => rw [e3] at e2; cases e2
theorem uM {op : Nat} {x y z : Int} (h : opOf op x y = some z) : cellFine z = true := by
 unfold opOf at h; simp only at h; obtain ⟨r,_,hr⟩ := Option.bind_eq_some_iff.mp h
 split at hr
 ·cases hr
  assumption
 ·cases hr
theorem lc : ∀ {s p : List Nat},In s p -> placeOf s (cellOf s p) = p
 | [],[],_ => rfl
 | x :: l,i :: p,h => by
  have hlt := In.lt h.2; have hp : 0 < product_ l := by omega
  show (i * product_ l + cellOf l p) / product_ l :: placeOf l ((i * product_ l + cellOf l p) % product_ l) = i :: p; rw [Nat.mul_comm i,Nat.mul_add_div hp,Nat.div_eq_of_lt hlt,Nat.add_zero,Nat.mul_add_mod,Nat.mod_eq_of_lt hlt,lc h.2]
 | [],_ :: _,h => h.elim
 | _ :: _,[],h => h.elim
theorem ud : ∀ {s : List Nat} {c : Nat},c < product_ s -> cellOf s (placeOf s c) = c
 | [],c,h => by
  have : c < 1 := h; show 0 = c; omega
 | x :: l,c,h => by
  rw [bM] at h
  have hp : 0 < product_ l := by
   cases hz : product_ l with
   | zero => rw [hz] at h; simp at h
   | succ n => omega
  show c / product_ l * product_ l + cellOf l (placeOf l (c % product_ l)) = c; rw [ud (Nat.mod_lt _ hp),Nat.mul_comm]; exact Nat.div_add_mod c _
theorem In.put {s p : List Nat} {x : Nat} (h : In s p) (hx : x < s.length) {i : Nat} (hi : i < along s x) : In s (p.set x i) := by
 have h2 : In (s.set x (along s x)) p := by rw [fZ (by rw [List.getElem?_eq_getElem hx,bL (List.getElem?_eq_getElem hx)])]; exact h
 have := In.set h2 hx (m := along s x) i hi; rw [fZ (by rw [List.getElem?_eq_getElem hx,bL (List.getElem?_eq_getElem hx)])] at this; exact this
theorem In.erase : ∀ {s p : List Nat} {x : Nat},In s p -> In (s.eraseIdx x) (p.eraseIdx x)
 | [],[],_,_ => trivial
 | _ :: _,_ :: _,0,h => h.2
 | _ :: _,_ :: _,x + 1,h => ⟨h.1,In.erase h.2⟩
 | [],_ :: _,_,h => h.elim
 | _ :: _,[],_,h => h.elim
theorem In.fill : ∀ {s q : List Nat} {x : Nat},In (s.eraseIdx x) q -> x < s.length -> ∀ {i : Nat},i < along s x -> In s (q.take x ++ i :: q.drop x)
 | a :: s,q,0,h,_,i,hi => ⟨hi,h⟩
 | a :: s,[],x + 1,h,hx,i,hi => h.elim
 | a :: s,b :: q,x + 1,h,hx,i,hi => ⟨h.1,In.fill h.2 (by simpa using hx) hi⟩
 | [],_,_,_,hx,_,_ => by simp at hx
theorem sE (q : List Nat) (x i : Nat) (h : x <= q.length) : (filledIn x q).set x i = q.take x ++ i :: q.drop x := by
 unfold filledIn; have e := List.set_append_right (s := q.take x) (t := 0 :: q.drop x) x i (by rw [List.length_take]; omega); rw [e,List.length_take,Nat.min_eq_left h,Nat.sub_self]; rfl
theorem oU : ∀ {p : List Nat} {x : Nat},x < p.length -> filledIn x (p.eraseIdx x) = p.set x 0
 | _ :: _,0,_ => rfl
 | a :: p,x + 1,h => by
  have := oU (p := p) (x := x) (by simpa using h); unfold filledIn at this ⊢; show a :: ((p.eraseIdx x).take x ++ 0 :: (p.eraseIdx x).drop x) = a :: p.set x 0; rw [this]
theorem di (a : Arr) (x : Nat) (p : List Nat) : (rowAt a x p).length = along a.shape x := by
 unfold rowAt; rw [List.length_map,List.length_range]
theorem oA {a : Arr} {x : Nat} {p : List Nat} {i : Nat} (h : i < along a.shape x) : (rowAt a x p)[i]? = some (a.at_ (p.set x i)) := by
 unfold rowAt; rw [List.getElem?_map,List.getElem?_range h]; rfl
theorem yn (a : Arr) (x : Nat) (p : List Nat) (j : Nat) : rowAt a x (p.set x j) = rowAt a x p := by
 unfold rowAt; apply List.map_congr_left; intro i _; rw [List.set_set]
theorem gr {a : Arr} {x c : Nat} (h : c < product_ (removed a.shape x)) : (rowsBy x a)[c]? = some (rowAt a x (filledIn x (placeOf (removed a.shape x) c))) := by
 unfold rowsBy; simp only; rw [List.getElem?_map,List.getElem?_range h]; rfl
theorem zY {a : Arr} {x : Nat} {p : List Nat} (hp : In a.shape p) (hx : x < a.shape.length) : (rowsBy x a)[cellOf (removed a.shape x) (p.eraseIdx x)]? = some (rowAt a x p) := by
 have h1 : In (removed a.shape x) (p.eraseIdx x) := hp.erase; rw [gr h1.lt,lc h1,oU (by rw [hp.len]; exact hx),yn]
theorem l8 : ∀ {l : List (Nat × Nat)} {s : List Nat},meetEach l = some s -> s.length = l.length
 | [],s,h => by
  have : s = [] := (Option.some.inj h).symm; rw [this]; rfl
 | x :: l,s,h => by
  rw [meetEach] at h; obtain ⟨r,h1,h2⟩ := Option.bind_eq_some_iff.mp h; have := l8 h1
  split at h2
  ·cases h2; simp [this]
  ·split at h2
   ·cases h2; simp [this]
   ·split at h2
    ·cases h2; simp [this]
    ·cases h2
theorem iG : ∀ {l : List (Nat × Nat)} {s : List Nat},meetEach l = some s -> ∀ {i x y z : Nat},l[i]? = some (x,y) -> s[i]? = some z -> (z = x \/ x = 1) /\ (z = y \/ y = 1) /\ (z = x \/ z = y)
 | [],s,h,i,x,y,z,hx,hz => by simp at hx
 | q :: l,s,h,i,x,y,z,hx,hz => by
  rw [meetEach] at h; obtain ⟨r,h1,h2⟩ := Option.bind_eq_some_iff.mp h
  cases i with
  | zero =>
   have e : q = (x,y) := Option.some.inj hx; subst e; simp only at h2
   split at h2
   ·cases h2; cases hz; rename_i e; exact ⟨.inl rfl,.inl e,.inl rfl⟩
   ·split at h2
    ·cases h2; cases hz; rename_i e; exact ⟨.inr e,.inl rfl,.inr rfl⟩
    ·split at h2
     ·cases h2; cases hz; rename_i e; exact ⟨.inl rfl,.inr e,.inl rfl⟩
     ·cases h2
  | succ i =>
   have hz2 : r[i]? = some z := by
    split at h2
    ·cases h2; exact hz
    ·split at h2
     ·cases h2; exact hz
     ·split at h2
      ·cases h2; exact hz
      ·cases h2
   exact iG h1 (i := i) hx hz2
theorem d6 {r : Nat} {l : List Nat} (h : l.length <= r) : (padded r l).length = r := by
 unfold padded; rw [List.length_append,List.length_replicate]; omega
theorem t8 {r : Nat} {l : List Nat} {j x : Nat} (h : l[j]? = some x) : (padded r l)[r - l.length + j]? = some x := by
 unfold padded; rw [List.getElem?_append_right (by simp)]
 simpa using h
theorem aa5 {a b s : List Nat} (h : meet a b = some s) : s.length = max a.length b.length := by
 have := l8 h; rw [this,List.length_zip,d6 (Nat.le_max_left ..),d6 (Nat.le_max_right ..)]; omega
theorem wz {a b s : List Nat} (h : meet a b = some s) : spreads a s = true /\ spreads b s = true := by
 have hl := aa5 h
 constructor
 ·refine spreads_iff.mpr ⟨by omega,fun j x z hx hz => ?_⟩; rw [List.getElem?_drop] at hz; have h1 := t8 (r := max a.length b.length) hx; have hj := (List.getElem?_eq_some_iff.mp h1).1; rw [d6 (Nat.le_max_left ..)] at hj; have h2 : (padded (max a.length b.length) b)[max a.length b.length - a.length + j]? = some _ := List.getElem?_eq_getElem (by rw [d6 (Nat.le_max_right ..)]; exact hj); have h3 := iG h (List.getElem?_zip_eq_some (z := (x,_)) |>.mpr ⟨h1,h2⟩) (by rw [hl] at hz; exact hz)
  rcases h3.1 with e | e
  ·exact .inl e.symm
  ·exact .inr e
 ·refine spreads_iff.mpr ⟨by omega,fun j x z hx hz => ?_⟩; rw [List.getElem?_drop] at hz; have h1 := t8 (r := max a.length b.length) hx; have hj := (List.getElem?_eq_some_iff.mp h1).1; rw [d6 (Nat.le_max_right ..)] at hj; have h2 : (padded (max a.length b.length) a)[max a.length b.length - b.length + j]? = some _ := List.getElem?_eq_getElem (by rw [d6 (Nat.le_max_left ..)]; exact hj); have h3 := iG h (List.getElem?_zip_eq_some (z := (_,x)) |>.mpr ⟨h2,h1⟩) (by rw [hl] at hz; exact hz)
  rcases h3.2.1 with e | e
  ·exact .inl e.symm
  ·exact .inr e
end Ma

namespace Ma
open Ad
def tY (a b : Int × Nat) : Prop := a.1 < b.1 \/ (a.1 = b.1 /\ a.2 < b.2)
theorem yk {α : Type} {R : α -> α -> Prop} (asym : ∀ {a b},R a b -> R b a -> False) : ∀ {a b : List α},a.Perm b -> a.Pairwise R -> b.Pairwise R -> a = b
 | [],b,h,_,_ => by rw [h.nil_eq]
 | x :: a,[],h,_,_ => by
  have := h.length_eq; simp at this
 | x :: a,y :: b,h,h1,h2 => by
  have hx : x ∈ y :: b := h.mem_iff.mp (List.mem_cons_self ..); have hy : y ∈ x :: a := h.mem_iff.mpr (List.mem_cons_self ..); have h1' := List.pairwise_cons.mp h1; have h2' := List.pairwise_cons.mp h2
  have e : x = y := by
   rcases List.mem_cons.mp hx with e | hx
   ·exact e
   ·rcases List.mem_cons.mp hy with e | hy
    ·exact e.symm
    ·exact (asym (h1'.1 y hy) (h2'.1 x hx)).elim
  subst e; rw [yk asym (h.cons_inv) h1'.2 h2'.2]
theorem sZ (x : Int × Nat) : ∀ r : List (Int × Nat),(putOrder x r).Perm (x :: r)
 | [] => .refl _
 | y :: r => by
  rw [putOrder]
  split
  ·exact .refl _
  ·exact ((sZ x r).cons y).trans (.swap x y r)
theorem uk {x : Int × Nat} : ∀ {r : List (Int × Nat)},r.Pairwise tY -> (∀ y ∈ r,y.2 < x.2) -> (putOrder x r).Pairwise tY
 | [],_,_ => by
  rw [putOrder]; exact List.pairwise_singleton ..
 | y :: r,h,hx => by
  rw [putOrder]; have h' := List.pairwise_cons.mp h
  split
  ·rename_i hlt; refine List.pairwise_cons.mpr ⟨fun z hz => ?_,h⟩
   rcases List.mem_cons.mp hz with e | hz
   ·subst e; exact .inl hlt
   ·rcases h'.1 z hz with q | q
    ·exact .inl (by omega)
    ·exact .inl (by omega)
  ·rename_i hlt; refine List.pairwise_cons.mpr ⟨fun z hz => ?_,uk h'.2 fun z hz => hx z (List.mem_cons_of_mem _ hz)⟩
   rcases List.mem_cons.mp ((sZ x r).mem_iff.mp hz) with e | hz
   ·subst e; have := hx y (List.mem_cons_self ..); unfold tY; omega
   ·exact h'.1 z hz
theorem uo : ∀ (l r : List (Int × Nat)),r.Pairwise tY -> l.Pairwise (fun a b => a.2 < b.2) -> (∀ y ∈ r,∀ x ∈ l,y.2 < x.2) →
  (l.foldl (fun r x => putOrder x r) r).Pairwise tY /\ (l.foldl (fun r x => putOrder x r) r).Perm (r ++ l)
 | [],r,h,_,_ => ⟨h,by rw [List.append_nil]; exact .refl _⟩
 | x :: l,r,h,hl,hx => by
  have hl' := List.pairwise_cons.mp hl; have hp := sZ x r
  have ih := uo l (putOrder x r) (uk h fun y hy => hx y hy x (List.mem_cons_self ..)) hl'.2 fun y hy z hz => by
   rcases List.mem_cons.mp (hp.mem_iff.mp hy) with e | hy
   ·subst e; exact hl'.1 z hz
   ·exact hx y hy z (List.mem_cons_of_mem _ hz)
  refine ⟨ih.1,ih.2.trans ?_⟩; exact (hp.append_right l).trans (List.perm_middle.symm)
def e_ (l : List Int) (o : List Nat) : List (Int × Nat) := o.map fun i => (l.getD i 0,i)
theorem aaM (l : List Int) : l.zipIdx = e_ l (List.range l.length) := by
 unfold e_; apply List.ext_getElem?; intro i
 by_cases hi : i < l.length
 ·rw [List.getElem?_zipIdx,List.getElem?_map,List.getElem?_range hi,List.getElem?_eq_getElem hi]; simp [List.getD_eq_getElem?_getD,hi]
 ·rw [List.getElem?_eq_none (by simp; omega),List.getElem?_eq_none (by simp; omega)]
theorem qI (l : List Int) (o : List Nat) : (e_ l o).map (·.2) = o := by
 unfold e_; rw [List.map_map]; exact List.map_id _
theorem pw (l : List Int) : (orderOf l).Perm (List.range l.length) /\ (e_ l (orderOf l)).Pairwise tY := by
 have hs : (e_ l (List.range l.length)).Pairwise (fun a b => a.2 < b.2) := by
  unfold e_; rw [List.pairwise_map]; exact List.pairwise_lt_range
 have h := uo (e_ l (List.range l.length)) [] .nil hs (fun y hy => by cases hy); rw [List.nil_append] at h; unfold orderOf; rw [aaM]; generalize List.foldl (fun r x => putOrder x r) [] (e_ l (List.range l.length)) = r at h
 have hp : (r.map (·.2)).Perm (List.range l.length) := by
  have := h.2.map (·.2); rw [qI] at this; exact this
 refine ⟨hp,?_⟩
 have e : e_ l (r.map (·.2)) = r := by
  unfold e_; rw [List.map_map]
  have : ∀ x ∈ r,((fun i => (l.getD i 0,i)) ∘ (·.2)) x = x := fun x hx => by
   obtain ⟨i,_,e⟩ := List.mem_map.mp (h.2.mem_iff.mp hx); rw [← e]; rfl
  rw [List.map_congr_left this,List.map_id']
 rw [e]; exact h.1
theorem zL {l : List Int} {o : List Nat} (hp : o.Perm (List.range l.length)) (hs : (e_ l o).Pairwise tY) : o = orderOf l := by
 obtain ⟨h1,h2⟩ := pw l; have h3 : (e_ l o).Perm (e_ l (orderOf l)) := (hp.trans h1.symm).map _; have := yk (R := tY) (fun {a b} h h' => by unfold tY at h h'; omega) h3 hs h2; have := congrArg (List.map (·.2)) this
 rwa [qI,qI] at this
theorem qD (l : List Int) : (orderOf l).length = l.length := by
 rw [(pw l).1.length_eq,List.length_range]
theorem pM : ∀ d : Nat,d < 10 -> (Nat.digitChar d).toNat = 48 + d := by decide
theorem aaH {n : Nat} (h : n < 10) : decNat n = [48 + n] := by
 unfold decNat; rw [Nat.toDigits_of_lt_base h]; rw [List.map_cons,List.map_nil,pM n h]
theorem aa7 {n : Nat} (h : 10 <= n) : decNat n = decNat (n / 10) ++ [48 + n % 10] := by
 unfold decNat; rw [Nat.toDigits_eq_if (by decide),if_neg (by omega),List.map_append,List.map_cons,List.map_nil,pM _ (Nat.mod_lt _ (by decide))]
end Ma

namespace Ma
open Ad
theorem ln {α : Type} (l : List α) (x : Nat) : l.take x ++ l.drop (x + 1) = l.eraseIdx x := (List.eraseIdx_eq_take_drop_succ l x).symm
theorem vH {α β : Type} (f : α -> β) (l : List α) (x : Nat) : (l.map f).eraseIdx x = (l.eraseIdx x).map f := by
 rw [← ln,← ln,List.map_append,List.map_take,List.map_drop]
theorem mo {α : Type} : ∀ (l : List α) (x : Nat) (v : α),x < l.length -> (l.eraseIdx x).take x ++ v :: (l.eraseIdx x).drop x = l.set x v
 | _ :: _,0,_,_ => rfl
 | a :: l,x + 1,v,h => by
  show a :: ((l.eraseIdx x).take x ++ v :: (l.eraseIdx x).drop x) = a :: l.set x v; rw [mo l x v (by simpa using h)]
 | [],_,_,h => by simp at h
theorem mL {α : Type} : ∀ (l : List α) (x : Nat) (v : α),(l.set x v).eraseIdx x = l.eraseIdx x
 | [],_,_ => rfl
 | _ :: _,0,_ => rfl
 | a :: l,x + 1,v => by
  show a :: (l.set x v).eraseIdx x = a :: l.eraseIdx x; rw [mL]
theorem mx {s : List Nat} {x n : Nat} (h : x < s.length) : along (s.set x n) x = n := bL (List.getElem?_set_self h)
theorem k8 {x : Nat} {a b : List Nat} (hx : x < a.length) : joinOk x a b = true ↔ a.length = b.length /\ a.eraseIdx x = b.eraseIdx x := by
 rw [xj hx]
 constructor
 ·rintro ⟨h1,h2⟩; refine ⟨h1,?_⟩; rw [← h2,mL]
 ·rintro ⟨h1,h2⟩; refine ⟨h1,?_⟩
  have h3 : b[x]? = some (along b x) := by
   have h2 : b[x]? = some (b[x]'(by omega)) := List.getElem?_eq_getElem _; rw [bL h2]; exact h2
  rw [← mo a x _ hx,h2,mo b x _ (by omega),fZ h3]
theorem zO {a : Arr} {x : Nat} {p : List Nat} (h1 : In (removed a.shape x) (p.eraseIdx x)) (hx : x < p.length) : (rowsBy x a)[cellOf (removed a.shape x) (p.eraseIdx x)]? = some (rowAt a x p) := by
 rw [gr h1.lt,lc h1,oU hx,yn]
theorem ld (a : Arr) (x : Nat) : (rowsBy x a).length = product_ (removed a.shape x) := by
 unfold rowsBy; simp only; rw [List.length_map,List.length_range]
theorem iO {a : Arr} {x c : Nat} {r : List Int} (h : (rowsBy x a)[c]? = some r) : c < product_ (removed a.shape x) /\ r = rowAt a x (filledIn x (placeOf (removed a.shape x) c)) := by
 have hc : c < product_ (removed a.shape x) := by
  rw [← ld]; exact (List.getElem?_eq_some_iff.mp h).1
 rw [gr hc] at h; exact ⟨hc,(Option.some.inj h).symm⟩
theorem cn {s : List Nat} (h : shapeOk s = true) (x : Nat) : shapeOk (removed s x) = true := by
 obtain ⟨h1,h2,h3⟩ := aE h; refine shape_iff.mpr ⟨?_,fun n hn => h2 n (List.mem_of_mem_eraseIdx hn),?_⟩
 ·unfold removed; rw [List.length_eraseIdx]
  split <;> omega
 ·unfold removed
  by_cases hx : x < s.length
  ·have e : product_ (s.eraseIdx x) * along s x = product_ s := by
    have hs : s[x]? = some (along s x) := by
     have h2 : s[x]? = some s[x] := List.getElem?_eq_getElem hx; rw [bL h2]; exact h2
    have e1 : s = s.take x ++ along s x :: s.drop (x + 1) := by
     have h2 := bL hs
     conv => lhs; rw [← List.take_append_drop x s,List.drop_eq_getElem_cons hx]
     rw [bL (List.getElem?_eq_getElem hx)]
    have e2 : product_ s = product_ (s.take x) * (along s x * product_ (s.drop (x + 1))) := by
     conv => lhs; rw [e1]
     rw [dH,bM]
    rw [← ln,dH,e2,Nat.mul_assoc,Nat.mul_comm (product_ (s.drop (x + 1)))]
   have h4 : 1 <= along s x := by
    have hs : s[x]? = some (along s x) := by
     have h2 : s[x]? = some s[x] := List.getElem?_eq_getElem hx; rw [bL h2]; exact h2
    exact h2 _ (List.mem_of_getElem? hs)
   have := Nat.le_mul_of_pos_right (product_ (s.eraseIdx x)) h4; omega
  ·rw [List.eraseIdx_of_length_le (by omega)]; exact h3
theorem yP {α : Type} (r : List α) : ∀ (n i : Nat),i < n * r.length -> (List.replicate n r).flatten[i]? = r[i % r.length]?
 | 0,i,h => by simp at h
 | n + 1,i,h => by
  rw [List.replicate_succ,List.flatten_cons]
  by_cases hi : i < r.length
  ·rw [List.getElem?_append_left hi,Nat.mod_eq_of_lt hi]
  ·rw [List.getElem?_append_right (by omega),yP r n (i - r.length) (by rw [Nat.succ_mul] at h; omega)]; congr 1
   conv => rhs; rw [show i = (i - r.length) + r.length by omega,Nat.add_mod_right]
theorem abu {p : List Nat} {x : Nat} (h : x < p.length) : p.set x (p.getD x 0) = p := by
 refine fZ ?_; rw [List.getD_eq_getElem?_getD,List.getElem?_eq_getElem h]; rfl
theorem aaG {s : List Nat} {x c i : Nat} (hx : x < s.length) (hc : c < product_ (removed s x)) (hi : i < along s x) :
  ∃ p,In s p /\ cellOf (removed s x) (p.eraseIdx x) = c /\ p.getD x 0 = i := by
 have h1 := cC hc
 have hl : (placeOf (removed s x) c).length = s.length - 1 := by
  rw [eV]; unfold removed; rw [List.length_eraseIdx,if_pos hx]
 refine ⟨_,In.fill (s := s) (x := x) h1 hx hi,?_,?_⟩
 ·have e : ((placeOf (removed s x) c).take x ++ i :: (placeOf (removed s x) c).drop x).eraseIdx x = placeOf (removed s x) c := by
   have := sE (placeOf (removed s x) c) x i (by omega); rw [← this,mL]; unfold filledIn; rw [← ln,List.take_append_of_le_length (by rw [List.length_take]; omega),List.take_take,Nat.min_self]; rw [List.drop_append,List.drop_eq_nil_iff.mpr (by rw [List.length_take]; omega),List.length_take,Nat.min_eq_left (by omega),show x + 1 - x = 1 by omega]
   simp
  rw [e,ud hc]
 ·rw [List.getD_eq_getElem?_getD,List.getElem?_append_right (by rw [List.length_take]; omega),List.length_take,Nat.min_eq_left (by omega),Nat.sub_self]; rfl
end Ma

namespace Ma
open Ad
def w_ (op : Nat) (x y : Int) : Option Int := match op with
  | 0 => some (x + y)
  | 1 => some (x - y)
  | 2 => some (x * y)
  | 3 => some (if y < x then y else x)
  | 4 => some (if x < y then y else x)
  | 5 => if y = 0 then none else some (Int.fdiv x y)
  | 6 => if y = 0 then none else some (Int.fmod x y)
  | 7 => some (if x < y then 1 else 0)
  | _ => some (if x = y then 1 else 0)
def fu (op : Nat) (x y : Option Int) : Option Int := x.bind fun a => y.bind fun b => opOf op a b
theorem sY {op : Nat} {x y : Option Int} {z : Int} (h : fu op x y = some z) : cellFine z = true := by
 unfold fu at h; obtain ⟨a,_,h1⟩ := Option.bind_eq_some_iff.mp h; obtain ⟨b,_,h2⟩ := Option.bind_eq_some_iff.mp h1; exact uM h2
theorem aaz {f : Nat} {l : List Int} (h : l ≠ []) (y : Int) : foldRow f (l ++ [y]) = fu (foldOp f) (foldRow f l) (some y) := by
 cases l with
 | nil => exact absurd rfl h
 | cons x l =>
  show (l ++ [y]).foldl (fun (o : Option Int) (y : Int) => o.bind fun (z : Int) => opOf (foldOp f) z y) (some x) = _; rw [List.foldl_append]; rfl
theorem qe {f : Nat} {l : List Int} (hl : ∀ z ∈ l,cellFine z = true) {z : Int} (h : foldRow f l = some z) : cellFine z = true := by
 have key : ∀ (m : List Int) (o : Option Int),(∀ a,o = some a -> cellFine a = true) -> ∀ a,m.foldl (fun (o : Option Int) (y : Int) => o.bind fun (z : Int) => opOf (foldOp f) z y) o = some a -> cellFine a = true := by
  intro m
  induction m with
  | nil => intro o ho a ha; exact ho a ha
  | cons y m ih =>
   intro o ho a ha; rw [List.foldl_cons] at ha; refine ih _ (fun b hb => ?_) a ha; obtain ⟨c,_,h2⟩ := Option.bind_eq_some_iff.mp hb; exact uM h2
 cases l with
 | nil => cases h
 | cons x l => exact key l (some x) (fun a ha => by cases ha; exact hl x (List.mem_cons_self ..)) z h
def eI (f : Nat) (r : List Int) : List (Option Int) := (List.range r.length).map fun i => foldRow f (r.take (i + 1))
theorem oJ (f : Nat) (r : List Int) : (eI f r).length = r.length := by
 unfold eI; rw [List.length_map,List.length_range]
theorem vN (f : Nat) : ∀ (l : List Int) (x : Int),scanFrom f x l = allOf ((List.range l.length).map fun i => foldRow f (x :: l.take (i + 1)))
 | [],x => rfl
 | y :: l,x => by
  rw [List.length_cons,List.range_succ_eq_map,List.map_cons,List.map_map]; have e0 : foldRow f (x :: (y :: l).take (0 + 1)) = opOf (foldOp f) x y := rfl; rw [e0,scanFrom]
  cases h : opOf (foldOp f) x y with
  | none => rfl
  | some z =>
   show (scanFrom f z l).map _ = (allOf _).map _; rw [vN f l z]
   have e1 : ((fun i => foldRow f (x :: (y :: l).take (i + 1))) ∘ Nat.succ) = fun i => foldRow f (z :: l.take (i + 1)) := by
    funext i; show foldRow f (x :: y :: l.take (i + 1)) = foldRow f (z :: l.take (i + 1)); show List.foldl _ (opOf (foldOp f) x y) _ = List.foldl _ (some z) _; rw [h]
   rw [e1]
theorem sL {f : Nat} {r : List Int} : allOf (eI f r) = scanRow f r := by
 cases r with
 | nil => rfl
 | cons x l =>
  unfold eI; rw [List.length_cons,List.range_succ_eq_map,List.map_cons,List.map_map]; have e0 : foldRow f ((x :: l).take (0 + 1)) = some x := rfl; rw [e0]; show (allOf _).map _ = (scanFrom f x l).map _; rw [vN]; rfl
theorem aaE {f : Nat} {r : List Int} (h : r ≠ []) : (eI f r)[r.length - 1]? = some (foldRow f r) := by
 have hl : 0 < r.length := List.length_pos_iff.mpr h; unfold eI; rw [List.getElem?_map,List.getElem?_range (by omega)]; show some (foldRow f (r.take (r.length - 1 + 1))) = _; rw [show r.length - 1 + 1 = r.length by omega,List.take_length]
theorem ya {f : Nat} {r : List Int} (hr : ∀ z ∈ r,cellFine z = true) {z : Int} (h : some z ∈ eI f r) : cellFine z = true := by
 obtain ⟨i,_,e⟩ := List.mem_map.mp h; exact qe (fun y hy => hr y (List.mem_of_mem_take hy)) e
theorem zj {f : Nat} (h : f <= 3) : ([0,2,3,4] : List Nat)[f]? = some (foldOp f) := by
 match f,h with
 | 0,_ => rfl
 | 1,_ => rfl
 | 2,_ => rfl
 | 3,_ => rfl
end Ma

namespace Ma
open Ad
theorem sx : ∀ {l : List (Nat × Nat)},(∀ p ∈ l,1 <= p.1 /\ 1 <= p.2) -> (∀ p ∈ l,p.1 = p.2 \/ p.1 = 1 \/ p.2 = 1) -> meetEach l = some (l.map fun p => max p.1 p.2)
 | [],_,_ => rfl
 | x :: l,h1,h2 => by
  rw [meetEach,sx (fun p hp => h1 p (List.mem_cons_of_mem _ hp)) (fun p hp => h2 p (List.mem_cons_of_mem _ hp))]; have g1 := h1 x (List.mem_cons_self ..); have g2 := h2 x (List.mem_cons_self ..); show (if x.1 = x.2 then _ else _) = _; rw [List.map_cons]
  by_cases e1 : x.1 = x.2
  ·rw [if_pos e1,e1,Nat.max_self]
  ·rw [if_neg e1]
   by_cases e2 : x.1 = 1
   ·rw [if_pos e2,Nat.max_eq_right (by omega)]
   ·rw [if_neg e2,if_pos (by omega),Nat.max_eq_left (by omega)]
theorem pJ : ∀ {l : List (Nat × Nat)} {p : Nat × Nat},p ∈ l -> p.1 ≠ p.2 -> p.1 ≠ 1 -> p.2 ≠ 1 -> meetEach l = none
 | x :: l,p,h,h1,h2,h3 => by
  rw [meetEach]
  rcases List.mem_cons.mp h with rfl | h
  ·cases meetEach l with
   | none => rfl
   | some r =>
    show (if p.1 = p.2 then _ else _) = none; rw [if_neg h1,if_neg h2,if_neg h3]
  ·rw [pJ h h1 h2 h3]; rfl
theorem tx {r : Nat} {l : List Nat} (h : ∀ n ∈ l,1 <= n) : ∀ n ∈ padded r l,1 <= n := by
 intro n hn; unfold padded at hn
 rcases List.mem_append.mp hn with q | q
 ·rw [(List.mem_replicate.mp q).2]; exact Nat.le_refl _
 ·exact h n q
theorem gv {α β : Type} (F : α -> β) (d : α) (l : List α) : (List.range l.length).map (fun i => F (l.getD i d)) = l.map F := by
 apply List.ext_getElem?; intro i
 by_cases hi : i < l.length
 ·rw [List.getElem?_map,List.getElem?_range hi,List.getElem?_map,List.getElem?_eq_getElem hi]; show some (F (l.getD i d)) = some (F l[i]); rw [List.getD_eq_getElem?_getD,List.getElem?_eq_getElem hi]; rfl
 ·rw [List.getElem?_eq_none (by simp; omega),List.getElem?_eq_none (by simp; omega)]
theorem wV {α β γ : Type} (F : α -> β -> γ) (d : α) (e : β) {l : List α} {m : List β} (h : l.length = m.length) : (List.range l.length).map (fun i => F (l.getD i d) (m.getD i e)) = (l.zip m).map fun z => F z.1 z.2 := by
 have := gv (fun z : α × β => F z.1 z.2) (d,e) (l.zip m); rw [← this,List.length_zip,← h,Nat.min_self]; apply List.map_congr_left; intro i hi; have hi := List.mem_range.mp hi; have hz : (l.zip m)[i]? = some (l[i],m[i]'(by omega)) := List.getElem?_zip_eq_some.mpr ⟨List.getElem?_eq_getElem hi,List.getElem?_eq_getElem (by omega)⟩; simp only [List.getD_eq_getElem?_getD]; rw [hz,List.getElem?_eq_getElem hi,List.getElem?_eq_getElem (show i < m.length by omega)]; rfl
def oX (f ax : Nat) (a : Arr) (p : List Nat) : Option Int := (eI f (rowAt a ax p)).getD (p.getD ax 0) none
def eU (f ax : Nat) (a : Arr) : List (Option Int) := (List.range (product_ a.shape)).map fun c => oX f ax a (placeOf a.shape c)
theorem j6 {f ax : Nat} {a : Arr} {p : List Nat} (hp : In a.shape p) (hx : ax < a.shape.length) : (eI f (rowAt a ax p))[p.getD ax 0]? = some (oX f ax a p) := by
 have h := (In.axis hp hx).2; unfold oX; generalize p.getD ax 0 = i at h; rw [List.getD_eq_getElem?_getD,List.getElem?_eq_getElem (by rw [oJ,di]; exact h)]; rfl
theorem zG {f ax : Nat} {a : Arr} (hx : ax < a.shape.length) : (allOf (eU f ax a)).map (fun l => (⟨a.shape,l⟩ : Arr)) = scanned f ax a := by
 unfold scanned; have hrow : ∀ {p : List Nat},In a.shape p -> (rowsBy ax a)[cellOf (removed a.shape ax) (p.eraseIdx ax)]? = some (rowAt a ax p) := fun hp => zY hp hx
 by_cases hn : none ∈ eU f ax a
 ·rw [gx hn]; obtain ⟨c,hc,e⟩ := List.mem_map.mp hn; have hp := cC (List.mem_range.mp hc)
  have h1 : none ∈ eI f (rowAt a ax (placeOf a.shape c)) := by
   have := j6 (f := f) hp hx; rw [e] at this; exact List.mem_of_getElem? this
  have h2 : scanRow f (rowAt a ax (placeOf a.shape c)) = none := by rw [← sL,gx h1]
  have h3 : none ∈ (rowsBy ax a).map (scanRow f) := List.mem_map.mpr ⟨_,List.mem_of_getElem? (hrow hp),h2⟩; rw [gx h3]; rfl
 ·obtain ⟨r,hr⟩ := mt hn; have hr2 := allOf_map.mp hr
  have all : ∀ w ∈ rowsBy ax a,none ∉ eI f w := by
   intro w hw hnone; obtain ⟨c,hc,e⟩ := List.getElem_of_mem hw; obtain ⟨g1,g2⟩ := iO (show (rowsBy ax a)[c]? = some w by rw [List.getElem?_eq_getElem hc,e]); obtain ⟨i,hi,ei⟩ := List.getElem_of_mem hnone; have hi2 : i < along a.shape ax := by rw [oJ,g2,di] at hi; exact hi
   obtain ⟨p,hp,p1,p2⟩ := aaG hx g1 hi2
   have e2 : rowAt a ax p = w := by
    have := hrow hp; rw [p1,gr g1,← g2] at this; exact (Option.some.inj this).symm
   have h3 := j6 (f := f) hp hx; rw [e2,p2,List.getElem?_eq_getElem hi,ei] at h3; refine hn (List.mem_map.mpr ⟨cellOf a.shape p,List.mem_range.mpr hp.lt,?_⟩); rw [lc hp]; exact (Option.some.inj h3).symm
  have hsc : ∀ w ∈ rowsBy ax a,∃ l,scanRow f w = some l := fun w hw => by
   obtain ⟨l,hl⟩ := mt (all w hw); exact ⟨l,by rw [← sL]; exact hl⟩
  obtain ⟨L,hL⟩ := mt (l := (rowsBy ax a).map (scanRow f)) (fun h => by
   obtain ⟨w,hw,e⟩ := List.mem_map.mp h; obtain ⟨l,hl⟩ := hsc w hw; rw [hl] at e
   cases e)
  have hL2 := allOf_map.mp hL; rw [hr,hL]; show some _ = some _; congr 1; unfold ofRows build; congr 1; apply List.ext_getElem?; intro c
  by_cases hc : c < product_ a.shape
  ·have hp := cC hc
   have e1 : (eU f ax a)[c]? = some (oX f ax a (placeOf a.shape c)) := by
    unfold eU; rw [List.getElem?_map,List.getElem?_range hc]; rfl
   rw [hr2,List.getElem?_map] at e1; rw [List.getElem?_map,List.getElem?_range hc]
   cases e2 : r[c]? with
   | none => rw [e2] at e1; cases e1
   | some z =>
    rw [e2] at e1; have e3 : some z = oX f ax a (placeOf a.shape c) := Option.some.inj e1; have h4 := j6 (f := f) hp hx; rw [← e3] at h4
    have h5 : (L.map some)[cellOf (removed a.shape ax) ((placeOf a.shape c).eraseIdx ax)]? = some (scanRow f (rowAt a ax (placeOf a.shape c))) := by
     rw [← hL2,List.getElem?_map,hrow hp]; rfl
    rw [List.getElem?_map] at h5
    cases e6 : L[cellOf (removed a.shape ax) ((placeOf a.shape c).eraseIdx ax)]? with
    | none => rw [e6] at h5; cases h5
    | some l =>
     rw [e6] at h5; have h6 : some l = scanRow f (rowAt a ax (placeOf a.shape c)) := Option.some.inj h5; rw [← sL] at h6; rw [allOf_map.mp h6.symm,List.getElem?_map] at h4; show some z = some _; congr 1; show z = (L.getD (cellOf (removed a.shape ax) ((placeOf a.shape c).eraseIdx ax)) []).getD ((placeOf a.shape c).getD ax 0) 0; rw [List.getD_eq_getElem?_getD (l := L),e6]; show z = l.getD ((placeOf a.shape c).getD ax 0) 0; generalize (placeOf a.shape c).getD ax 0 = i at h4; rw [List.getD_eq_getElem?_getD]
     cases e7 : l[i]? with
     | none => rw [e7] at h4; cases h4
     | some y =>
      rw [e7] at h4; exact (Option.some.inj (Option.some.inj h4)).symm
  ·have h1 : r.length = product_ a.shape := by
    have := congrArg List.length hr2; rw [List.length_map] at this; unfold eU at this; rw [List.length_map,List.length_range] at this; exact this.symm
   rw [List.getElem?_eq_none (by omega),List.getElem?_eq_none (by simp; omega)]
end Ma

namespace Ma
open Ad
def jF (mode : Nat) (o : Option Int) (x : Int) : Option Int := if mode = 0 then some x else fu (if mode = 1 then 0 else mode + 1) o (some x)
def cY (mode : Nat) (m : List (Option Int)) (zs : List (Int × Int)) : List (Option Int) := zs.foldl (fun m z => m.set z.1.toNat (jF mode (m.getD z.1.toNat none) z.2)) m
theorem aax (mode : Nat) (m : List (Option Int)) : cY mode m [] = m := rfl
theorem kZ (mode : Nat) (m : List (Option Int)) (z : Int × Int) (zs : List (Int × Int)) : cY mode m (z :: zs) = cY mode (m.set z.1.toNat (jF mode (m.getD z.1.toNat none) z.2)) zs := rfl
theorem zQ (mode : Nat) (m : List (Option Int)) (zs : List (Int × Int)) (z : Int × Int) : cY mode m (zs ++ [z]) = (cY mode m zs).set z.1.toNat (jF mode ((cY mode m zs).getD z.1.toNat none) z.2) := by
 unfold cY; rw [List.foldl_append]; rfl
theorem qL (mode : Nat) : ∀ (zs : List (Int × Int)) (m : List (Option Int)),(cY mode m zs).length = m.length
 | [],m => rfl
 | z :: zs,m => by rw [kZ,qL mode zs,List.length_set]
theorem yW {mode : Nat} (h : mode ≠ 0) (x : Int) : jF mode none x = none := by
 unfold jF; rw [if_neg h]; rfl
theorem ug {mode : Nat} (h : mode ≠ 0) : ∀ (zs : List (Int × Int)) (m : List (Option Int)),none ∈ m -> none ∈ cY mode m zs
 | [],m,hm => hm
 | z :: zs,m,hm => by
  rw [kZ]; refine ug h zs _ ?_; obtain ⟨i,hi,e⟩ := List.getElem_of_mem hm
  by_cases hz : z.1.toNat = i
  ·have e2 : m.getD z.1.toNat none = none := by
    rw [hz,List.getD_eq_getElem?_getD,List.getElem?_eq_getElem hi,e]; rfl
   rw [e2,yW h,hz]; exact List.mem_of_getElem? (List.getElem?_set_self hi)
  ·have e3 : (m.set z.1.toNat (jF mode (m.getD z.1.toNat none) z.2))[i]? = some none := by
    rw [List.getElem?_set_ne hz,List.getElem?_eq_getElem hi,e]
   exact List.mem_of_getElem? e3
theorem zh {α : Type} (l : List α) : allOf (l.map some) = some l := allOf_map.mpr rfl
theorem ve {mode : Nat} : ∀ (zs : List (Int × Int)),zs.foldl (fun (o : Option (List Int)) (z : Int × Int) => o.bind fun (m : List Int) =>
 (if mode = 0 then some z.2 else opOf (if mode = 1 then 0 else mode + 1) (m.getD z.1.toNat 0) z.2).map fun (y : Int) => m.set z.1.toNat y) none = none
 | [] => rfl
 | _ :: zs => ve zs
theorem w9 {mode : Nat} : ∀ (zs : List (Int × Int)) (l : List Int),(∀ z ∈ zs,z.1.toNat < l.length) -> allOf (cY mode (l.map some) zs) = zs.foldl (fun (o : Option (List Int)) (z : Int × Int) => o.bind fun (m : List Int) =>
 (if mode = 0 then some z.2 else opOf (if mode = 1 then 0 else mode + 1) (m.getD z.1.toNat 0) z.2).map fun (y : Int) => m.set z.1.toNat y) (some l)
 | [],l,_ => zh l
 | z :: zs,l,h => by
  have hz := h z (List.mem_cons_self ..); rw [kZ,List.foldl_cons]
  have e1 : (l.map some).getD z.1.toNat none = some (l.getD z.1.toNat 0) := by
   rw [List.getD_eq_getElem?_getD,List.getElem?_map,List.getElem?_eq_getElem hz,List.getD_eq_getElem?_getD,List.getElem?_eq_getElem hz]; rfl
  rw [e1]; have e2 : jF mode (some (l.getD z.1.toNat 0)) z.2 = (if mode = 0 then some z.2 else opOf (if mode = 1 then 0 else mode + 1) (l.getD z.1.toNat 0) z.2) := rfl; rw [e2]; show _ = List.foldl _ (Option.map _ _) zs
  cases e3 : (if mode = 0 then some z.2 else opOf (if mode = 1 then 0 else mode + 1) (l.getD z.1.toNat 0) z.2) with
  | some y =>
   show _ = List.foldl _ (some (l.set z.1.toNat y)) zs; rw [← w9 zs (l.set z.1.toNat y) (fun w hw => by rw [List.length_set]; exact h w (List.mem_cons_of_mem _ hw)),List.map_set]
  | none =>
   show _ = List.foldl _ none zs; rw [ve]; have hm : mode ≠ 0 := fun e => by rw [if_pos e] at e3; cases e3
   exact gx (ug hm zs _ (List.mem_of_getElem? (List.getElem?_set_self (by rw [List.length_map]; exact hz))))
theorem oP {mode : Nat} : ∀ (zs : List (Int × Int)) (m : List (Option Int)),(∀ z,some z ∈ m -> cellFine z = true) -> (∀ z ∈ zs,cellFine z.2 = true) -> ∀ z,some z ∈ cY mode m zs -> cellFine z = true
 | [],m,hm,_,z,hz => hm z hz
 | w :: zs,m,hm,hw,z,hz => by
  rw [kZ] at hz; refine oP zs _ (fun y hy => ?_) (fun y hy => hw y (List.mem_cons_of_mem _ hy)) z hz
  rcases List.mem_or_eq_of_mem_set hy with h | h
  ·exact hm y h
  ·unfold jF at h
   split at h
   ·cases h; exact hw w (List.mem_cons_self ..)
   ·exact sY h.symm
theorem z5 (a b : Arr) (h : a.cells.length = b.cells.length) : packed a b = ((List.range a.cells.length).filter fun i => b.cells.getD i 0 != 0).map fun i => a.cells.getD i 0 := by
 unfold packed; have e := wV (fun x y : Int => (x,y)) 0 0 h
 have e2 : (a.cells.zip b.cells).map (fun z : Int × Int => (z.1,z.2)) = a.cells.zip b.cells := by
  have : (fun z : Int × Int => (z.1,z.2)) = id := rfl; rw [this,List.map_id]
 rw [e2] at e; rw [← e,List.filter_map,List.map_map]; rfl
theorem nT {n : Nat} {l : List Int} (h : Ay.numbersIn n l = true) : ∀ z ∈ l,0 <= z /\ z < n := by
 intro z hz; unfold Ay.numbersIn at h; have := List.all_eq_true.mp h z hz; simp only [Bool.and_eq_true,decide_eq_true_eq] at this; exact this
theorem ut {n : Nat} {l : List Int} {z : Int} (hz : z ∈ l) (h : ¬ (0 <= z /\ z < n)) : Ay.numbersIn n l = false := by
 cases e : Ay.numbersIn n l with
 | false => rfl
 | true => exact absurd (nT e z hz) h
theorem xM {n : Nat} {l : List Int} (h : ∀ z ∈ l,0 <= z /\ z < n) : Ay.numbersIn n l = true := by
 unfold Ay.numbersIn; rw [List.all_eq_true]; intro z hz; simp only [Bool.and_eq_true,decide_eq_true_eq]; exact h z hz
theorem abB {l : List Int} : ∀ n ∈ orderOf l,n < l.length := fun n hn => List.mem_range.mp ((pw l).1.mem_iff.mp hn)
theorem aa3 {α : Type} {r : List Int} {qs ps : List α} {g : α -> Int × Int} (hp : qs.Perm ps) (hs : qs.Pairwise fun u v => ¬ ((g v).1 < (g u).1 \/ ((g v).1 = (g u).1 /\ (g v).2 < (g u).2)))
  (hl : ps.length = r.length) (hg : ∀ (i : Nat) p,ps[i]? = some p -> g p = (r.getD i 0,(i : Int))) : qs.map (fun q => (g q).2.toNat) = orderOf r := by
 have hps : ps.map (fun q => (g q).2.toNat) = List.range r.length := by
  apply List.ext_getElem?; intro i
  by_cases hi : i < r.length
  ·have e : ps[i]? = some (ps[i]'(by omega)) := List.getElem?_eq_getElem _; rw [List.getElem?_map,e,List.getElem?_range hi]; show some ((g (ps[i]'(by omega))).2.toNat) = some i; rw [hg i _ e]; rfl
  ·rw [List.getElem?_eq_none (by simp; omega),List.getElem?_eq_none (by simp; omega)]
 have hperm : (qs.map (fun q => (g q).2.toNat)).Perm (List.range r.length) := by rw [← hps]; exact hp.map _
 have hkey : ∀ q ∈ qs,g q = (r.getD (g q).2.toNat 0,((g q).2.toNat : Int)) := fun q hq => by
  obtain ⟨i,hi,e⟩ := List.getElem_of_mem (hp.mem_iff.mp hq); have h1 := hg i q (by rw [List.getElem?_eq_getElem hi,e]); rw [h1]; rfl
 refine zL hperm ?_; unfold e_; rw [List.map_map,List.pairwise_map]; have hnd : (qs.map (fun q => (g q).2.toNat)).Nodup := hperm.nodup_iff.mpr List.nodup_range
 have hne : qs.Pairwise fun u v => (g u).2.toNat ≠ (g v).2.toNat := by
  have := List.pairwise_map.mp hnd; exact this
 have both := hs.and hne; refine List.Pairwise.imp_of_mem ?_ both; intro u v hu hv h; obtain ⟨h1,h2⟩ := h; have ku := hkey u hu; have kv := hkey v hv; have u1 := congrArg Prod.fst ku; have u2 := congrArg Prod.snd ku; have v1 := congrArg Prod.fst kv; have v2 := congrArg Prod.snd kv; simp only at u1 u2 v1 v2; show r.getD (g u).2.toNat 0 < r.getD (g v).2.toNat 0 \/ (r.getD (g u).2.toNat 0 = r.getD (g v).2.toNat 0 /\ (g u).2.toNat < (g v).2.toNat); rw [← u1,← v1]; omega
end Ma

namespace Ma
open Ad
def jb (xs ys : List Int) : Option Int := (xs.zip ys).foldl (fun o z => fu 0 o (fu 2 (some z.1) (some z.2))) (some 0)
theorem xQ {α : Type} (f : Nat -> α) (i m : Nat) : (List.range ((i + 1) * m)).map f = (List.range (i * m)).map f ++ (List.range m).map fun c => f (i * m + c) := by
 rw [Nat.succ_mul,List.range_add,List.map_append,List.map_map]; rfl
def lq (A B : Arr) (m r c : Nat) : Option Int := jb ((rowsBy 1 A).getD r []) ((rowsBy 0 B).getD c [])
def fS (A B : Arr) (n m : Nat) : List (Option Int) := (List.range (n * m)).map fun c => lq A B m (c / m) (c % m)
theorem x4 (A B : Arr) (i m : Nat) : fS A B (i + 1) m = fS A B i m ++ (List.range m).map fun c => lq A B m i c := by
 unfold fS; rw [xQ]; congr 1; apply List.map_congr_left; intro c hc; have hc := List.mem_range.mp hc
 have h1 : (i * m + c) / m = i := by
  rw [Nat.mul_comm,Nat.mul_add_div (by omega),Nat.div_eq_of_lt hc,Nat.add_zero]
 have h2 : (i * m + c) % m = c := by
  rw [Nat.mul_comm,Nat.mul_add_mod,Nat.mod_eq_of_lt hc]
 rw [h1,h2]
theorem tQ {β : Type} (F : β -> Int -> Int -> β) (f g : Nat -> Int) : ∀ (n : Nat) (b : β),(((List.range n).map f).zip ((List.range n).map g)).foldl (fun o z => F o z.1 z.2) b = (List.range n).foldl (fun o k => F o (f k) (g k)) b := by
 intro n b; rw [List.zip_map',List.foldl_map]
theorem zc {A B : Arr} {n k m : Nat} (ha : A.shape = [n,k]) (hb : B.shape = [k,m]) {r c : Nat} (hr : r < n) (hc : c < m) : lq A B m r c = timesCell A B [r,c] := by
 have h1 : (rowsBy 1 A)[r]? = some ((List.range k).map fun i => A.at_ [r,i]) := by
  have e : removed A.shape 1 = [n] := by rw [ha]; rfl
  have hlt : r < product_ (removed A.shape 1) := by
   rw [e]; show r < n * 1; omega
  rw [gr hlt,e]; unfold rowAt; have e2 : along A.shape 1 = k := by rw [ha]; rfl
  rw [e2]; congr 1; apply List.map_congr_left; intro i _
  have e3 : placeOf [n] r = [r] := by
   show [r / 1] = [r]; rw [Nat.div_one]
  rw [e3]; rfl
 have h2 : (rowsBy 0 B)[c]? = some ((List.range k).map fun i => B.at_ [i,c]) := by
  have e : removed B.shape 0 = [m] := by rw [hb]; rfl
  have hlt : c < product_ (removed B.shape 0) := by
   rw [e]; show c < m * 1; omega
  rw [gr hlt,e]; unfold rowAt; have e2 : along B.shape 0 = k := by rw [hb]; rfl
  rw [e2]; congr 1; apply List.map_congr_left; intro i _
  have e3 : placeOf [m] c = [c] := by
   show [c / 1] = [c]; rw [Nat.div_one]
  rw [e3]; rfl
 unfold lq jb timesCell; have e4 : along A.shape 1 = k := by rw [ha]; rfl
 rw [e4,List.getD_eq_getElem?_getD,h1,List.getD_eq_getElem?_getD,h2]; exact tQ (fun o x y => fu 0 o (fu 2 (some x) (some y))) _ _ k (some 0)
theorem zX {A B : Arr} {n k m : Nat} (ha : A.shape = [n,k]) (hb : B.shape = [k,m]) : (allOf (fS A B n m)).map (fun l => (⟨[n,m],l⟩ : Arr)) = multiplied A B := by
 unfold multiplied; have e1 : along A.shape 0 = n := by rw [ha]; rfl
 have e2 : along B.shape 1 = m := by rw [hb]; rfl
 simp only [e1,e2]
 have e3 : product_ [n,m] = n * m := by
  show n * (m * 1) = n * m; rw [Nat.mul_one]
 rw [e3]; congr 2; unfold fS; apply List.map_congr_left; intro c hc; have hc := List.mem_range.mp hc
 have hm : 0 < m := by
  rcases Nat.eq_zero_or_pos m with h | h
  ·rw [h,Nat.mul_zero] at hc; omega
  ·exact h
 have h1 : c / m < n := Nat.div_lt_of_lt_mul (by rw [Nat.mul_comm]; exact hc); have h2 : c % m < m := Nat.mod_lt _ hm; rw [zc ha hb h1 h2]
 have e4 : placeOf [n,m] c = [c / m,c % m] := by
  show [c / (m * 1),c % (m * 1) / 1] = _; rw [Nat.mul_one,Nat.div_one]
 rw [e4]
theorem vL {xs ys : List Int} {z : Int} (h : jb xs ys = some z) : cellFine z = true := by
 unfold jb at h
 have key : ∀ (l : List (Int × Int)) (o : Option Int),(∀ a,o = some a -> cellFine a = true) -> ∀ a,l.foldl (fun o z => fu 0 o (fu 2 (some z.1) (some z.2))) o = some a -> cellFine a = true := by
  intro l
  induction l with
  | nil => intro o ho a ha; exact ho a ha
  | cons w l ih =>
   intro o ho a ha; rw [List.foldl_cons] at ha; exact ih _ (fun b hb => sY hb) a ha
 exact key _ _ (fun a ha => by cases ha; decide) z h
theorem aaF (l : List (Int × Int)) (z : Int × Int) : (l ++ [z]).foldl (fun o z => fu 0 o (fu 2 (some z.1) (some z.2))) (some 0) = fu 0 (l.foldl (fun o z => fu 0 o (fu 2 (some z.1) (some z.2))) (some 0)) (fu 2 (some z.1) (some z.2)) := by
 rw [List.foldl_append]; rfl
theorem zB {l : List (Int × Int)} {z : Int} (h : l.foldl (fun o z => fu 0 o (fu 2 (some z.1) (some z.2))) (some 0) = some z) : cellFine z = true := by
 have e : jb (l.map (·.1)) (l.map (·.2)) = some z := by
  unfold jb; rw [List.zip_map',← h]
  have : (l.map fun a => (a.1,a.2)) = l := by
   have : (fun a : Int × Int => (a.1,a.2)) = id := rfl; rw [this,List.map_id]
  rw [this]
 exact vL e
end Ma

namespace Ma
open Ad
def cz (least most : Nat) : Bytes -> Nat -> Rd Nat
 | [],p => .error p
 | c :: b,p => match digitOf c with
  | some d => if least <= d /\ d <= most then .ok (if d = 0 then (0,b,p + 1) else digits most d b (p + 1)) else .error p
  | none => .error p
theorem qQ (most : Nat) : ∀ (b : Bytes) (p : Nat),cz 1 most b p = oneTo most b p
 | [],p => rfl
 | c :: b,p => by
  cases h : digitOf c with
  | none => simp only [cz,oneTo,h]
  | some d =>
   simp only [cz,oneTo,h]
   by_cases hd : 1 <= d /\ d <= most
   ·rw [if_pos hd,if_pos hd,if_neg (by omega)]
   ·rw [if_neg hd,if_neg hd]
theorem sk {bs : Bytes} {most : Nat} : ∀ (b : Bytes) (x p : Nat),b = bs.drop p -> p <= bs.length -> (digits most x b p).2.1 = bs.drop (digits most x b p).2.2 /\ (digits most x b p).2.2 <= bs.length /\ p <= (digits most x b p).2.2
 | [],x,p,h,hp => ⟨h,hp,Nat.le_refl _⟩
 | c :: b,x,p,h,hp => by
  unfold digits
  have hlt : p < bs.length := by
   rcases Nat.lt_or_ge p bs.length with q | q
   ·exact q
   ·rw [List.drop_eq_nil_iff.mpr q] at h; cases h
  have hb : b = bs.drop (p + 1) := by
   rw [List.drop_eq_getElem_cons hlt] at h; exact (List.cons.inj h).2
  cases hd : digitOf c with
  | none => exact ⟨h,hp,Nat.le_refl _⟩
  | some d =>
   simp only
   by_cases hm : 10 * x + d <= most
   ·rw [if_pos hm]; obtain ⟨h1,h2,h3⟩ := sk b (10 * x + d) (p + 1) hb (by omega); exact ⟨h1,h2,by omega⟩
   ·rw [if_neg hm]; exact ⟨h,hp,Nat.le_refl _⟩
theorem vq {most : Nat} : ∀ (b : Bytes) (x p : Nat),x <= most -> x <= (digits most x b p).1 /\ (digits most x b p).1 <= most
 | [],x,p,h => ⟨Nat.le_refl _,h⟩
 | c :: b,x,p,h => by
  unfold digits
  cases hd : digitOf c with
  | none => exact ⟨Nat.le_refl _,h⟩
  | some d =>
   simp only
   by_cases hm : 10 * x + d <= most
   ·rw [if_pos hm]; obtain ⟨h1,h2⟩ := vq b (10 * x + d) (p + 1) hm; exact ⟨by omega,h2⟩
   ·rw [if_neg hm]; exact ⟨Nat.le_refl _,h⟩
theorem c7 {bs : Bytes} {n c : Nat} (h : bs[n]? = some c) : bs.drop n = c :: bs.drop (n + 1) := by
 obtain ⟨hlt,e⟩ := List.getElem?_eq_some_iff.mp h; rw [List.drop_eq_getElem_cons hlt,e]
theorem fM {bs : Bytes} {n : Nat} (h : bs[n]? = none) : bs.drop n = [] := List.drop_eq_nil_iff.mpr (List.getElem?_eq_none_iff.mp h)
theorem pj {bs : Bytes} {least most n x : Nat} {rest : Bytes} {q : Nat} (h : cz least most (bs.drop n) n = .ok (x,rest,q)) : rest = bs.drop q /\ q <= bs.length /\ n < q /\ least <= x /\ x <= most := by
 cases hc : bs[n]? with
 | none => rw [fM hc] at h; cases h
 | some c =>
  have hlt := (List.getElem?_eq_some_iff.mp hc).1; rw [c7 hc] at h
  cases hd : digitOf c with
  | none => simp only [cz,hd] at h; cases h
  | some d =>
   simp only [cz,hd] at h
   by_cases hm : least <= d /\ d <= most
   ·rw [if_pos hm] at h
    by_cases h0 : d = 0
    ·rw [if_pos h0] at h; cases h; exact ⟨rfl,by omega,by omega,by omega,by omega⟩
    ·rw [if_neg h0] at h; have h1 := sk (bs := bs) (most := most) (bs.drop (n + 1)) d (n + 1) rfl (by omega); have h2 := vq (most := most) (bs.drop (n + 1)) d (n + 1) hm.2; have e := Except.ok.inj h; rw [e] at h1 h2; simp only at h1 h2; exact ⟨h1.1,h1.2.1,by omega,by omega,h2.2⟩
   ·rw [if_neg hm] at h; cases h
theorem p8 {bs : Bytes} {least most n e : Nat} (h : cz least most (bs.drop n) n = .error e) : e = n := by
 cases hc : bs[n]? with
 | none => rw [fM hc] at h; exact (Except.error.inj h).symm
 | some c =>
  rw [c7 hc] at h
  cases hd : digitOf c with
  | none => simp only [cz,hd] at h; exact (Except.error.inj h).symm
  | some d =>
   simp only [cz,hd] at h
   by_cases hm : least <= d /\ d <= most
   ·rw [if_pos hm] at h; cases h
   ·rw [if_neg hm] at h; exact (Except.error.inj h).symm
theorem tN {c d : Nat} (h : digitOf c = some d) : 48 <= c /\ c <= 57 /\ d = c - 48 := by
 unfold digitOf at h
 split at h
 ·rename_i hc; exact ⟨hc.1,hc.2,(Option.some.inj h).symm⟩
 ·cases h
end Ma

namespace Ma
open Ad
theorem aaO : GREAT.toNat = 1000000000000000 := rfl
theorem abc {bs : Bytes} {n : Nat} (h : bs[n]? = some 45) : cellIn (bs.drop n) n = match cz 1 1000000000000000 (bs.drop (n + 1)) (n + 1) with
  | .ok x => .ok (-(x.1 : Int),x.2)
  | .error e => .error e := by
 rw [c7 h,qQ]; rfl
theorem aaU {bs : Bytes} {n : Nat} (h : bs[n]? ≠ some 45) : cellIn (bs.drop n) n = match cz 0 1000000000000000 (bs.drop n) n with
  | .ok x => .ok ((x.1 : Int),x.2)
  | .error e => .error e := by
 cases hc : bs[n]? with
 | none => rw [fM hc]; rfl
 | some c =>
  have h45 : c ≠ 45 := fun e => h (by rw [hc,e])
  rw [c7 hc]; simp only [cellIn]; rw [if_neg h45]
  by_cases h48 : c = 48
  ·subst h48; rfl
  ·rw [if_neg h48,aaO]
   cases hd : digitOf c with
   | none => simp only [cz,oneTo,hd]
   | some d =>
    have hd2 := tN hd; simp only [cz,oneTo,hd]
    by_cases hm : 1 <= d /\ d <= 1000000000000000
    ·rw [if_pos hm,if_pos (by omega),if_neg (by omega)]
    ·exact absurd (show 1 <= d /\ d <= 1000000000000000 by omega) hm
def dF (s : List Nat) (b : Bytes) (p : Nat) : Rd Shape := match lensIn (4 - s.length) (product_ s) b p with
 | .ok y => .ok (s ++ y.1,y.2)
 | .error e => .error e
def li (bs : Bytes) (s : List Nat) (q : Nat) : Rd Shape := match bs[q]? with
 | none => .error q
 | some c => if c = 93 then .ok (s,bs.drop (q + 1),q + 1) else if c = 44 /\ s.length < 4 then dF s (bs.drop (q + 1)) (q + 1) else .error q
theorem abk (b : Bytes) (p : Nat) : dF [] b p = lensIn 4 1 b p := by
 show (match lensIn 4 1 b p with
  | .ok y => .ok ([] ++ y.1,y.2)
  | .error e => .error e : Rd Shape) = _
 cases lensIn 4 1 b p with
 | error e => rfl
 | ok y => rfl
theorem aa8 {bs : Bytes} {s : List Nat} {p e : Nat} (hs : s.length < 4) (h : cz 1 (1024 / product_ s) (bs.drop p) p = .error e) : dF s (bs.drop p) p = .error e := by
 unfold dF; rw [qQ] at h; have e1 : 4 - s.length = (3 - s.length) + 1 := by omega
 rw [e1,lensIn]; have e2 : CELLS = 1024 := rfl; rw [e2,h]
theorem abS {bs : Bytes} {s : List Nat} {p x q : Nat} {rest : Bytes} (hs : s.length < 4) (h : cz 1 (1024 / product_ s) (bs.drop p) p = .ok (x,rest,q)) : dF s (bs.drop p) p = li bs (s ++ [x]) q := by
 have hr := (pj h).1; unfold dF; rw [qQ] at h; have e1 : 4 - s.length = (3 - s.length) + 1 := by omega
 have e2 : CELLS = 1024 := rfl; rw [e1,lensIn,e2,h]; subst hr; unfold li; simp only
 cases hc : bs[q]? with
 | none => rw [fM hc]
 | some c =>
  rw [c7 hc]; simp only
  by_cases h93 : c = 93
  ·rw [if_pos h93,if_pos h93]
  ·rw [if_neg h93,if_neg h93]; have el : (s ++ [x]).length = s.length + 1 := by simp
   by_cases h44 : c = 44 /\ 0 < 3 - s.length
   ·rw [if_pos h44,if_pos ⟨h44.1,by omega⟩]; unfold dF
    have e3 : product_ (s ++ [x]) = product_ s * x := by
     rw [dH]; show _ * (x * 1) = _; rw [Nat.mul_one]
    have e4 : 4 - (s ++ [x]).length = 3 - s.length := by omega
    rw [e3,e4]
    cases lensIn (3 - s.length) (product_ s * x) (bs.drop (q + 1)) (q + 1) with
    | error e => rfl
    | ok y =>
     simp only; rw [List.append_assoc]; rfl
   ·rw [if_neg h44,if_neg (fun z => h44 ⟨z.1,by omega⟩)]
theorem sU {n i : Nat} (hn : 0 < n) : (i + 1) % n = if i % n + 1 = n then 0 else i % n + 1 := by
 have h := Nat.mod_lt i hn; rw [Nat.add_mod]
 by_cases h1 : n = 1
 ·subst h1; have : i % 1 = 0 := Nat.mod_one i; rw [this]; rfl
 ·rw [Nat.mod_eq_of_lt (show 1 < n by omega)]
  by_cases h2 : i % n + 1 = n
  ·rw [if_pos h2,h2,Nat.mod_self]
  ·rw [if_neg h2,Nat.mod_eq_of_lt (by omega)]
def cR (n k i : Nat) (cs : List Int) (b : Bytes) (p : Nat) : Rd (List Int) := match cellsIn n k i b p with
 | .ok z => .ok (cs ++ z.1,z.2)
 | .error e => .error e
theorem zx (n k i : Nat) (b : Bytes) (p : Nat) : cR n k i [] b p = cellsIn n k i b p := by
 unfold cR
 cases cellsIn n k i b p with
 | error e => rfl
 | ok y => rfl
theorem xK (n i : Nat) (cs : List Int) (b : Bytes) (p : Nat) : cR n 0 i cs b p = .ok (cs,b,p) := by
 unfold cR; show (Except.ok (cs ++ [],b,p) : Rd (List Int)) = _; rw [List.append_nil]
theorem zr {n k i : Nat} {cs : List Int} {b : Bytes} {p e : Nat} (h : cellIn b p = .error e) : cR n (k + 1) i cs b p = .error e := by
 unfold cR; rw [cellsIn,h]
theorem xp {bs : Bytes} {c q : Nat} (h : bs[q]? = some c) : byte c (bs.drop q) q = .ok ((),bs.drop (q + 1),q + 1) := by
 rw [c7 h]; exact if_pos rfl
theorem yh {bs : Bytes} {c q : Nat} (h : bs[q]? ≠ some c) : byte c (bs.drop q) q = .error q := by
 cases hc : bs[q]? with
 | none => rw [fM hc]; rfl
 | some d =>
  rw [c7 hc]; exact if_neg (fun e => h (by rw [hc,e]))
theorem aar {bs : Bytes} {n k i : Nat} {cs : List Int} {p q : Nat} {z : Int} (h : cellIn (bs.drop p) p = .ok (z,bs.drop q,q)) (hb : bs[q]? ≠ some (if i + 1 = n then 10 else 32)) : cR n (k + 1) i cs (bs.drop p) p = .error q := by
 unfold cR; rw [cellsIn,h]; simp only; rw [yh hb]
theorem yZ {bs : Bytes} {n k i : Nat} {cs : List Int} {p q : Nat} {z : Int} (h : cellIn (bs.drop p) p = .ok (z,bs.drop q,q)) (hb : bs[q]? = some (if i + 1 = n then 10 else 32)) :
  cR n (k + 1) i cs (bs.drop p) p = cR n k (if i + 1 = n then 0 else i + 1) (cs ++ [z]) (bs.drop (q + 1)) (q + 1) := by
 unfold cR; rw [cellsIn,h]; simp only; rw [xp hb]; simp only
 cases cellsIn n k (if i + 1 = n then 0 else i + 1) (bs.drop (q + 1)) (q + 1) with
 | error e => rfl
 | ok w =>
  simp only; rw [List.append_assoc]; rfl
end Ma

namespace L2
open PySem PySem.Spec PyProof.Rows
theorem aan : bootBuiltins "str" = some (.type "str") := by decide +kernel
theorem ft : bootBuiltins "ord" = some (.builtin "ord") := by decide +kernel
theorem wQ (i : Int) : TL.tl (Str.ofString (toString i)) = Ad.decimal i := by
 rw [TL.b0]
 cases i with
 | ofNat n =>
  show (Nat.repr n).toList.map Char.toNat = Ad.decimal (Int.ofNat n); unfold Ad.decimal; rw [if_neg (by simp)]; unfold Ad.decNat Nat.repr; rw [String.toList_ofList]; rfl
 | negSucc n =>
  show ("-" ++ Nat.repr (n + 1)).toList.map Char.toNat = Ad.decimal (Int.negSucc n); unfold Ad.decimal; rw [if_pos (Int.negSucc_lt_zero n),String.toList_append,List.map_append]; unfold Ad.decNat Nat.repr; rw [String.toList_ofList,String.toList_ofList]; rfl
theorem yA (n : Nat) : Ad.decimal (n : Int) = Ad.decNat n := by
 unfold Ad.decimal; rw [if_neg (by omega)]; rfl
theorem rC : ∀ (k n : Nat),n < 10 ^ (k + 1) -> (Ad.decNat n).length <= k + 1
 | 0,n,h => by
  rw [Ma.aaH (by omega)]
  simp
 | k + 1,n,h => by
  by_cases h10 : n < 10
  ·rw [Ma.aaH h10]
   simp
  ·rw [Ma.aa7 (by omega),List.length_append]; have := rC k (n / 10) (by rw [Nat.pow_succ] at h; omega); simp only [List.length_cons,List.length_nil]; omega
theorem sC {z : Int} (h : Ad.cellFine z = true) : (Ad.decimal z).length <= 17 := by
 have h2 := Ma.iz.mp h; have := rC 15 z.natAbs (by omega); unfold Ad.decimal
 split
 ·rw [List.length_cons]; omega
 ·omega
theorem t9 (c : Nat) : ∀ l : List (List Nat),TL.mm [c] l = Ad.joinWith c l
 | [] => rfl
 | [x] => rfl
 | x :: y :: r => by
  show x ++ ([c] ++ TL.mm [c] (y :: r)) = x ++ (c :: Ad.joinWith c (y :: r)); rw [t9 c (y :: r)]; rfl
theorem vh : ∀ l : List (List Nat),TL.mm [] l = l.flatten
 | [] => rfl
 | [x] => by simp [TL.mm]
 | x :: y :: r => by
  show x ++ ([] ++ TL.mm [] (y :: r)) = _; rw [vh (y :: r),List.nil_append]; rfl
theorem wE {y : Str} {c : Nat} (h : TL.tl y = [c]) (l : List Str) : TL.tl (Txt.join y l) = Ad.joinWith c (l.map TL.tl) := by
 rw [TL.yK,TL.u0,h,t9]
theorem aa1 {y : Str} (h : TL.tl y = []) (l : List Str) : TL.tl (Txt.join y l) = (l.map TL.tl).flatten := by
 rw [TL.yK,TL.u0,h,vh]
theorem wW {b : Nat} : ∀ {l : List Str},(∀ y ∈ l,y.length <= b) -> (l.map (·.length)).sum <= l.length * b
 | [],_ => by simp
 | y :: l,h => by
  have h1 := wW (l := l) fun z hz => h z (List.mem_cons_of_mem _ hz)
  have h2 := h y (List.mem_cons_self ..); rw [List.map_cons,List.sum_cons,List.length_cons,Nat.succ_mul]; omega
theorem sQ (c b : Nat) : ∀ {l : List (List Nat)},(∀ y ∈ l,y.length <= b) -> (Ad.joinWith c l).length <= l.length * (b + 1)
 | [],_ => by simp [Ad.joinWith]
 | [x],h => by
  have := h x (List.mem_cons_self ..); show x.length <= 1 * (b + 1); omega
 | x :: y :: r,h => by
  have h1 := sQ c b (l := y :: r) fun z hz => h z (List.mem_cons_of_mem _ hz)
  have h2 := h x (List.mem_cons_self ..); show (x ++ (c :: Ad.joinWith c (y :: r))).length <= _; rw [List.length_append,List.length_cons,List.length_cons (a := x),Nat.succ_mul]; omega
theorem xg.mul {k n : Nat} (hn : 1 <= n) (hn2 : n <= 1024) (h : k * n <= 1024) : xg 0 ((k * n : Nat) : Int) (n : Int) k := by
 have hk : k <= 1024 := Nat.le_trans (Nat.le_mul_of_pos_right k hn) h
 have e : Builtin.Range.rangeSize 0 ((k * n : Nat) : Int) (n : Int) = k := by
  unfold Builtin.Range.rangeSize; rw [if_pos (by omega)]
  by_cases h0 : k = 0
  ·subst h0; rw [if_neg (by simp)]; rfl
  ·have hpos : 0 < k * n := Nat.mul_pos (by omega) (by omega); rw [if_pos (by omega)]; have e1 : ((k * n : Nat) : Int) - 0 - 1 = ((k * n - 1 : Nat) : Int) := by omega
   rw [e1,← Int.natCast_ediv]
   have e2 : (k * n - 1) / n = k - 1 := by
    have : k * n - 1 = n * (k - 1) + (n - 1) := by
     have h3 : k * n = (k - 1) * n + n := by
      rw [← Nat.succ_mul]; congr 1; omega
     rw [h3,Nat.mul_comm n]; omega
    rw [this,Nat.mul_add_div (by omega),Nat.div_eq_of_lt (by omega),Nat.add_zero]
   rw [e2]; omega
 refine ⟨by omega,by omega,?_,e⟩; unfold Builtin.Range.small; rw [e]; have hj : (0 : Int) <= ((k * n : Nat) : Int) /\ ((k * n : Nat) : Int) <= 1024 := by omega
 have hr : (k : Int) <= 1024 := by omega
 have hnn : (1 : Int) <= (n : Int) /\ (n : Int) <= 1024 := by omega
 generalize ((k * n : Nat) : Int) = j at hj; have h0 : (0 : Int) <= (k : Int) := by omega
 generalize (k : Int) = kk at hr h0; generalize (n : Int) = nn at hnn
 have fit : ∀ i : Int,0 <= i -> i <= 10000 -> Builtin.Range.rangeFitsLong i = true := fun i h1 h2 => by
  unfold Builtin.Range.rangeFitsLong; rw [decide_eq_true (show -(2 ^ 63) <= i by omega),decide_eq_true (show i < 2 ^ 63 by omega)]; rfl
 rw [fit 0 (by omega) (by omega),fit nn (by omega) (by omega),fit j hj.1 (by omega),fit kk h0 (by omega),if_pos (by omega),fit (j + (nn - 1)) (by omega) (by omega)]
 simp
theorem vf (n : Nat) : ∀ (k : Nat) (l : List Int),Ad.rowsOf k n l = (List.range k).map fun i => (l.drop (i * n)).take n
 | 0,_ => rfl
 | k + 1,l => by
  rw [Ad.rowsOf,vf n k (l.drop n),List.range_succ_eq_map,List.map_cons,List.map_map,Nat.zero_mul,List.drop_zero]; congr 1; apply List.map_congr_left; intro i _; show ((l.drop n).drop (i * n)).take n = (l.drop ((i + 1) * n)).take n; rw [List.drop_drop,Nat.succ_mul,Nat.add_comm]
theorem yf {n : Nat} (g : Nat -> Str) : (List.range n).map (fun i => V.str (g i)) = ((List.range n).map g).map V.str := by
 rw [List.map_map]; rfl
end L2

namespace Go
open PySem PySem.Spec PyProof.Rows L2
open Ma (nz)
section
variable {P : Program} {w : World} {K : Fg} {mg : Str -> Option Value} {base : Heap} {C al : Addr}
def cM (K : Fg) : Sp := fun vs H Q _ => ∃ (a : Addr) (s : List Nat),vs = [.ref a] /\ ag K H a (vn s) /\ (∀ n ∈ s,n < 2 ^ 63) /\ Q (.int (Ad.product_ s)) H
theorem sc_cell_count : aq ["lengths","cells","length"] ["lengths"] (aj iF) := fs
theorem v8 (D : Df K mg "cell_count" "cell_count" iF ["lengths"]) : Ok P w K mg base 1 "cell_count" ["lengths"] (cM K) := by
 refine D.ok sc_cell_count (fun _ _ _ _ h => by obtain ⟨_,_,rfl,_⟩ := h; rfl) (fun f cdv A outer s H vs Q E hr h => ?_); obtain ⟨a,ns,rfl,hS,hb,k⟩ := h
 refine ⟨_,(ad (aH 1 sc_cell_count.nd ai)
  (ad (bS PassesOwn.never rfl (bD (pv 0)) (a0 2 sc_cell_count.nd) (ae (aH 1 sc_cell_count.nd (aV dm (pv 1) (pv 2)))))
  (ae (ah (pv 1))))),?_⟩
 refine ⟨_,rfl,a,rfl,⟨_,hS⟩,d_ (K := K) (a := a) (xs := vn ns) (fun i σ H' => ∃ (c : Int) (v : Option V),σ = [some (.ref a),some (.int c),v] /\ c = Ad.product_ (ns.take i) /\ H' = H)
  ⟨1,none,rfl,rfl,rfl⟩ (fun i σ H' _ ⟨_,_,_,_,e⟩ => e ▸ hS) ?_ ?_⟩
 ·rintro i x σ H' hi ⟨c,v,rfl,hc,rfl⟩; obtain ⟨z,hz,rfl⟩ := cO hi; have := hb z (List.mem_of_getElem? hz); refine ⟨_,rfl,_,rfl,_,_,rfl,rfl,.inr ⟨by omega,by omega⟩,_,_,rfl,?_,rfl⟩; rw [Ma.aaK hz,Int.natCast_mul,hc]
 ·rintro σ H' ⟨c,v,rfl,hc,rfl⟩; refine ⟨_,rfl,?_⟩; rw [List.length_map,List.length_map,List.take_length] at hc; rw [hc]; exact k
def cj (K : Fg) : Sp := fun vs H Q _ => ∃ (a : Addr) (s : List Nat),vs = [.ref a] /\ ag K H a (vn s) /\ (∀ n ∈ s,n < 2 ^ 63) /\ Q (.bl (Ad.shapeOk s)) H
theorem sc_is_shape : aq ["lengths","length"] ["lengths"] (aj kY) := fs
theorem xS (D : Df K mg "is_shape" "is_shape" kY ["lengths"]) (T : Txt K mg C) (a9 : Ok P w K mg base 1 "cell_count" ["lengths"] (cM K)) : Ok P w K mg base 2 "is_shape" ["lengths"] (cj K) := by
 refine D.ok sc_is_shape (fun _ _ _ _ h => by obtain ⟨_,_,rfl,_⟩ := h; rfl) (fun f cdv A outer s H vs Q E hr h => ?_); obtain ⟨a,ns,rfl,hS,hb,k⟩ := h
 refine ⟨_,(ad (aw (aF k_ (bA T.b_len (pv 0)) (aO T.g_MOST_LENGTHS)) (ae (ah dC)) ao)
  (ad (bS PassesOwn.never rfl (bD (pv 0)) (a0 1 sc_is_shape.nd) (ae (aw (aF iZ (pv 1) ai) (ae (ah dC)) ao)))
  (ae (ah (lZ iB (ap a9 hr (ab (pv 0) ac)) (aO T.g_MOST_CELLS)))))),?_⟩
 refine ⟨_,rfl,a,_,rfl,.inl hS,_,_,rfl,rfl,_,rfl,ba (fun h => ?_) (fun h => ?_)⟩
 ·have h1 := of_decide_eq_true h
  have e : Ad.shapeOk ns = false := by
   cases e : Ad.shapeOk ns with
   | false => rfl
   | true =>
    have := (Ma.aE e).1; simp at h1; omega
  rw [e] at k; exact k
 ·have h1 : ns.length <= 4 := by
   simp at h; omega
  refine ⟨_,rfl,a,rfl,⟨_,hS⟩,d_ (K := K) (a := a) (xs := vn ns) (fun i σ H' => ∃ (v : Option V),σ = [some (.ref a),v] /\ (∀ n ∈ ns.take i,1 <= n) /\ H' = H)
   ⟨none,rfl,by simp,rfl⟩ (fun i σ H' _ ⟨_,_,_,e⟩ => e ▸ hS) ?_ ?_⟩
  ·rintro i x σ H' hi ⟨v,rfl,hc,rfl⟩; obtain ⟨z,hz,rfl⟩ := cO hi; refine ⟨_,rfl,_,_,rfl,rfl,_,rfl,ba (fun h => ?_) (fun h => ?_)⟩
   ·have h2 := of_decide_eq_true h
    have e : Ad.shapeOk ns = false := by
     cases e : Ad.shapeOk ns with
     | false => rfl
     | true =>
      have := (Ma.aE e).2.1 z (List.mem_of_getElem? hz); omega
    rw [e] at k; exact k
   ·refine ⟨_,rfl,fun n hn => ?_,rfl⟩; rw [bU hz] at hn
    rcases List.mem_append.mp hn with q | q
    ·exact hc n q
    ·have : n = z := by simpa using q
     simp at h; omega
  ·rintro σ H' ⟨v,rfl,hc,rfl⟩; rw [List.length_map,List.length_map,List.take_length] at hc; refine ⟨_,rfl,a,ns,rfl,hS,hb,_,_,rfl,rfl,?_⟩
   have e : Ad.shapeOk ns = decide ((Ad.product_ ns : Int) <= 1024) := by
    by_cases q : Ad.product_ ns <= 1024
    ·rw [Ma.shape_iff.mpr ⟨h1,hc,q⟩,decide_eq_true (by omega)]
    ·rw [decide_eq_false (by omega)]
     cases e : Ad.shapeOk ns with
     | false => rfl
     | true => exact absurd (Ma.aE e).2.2 q
   rw [e] at k; exact k
def mY (K : Fg) : Sp := fun vs H Q _ => ∃ (a b : Addr) (s p : List Nat),vs = [.ref a,.ref b] /\ ag K H a (vn s) /\ ag K H b (vn p) /\ ∀ H',ak H H' -> Q (.bl (Ad.has s p)) H'
theorem sc_is_place : aq ["lengths","place","length","number"] ["lengths","place"] (aj kU) := fs
theorem x6 (D : Df K mg "is_place" "is_place" kU ["lengths","place"]) (T : Txt K mg C) : Ok P w K mg base 1 "is_place" ["lengths","place"] (mY K) := by
 refine D.ok sc_is_place (fun _ _ _ _ h => by obtain ⟨_,_,_,_,rfl,_⟩ := h; rfl) (fun f cdv A outer s H vs Q E hr h => ?_); obtain ⟨a,b,ns,p,rfl,ha,hb,k⟩ := h
 refine ⟨_,(ad (aw (aF bB (bA T.b_len (pv 1)) (bA T.b_len (pv 0))) (ae (ah dC)) ao)
  (ad (bS PassesOwn.never rfl (fv rfl T.b_zip (ab (pv 0) (ab (pv 1) ac))) (gQ rfl (be (a0 2 sc_is_place.nd) (be (a0 3 sc_is_place.nd) cX))) (ae (aw (PW.pt (dD (aF iZ (pv 3) ai) (dn (aF mE (pv 3) (pv 2))))) (ae (ah dC)) ao)))
  (ae (ah dC)))),?_⟩
 refine ⟨_,rfl,b,_,rfl,.inl hb,_,rfl,a,_,rfl,.inl ha,rfl,_,rfl,?_⟩
 by_cases hl : p.length = ns.length
 ·refine br (by rw [List.length_map,List.length_map,List.length_map,List.length_map,hl]) ?_
  refine ⟨_,rfl,_,rfl,a,b,_,_,rfl,ha,hb,iu (K := K) (a := a) (b := b) (xs := vn ns) (ys := vn p) (fun i σ H' => ∃ (v u : Option V),σ = [some (.ref a),some (.ref b),v,u] /\ (∀ (j x y : Nat),j < i -> ns[j]? = some x -> p[j]? = some y -> y < x) /\ ak H H')
   ⟨none,none,rfl,by omega,ak.refl H⟩ (by simp [hl]) (fun i σ H' _ ⟨_,_,_,_,e⟩ => ⟨e.seq ha,e.seq hb⟩) ?_ ?_⟩
  ·rintro i x y σ H' T hx0 hy0 hT ⟨v,u,rfl,hc,sm⟩; obtain ⟨x,hx,rfl⟩ := cO hx0; obtain ⟨y,hy,rfl⟩ := cO hy0; refine ⟨T,_,rfl,cG.of am,rfl,_,_,rfl,_,_,rfl,rfl,_,rfl,_,_,rfl,rfl,_,rfl,ba (fun h => ?_) (fun h => ?_)⟩
   ·have h2 := of_decide_eq_true h; omega
   ·refine ⟨_,rfl,_,rfl,_,_,rfl,rfl,_,rfl,ba (fun h => ?_) (fun h => ?_)⟩
    ·have h2 := of_decide_eq_true h; have e := Ma.aad hx hy (by omega); rw [e] at k; exact k _ (sm.upd (sm.free hT))
    ·simp at h; refine ⟨_,_,rfl,fun j x' y' hj e1 e2 => ?_,sm.upd (sm.free hT)⟩
     by_cases hji : j = i
     ·subst hji; rw [hx] at e1; rw [hy] at e2; cases e1; cases e2; omega
     ·exact hc j x' y' (by omega) e1 e2
  ·rintro σ H' ⟨v,u,rfl,hc,sm⟩; have e : Ad.has ns p = true := Ma.in_iff.mp (Ma.In.mk hl fun j x y e1 e2 => hc j x y (by have := (List.getElem?_eq_some_iff.mp e1).1; simp; omega) e1 e2); rw [e] at k; exact k _ sm
 ·have e : Ad.has ns p = false := by
   cases e : Ad.has ns p with
   | false => rfl
   | true => exact absurd (Ma.in_iff.mpr e).len hl
  rw [e] at k; refine ba (fun _ => k _ (ak.refl H)) (fun h => absurd ?_ h)
  simp
  omega
def f9 (K : Fg) : Sp := fun vs H Q _ => ∃ (a b : Addr) (s p : List Nat),vs = [.ref a,.ref b] /\ ag K H a (vn s) /\ ag K H b (vn p) /\ p.length = s.length /\ (∀ n ∈ s,n < 2 ^ 63) /\ ∀ H',ak H H' -> Q (.int (Ad.cellOf s p)) H'
theorem sc_number_of : aq ["lengths","place","cell","length","number"] ["lengths","place"] (aj jR) := fs
theorem xq (D : Df K mg "number_of" "number_of" jR ["lengths","place"]) (T : Txt K mg C) : Ok P w K mg base 1 "number_of" ["lengths","place"] (f9 K) := by
 refine D.ok sc_number_of (fun _ _ _ _ h => by obtain ⟨_,_,_,_,rfl,_⟩ := h; rfl) (fun f cdv A outer s H vs Q E hr h => ?_); obtain ⟨a,b,ns,p,rfl,ha,hb,hl,hbd,k⟩ := h
 refine ⟨_,(ad (aH 2 sc_number_of.nd ai)
  (ad (bS PassesOwn.never rfl (fv rfl T.b_zip (ab (pv 0) (ab (pv 1) ac))) (gQ rfl (be (a0 3 sc_number_of.nd) (be (a0 4 sc_number_of.nd) cX))) (ae (aH 2 sc_number_of.nd (aV cP (aV dm (pv 2) (pv 3)) (pv 4)))))
  (ae (ah (pv 2))))),?_⟩
 refine ⟨_,rfl,_,rfl,a,b,_,_,rfl,ha,hb,iu (K := K) (a := a) (b := b) (xs := vn ns) (ys := vn p) (fun i σ H' => ∃ (c : Int) (v u : Option V),σ = [some (.ref a),some (.ref b),some (.int c),v,u] /\ c = Ad.cellOf (ns.take i) (p.take i) /\ ak H H')
  ⟨0,none,none,rfl,rfl,ak.refl H⟩ (by simp [hl]) (fun i σ H' _ ⟨_,_,_,_,_,e⟩ => ⟨e.seq ha,e.seq hb⟩) ?_ ?_⟩
 ·rintro i x y σ H' T hx0 hy0 hT ⟨c,v,u,rfl,hc,sm⟩; obtain ⟨x,hx,rfl⟩ := cO hx0; obtain ⟨y,hy,rfl⟩ := cO hy0; have := hbd x (List.mem_of_getElem? hx); refine ⟨T,_,rfl,cG.of am,rfl,_,_,rfl,_,_,rfl,rfl,_,rfl,_,rfl,_,_,rfl,rfl,.inr ⟨by omega,by omega⟩,_,rfl,_,_,rfl,rfl,_,_,_,rfl,?_,sm.upd (sm.free hT)⟩; rw [Ma.x_ hx hy hl,Int.natCast_add,Int.natCast_mul,hc]
 ·rintro σ H' ⟨c,v,u,rfl,hc,sm⟩; refine ⟨_,rfl,?_⟩; rw [List.length_map,List.length_map,List.take_length,← hl,List.take_length] at hc; rw [hc]; exact k _ sm
def si (K : Fg) : Sp := fun vs H Q _ => ∃ (a : Addr) (s : List Nat) (c : Nat),vs = [.ref a,.int c] /\ ag K H a (vn s) /\ Ad.shapeOk s = true /\ c < Ad.product_ s /\ ∀ H' q,ak H H' -> H q = none -> H' q = some (.lst (vn (Ad.placeOf s c))) -> Q (.ref q) H'
theorem sc_place_of : aq ["lengths","cell","place","left","length"] ["lengths","cell"] (aj lf) := fs
theorem x5 (D : Df K mg "place_of" "place_of" lf ["lengths","cell"]) (T : Txt K mg C) : Ok P w K mg base 1 "place_of" ["lengths","cell"] (si K) := by
 refine D.ok sc_place_of (fun _ _ _ _ h => by obtain ⟨_,_,_,rfl,_⟩ := h; rfl) (fun f cdv A outer s H vs Q E hr h => ?_); obtain ⟨a,ns,c,rfl,ha,hsh,hc,k⟩ := h; obtain ⟨hs1,hs2,hs3⟩ := Ma.aE hsh
 refine ⟨_,(ad (aH 2 sc_place_of.nd (az ac))
  (ad (aH 3 sc_place_of.nd (pv 1))
  (ad (bS PassesOwn.never rfl (xI rfl T.b_reversed (ab (pv 0) ac)) (a0 4 sc_place_of.nd) (ad (cI (gw PySem.F.plainAttrs_list PySem.F.slot_list_append PySem.F.type_list_append dc (pv 2) (ab (aV wF (pv 3) (pv 4)) ac)))
  (ae (aH 3 sc_place_of.nd (aV yO (pv 3) (pv 4))))))
  (ad (cI (acx PySem.F.plainAttrs_list PySem.F.slot_list_reverse PySem.F.type_list_reverse zi (pv 2)))
  (ae (ah (pv 2))))))),?_⟩
 refine ⟨Nat.zero_le _,fun q hq => ?_⟩
 refine ⟨_,rfl,_,rfl,a,vn ns,rfl,(ak.new hq).seq ha,abQ (K := K) (a := a) (xs := vn ns) (fun i σ H' => ∃ (left : Int) (v : Option V) (acc : List Nat),σ = [some (.ref a),some (.int c),some (.ref q),some (.int left),v] /\ H' q = some (.lst (vn acc)) /\ acc.reverse = Ma.oC (ns.drop (ns.length - i)) c /\ left = ((c / Ad.product_ (ns.drop (ns.length - i)) : Nat) : Int) /\ ak H H')
  ⟨c,none,[],rfl,am,by simp [Ma.oC],by simp [Ma.lP],ak.new hq⟩ (fun i σ H' _ ⟨_,_,_,_,_,_,_,e⟩ => e.seq ha) ?_ ?_⟩
 ·rintro i x σ H' hi hx0 ⟨left,v,acc,rfl,hq',hacc,hleft,sm⟩; obtain ⟨x,hx,rfl⟩ := cO hx0; rw [List.length_map,List.length_map] at hx hi; have h1 := hs2 x (List.mem_of_getElem? hx); have h2 := Ma.cg hs2 x (List.mem_of_getElem? hx); have e1 : ns.length - (i + 1) + 1 = ns.length - i := by omega
  have hx' : ns[ns.length - (i + 1)]? = some x := by
   rw [← hx]; congr 1; omega
  have e2 := Ma.abq (c := c) hx'; have e3 := Ma.aav hx'; rw [e1] at e2 e3
  have hal : acc.length = i := by
   have := congrArg List.length hacc; rw [List.length_reverse,Ma.yN,List.length_drop] at this; omega
  refine ⟨_,rfl,.inl ⟨rfl,_,ag.of hq'⟩,_,rfl,_,rfl,_,_,rfl,rfl,(by show (0 : Int) < (x : Int); omega),q,_,_,rfl,rfl,hq',(by rw [List.length_map,List.length_map,hal]; show i < 2 ^ 24; omega),?_⟩; refine ⟨_,rfl,_,rfl,_,_,rfl,rfl,⟨(by show (0 : Int) < (x : Int); omega),(by show (x : Int) < 1073741824; omega)⟩,_,_,acc ++ [(c / Ad.product_ (ns.drop (ns.length - i))) % x],rfl,?_,?_,?_,sm.upd hq⟩
  ·rw [am,qT,hleft]; rfl
  ·rw [List.reverse_append,e2,hacc]; rfl
  ·rw [e3,hleft,Nat.mul_comm x,← Nat.div_div_eq_div_mul]; rfl
 ·rintro σ H' ⟨left,v,acc,rfl,hq',hacc,hleft,sm⟩; refine ⟨_,rfl,.inl ⟨rfl,_,ag.of hq'⟩,q,_,rfl,rfl,hq',_,rfl,?_⟩; refine k _ q (sm.upd hq) hq ?_; rw [am]; rw [List.length_map,List.length_map,Nat.sub_self,List.drop_zero,Ma.vv _ _ hc] at hacc; rw [← hacc,acr]
def Pls (H : Hp) (D : Addr) (s : List Nat) : Prop := ∃ qs : List Addr,H D = some (.lst (qs.map V.ref)) /\ qs.length = Ad.product_ s /\ ∀ (c : Nat) q,qs[c]? = some q -> H q = some (.lst (vn (Ad.placeOf s c)))
def eQ (K : Fg) : Sp := fun vs H Q _ => ∃ (a : Addr) (s : List Nat),vs = [.ref a] /\ ag K H a (vn s) /\ Ad.shapeOk s = true /\ ∀ H' q,ak H H' -> H q = none -> Pls H' q s -> Q (.ref q) H'
theorem sc_places_of : aq ["lengths","cell"] ["lengths"] (aj gR) := fs
theorem xb (D : Df K mg "places_of" "places_of" gR ["lengths"]) (T : Txt K mg C) (a9 : Ok P w K mg base 1 "cell_count" ["lengths"] (cM K)) (oT : Ok P w K mg base 1 "place_of" ["lengths","cell"] (si K)) : Ok P w K mg base 2 "places_of" ["lengths"] (eQ K) := by
 refine D.ok sc_places_of (fun _ _ _ _ h => by obtain ⟨_,_,rfl,_⟩ := h; rfl) (fun f cdv A outer s H vs Q E hr h => ?_); obtain ⟨a,ns,rfl,ha,hsh,k⟩ := h; obtain ⟨hs1,hs2,hs3⟩ := Ma.aE hsh; have hb : ∀ n ∈ ns,n < 2 ^ 63 := fun n hn => Nat.lt_of_le_of_lt (Nat.le_trans (Ma.cg hs2 n hn) hs3) (by decide)
 refine ⟨_,(ae (ah (dB rfl sc_places_of.nd (d9 rfl T.b_range (ab (ap a9 hr (ab (pv 0) ac)) ac)) (a_ (N := ["lengths","cell"]) (sc := aj gR) (own := [("cell",1)]) (by decide +kernel)) (fun _ _ _ _ _ => (a0 1 sc_places_of.nd)) (fun _ _ _ _ _ => bt) (fun _ _ _ _ _ => (ap oT hr (ab (pv 0) (ab (pv 1) ac))))))),?_⟩; refine ⟨_,rfl,a,ns,rfl,ha,hb,_,rfl,by omega,by omega,fun q hq => ?_⟩; refine pq (fX) (fun i => vn (Ad.placeOf ns i)) hq (by show _ <= 2 ^ 24; omega) ?_ bg ?_
 ·rintro i H1 x H2 hi sm ⟨rfl,rfl⟩ Q' kq; refine ⟨rfl,_,rfl,_,rfl,a,ns,i,?_,sm.seq ha,hsh,by omega,fun H3 q3 s3 n3 h3 => kq q3 H3 s3 n3 h3⟩; rw [Int.zero_add]; rfl
 ·intro H' qs sm h1 h2 h3; exact k H' q sm hq ⟨qs,h1,by rw [h2]; rfl,h3⟩
end
end Go

namespace Go
open PySem PySem.Spec PyProof.Rows L2
section
variable {P : Program} {w : World} {K : Fg} {mg : Str -> Option Value} {base : Heap} {C al : Addr}
def bP (C : Addr) : Sp := fun vs H Q _ => ∃ p dx a b : Addr,vs = [.ref p,.ref a,.ref b] /\ H p = some (.ins C dx []) /\ ∀ H' : Hp,H' p = some (.ins C dx (af a b)) -> (∀ b o,H b = some o -> b ≠ p -> H' b = some o) -> Q .non H'
theorem rR : aq ["self","lengths","cells"] ["self","lengths","cells"] (aj fh) := fs
theorem abw (D : wU K mg "Array" C fh ["self","lengths","cells"]) (T : Txt K mg C) : dS P w K mg base 1 "Array" C ["self","lengths","cells"] (bP C) := by
 refine D.ok rR (fun _ _ _ _ h => by obtain ⟨_,_,_,_,rfl,_⟩ := h; rfl) (fun q f cdv A outer s H vs Q E hr h => ?_); obtain ⟨p,dx,a,b,rfl,hp,k⟩ := h
 refine ⟨_,(ad (lu (pv 0) (pv 1) rfl)
  (ae (lu (pv 0) (pv 2) rfl))),?_⟩
 refine ⟨_,rfl,_,rfl,p,C,dx,[],rfl,hp,T.cl,T.nL,(by show 0 < 1000; decide),?_⟩; refine ⟨_,rfl,_,rfl,p,C,dx,_,rfl,am,T.cl,T.nC,(by show 1 < 1000; decide),?_⟩; exact k _ am fun b o e hb => by rw [aK hb,aK hb]; exact e
theorem pC {H : Hp} {Q : VK} {a b : Addr} {A : Ad.Arr} (ha : H a = some (.lst (vn A.shape))) (hb : H b = some (.lst (vi A.cells))) (k : ∀ x H',H x = none -> ak H H' -> b_ C H' x A -> Q (.ref x) H') :
  ∀ x dx,H x = none -> H dx = none -> dx ≠ x -> bP C (.ref x :: ([.ref a,.ref b] ++ [])) (upd (upd H dx (.own x)) x (.ins C dx [])) (fun v H2 => v = .non /\ Q (.ref x) H2) E0 := by
 intro x dx hx hdx hne; refine ⟨x,dx,a,b,rfl,am,fun H' h1 h2 => ⟨rfl,?_⟩⟩; have sm : ak H H' := ak.made hx hdx h2; exact k x H' hx sm ⟨dx,a,b,h1,sm _ _ ha,sm _ _ hb⟩
def gz : Sp := fun vs H Q _ => ∃ z : Int,vs = [.int z] /\ Q (.bl (Ad.cellFine z)) H
theorem zH : aq ["number"] ["number"] (aj mG) := fs
theorem yS (D : Df K mg "is_cell" "is_cell" mG ["number"]) (T : Txt K mg C) : Ok P w K mg base 1 "is_cell" ["number"] (gz) := by
 refine D.ok zH (fun _ _ _ _ h => by obtain ⟨_,rfl,_⟩ := h; rfl) (fun f cdv A outer s H vs Q E hr h => ?_); obtain ⟨z,rfl,k⟩ := h; refine ⟨_,(ae (ah (pY (lZ iB (rG on (aO T.g_GREATEST_CELL)) (pv 0)) (tO (lZ iB (pv 0) (aO T.g_GREATEST_CELL)))))),?_⟩; refine ⟨_,rfl,_,rfl,_,_,rfl,rfl,_,rfl,ba (fun h => ?_) (fun h => ?_)⟩
 ·refine ⟨_,rfl,_,_,rfl,rfl,?_⟩
  have e : Ad.cellFine z = decide (z <= 1000000000000000) := by
   have h1 := of_decide_eq_true h; unfold Ad.cellFine Ad.GREAT; rw [decide_eq_true (show (-1000000000000000 : Int) <= z by omega),Bool.true_and]
  rw [e] at k; exact k
 ·have e : Ad.cellFine z = false := by
   simp at h; unfold Ad.cellFine Ad.GREAT; rw [decide_eq_false (show ¬ (-1000000000000000 : Int) <= z by omega),Bool.false_and]
  rw [e] at k; exact k
def iJ (K : Fg) (C : Addr) : Sp := fun vs H Q _ => ∃ (x p : Addr) (A : Ad.Arr) (pl : List Nat),vs = [.ref x,.ref p] /\ b_ C H x A /\ A.ok = true /\ ag K H p (vn pl) /\ Ma.In A.shape pl /\ ∀ H',ak H H' -> Q (.int (A.at_ pl)) H'
theorem yX : aq ["array","place"] ["array","place"] (aj mr) := fs
theorem zp (D : Df K mg "cell_at" "cell_at" mr ["array","place"]) (T : Txt K mg C) (bZ : Ok P w K mg base 1 "number_of" ["lengths","place"] (f9 K)) : Ok P w K mg base 2 "cell_at" ["array","place"] (iJ K C) := by
 refine D.ok yX (fun _ _ _ _ h => by obtain ⟨_,_,_,_,rfl,_⟩ := h; rfl) (fun f cdv A outer s H vs Q E hr h => ?_); obtain ⟨x,p,A',pl,rfl,⟨dx,a,b,h1,h2,h3⟩,ho,hp,hin,k⟩ := h; refine ⟨_,(ae (ah (au (aD (pv 0) rfl) (ap bZ hr (ab (aD (pv 0) rfl) (ab (pv 1) ac)))))),?_⟩; refine ⟨_,rfl,x,C,dx,_,_,rfl,h1,T.cl,T.nC,cy a b,_,rfl,x,C,dx,_,_,rfl,h1,T.cl,T.nL,aU a b,_,rfl,a,p,A'.shape,pl,rfl,ag.of h2,hp,hin.len,ci (aG ho).1,fun H' sm => ?_⟩; exact ⟨b,_,_,_,rfl,rfl,ag.of (sm _ _ h3),bE (cB (w8 ho hin)),k H' sm⟩
def oj (C : Addr) : Sp := fun vs H Q _ => vs = [] /\ ∀ H' l,ak H H' -> H l = none -> aB C H' l Ay.start -> Q (.ref l) H'
theorem sc_empty_slots : aq ["slot"] [] (aj fw) := fs
theorem uC (D : Df K mg "empty_slots" "empty_slots" fw []) (T : Txt K mg C) : Ok P w K mg base 1 "empty_slots" [] (oj C) := by
 refine D.ok sc_empty_slots (fun _ _ _ _ h => by obtain ⟨rfl,_⟩ := h; rfl) (fun f cdv A outer s H vs Q E hr h => ?_); obtain ⟨rfl,k⟩ := h; refine ⟨_,(ae (ah (dB rfl sc_empty_slots.nd (d9 rfl T.b_range (ab (aO T.g_SLOTS) ac)) (a_ (N := ["slot"]) (sc := aj fw) (own := [("slot",0)]) (by decide +kernel)) (fun _ _ _ _ _ => (a0 0 sc_empty_slots.nd)) (fun _ _ _ _ _ => bt) (fun _ _ _ _ _ => cQ)))),?_⟩; refine ⟨8,rfl,by decide,by decide,fun q hq => ?_⟩; refine cF (fX) (fun i => V.non) hq (by decide) ?_ bg ?_
 ·rintro i H1 x H2 hi sm ⟨rfl,rfl⟩ Q' kq; exact ⟨rfl,kq _ (ak.refl _)⟩
 ·intro H' sm h1; refine k H' q sm hq ⟨_,h1,rfl,rfl,fun i v o e1 e2 => ?_⟩
  have hi : i < 8 := by
   have := (List.getElem?_eq_some_iff.mp e1).1
   simpa using this
  match i,hi,e1,e2 with
  | 0,_,e1,e2 => cases e1; cases e2; exact rfl
  | 1,_,e1,e2 => cases e1; cases e2; exact rfl
  | 2,_,e1,e2 => cases e1; cases e2; exact rfl
  | 3,_,e1,e2 => cases e1; cases e2; exact rfl
  | 4,_,e1,e2 => cases e1; cases e2; exact rfl
  | 5,_,e1,e2 => cases e1; cases e2; exact rfl
  | 6,_,e1,e2 => cases e1; cases e2; exact rfl
  | 7,_,e1,e2 => cases e1; cases e2; exact rfl
def eg (k : Nat) : Int := if 8 <= k then -1 else 0
def cu (t : Ay.State) (i : Nat) : Int := if 8 <= i then -1 else match t.getD i none with
 | none => -2
 | some _ => 0
def cp (t : Ay.State) : List Nat -> Int
 | [] => 0
 | i :: r => if cu t i = 0 then cp t r else cu t i
def bK (t : Ay.State) (k : Nat) (l : List Nat) : Int := if eg k = 0 then cp t l else eg k
def ca : Sp := fun vs H Q _ => ∃ k : Nat,vs = [.int k] /\ Q (.int (eg k)) H
theorem rP : aq ["k"] ["k"] (aj fk) := fs
theorem rZ (D : Df K mg "target_refusal" "target_refusal" fk ["k"]) (T : Txt K mg C) : Ok P w K mg base 1 "target_refusal" ["k"] (ca) := by
 refine D.ok rP (fun _ _ _ _ h => by obtain ⟨_,rfl,_⟩ := h; rfl) (fun f cdv A outer s H vs Q E hr h => ?_); obtain ⟨z,rfl,k⟩ := h
 refine ⟨_,(ad (aw (aF mE (pv 0) (aO T.g_SLOTS)) (ae (ah (aO T.g_WRONG))) ao)
  (ae (ah ai))),?_⟩
 refine ⟨_,rfl,_,_,rfl,rfl,_,rfl,ba (fun h => ?_) (fun h => ?_)⟩
 ·have h1 := of_decide_eq_true h; rw [eg,if_pos (by omega)] at k; exact k
 ·simp at h; rw [eg,if_neg (by omega)] at k; exact k
theorem aB.get {H : Hp} {l : Addr} {t : Ay.State} (S : aB C H l t) {i : Nat} (hi : i < 8) : ∃ vs v,H l = some (.lst vs) /\ vs[i]? = some v /\ vs.length = 8 /\ jE C H (t.getD i none) v := by
 obtain ⟨vs,h1,h2,h3,h4⟩ := S.ex; have e1 : vs[i]? = some vs[i] := List.getElem?_eq_getElem (by omega); have e2 : t[i]? = some t[i] := List.getElem?_eq_getElem (by omega); refine ⟨vs,vs[i],h1,e1,h2,?_⟩; rw [List.getD_eq_getElem?_getD,e2]; exact h4 i _ _ e1 e2
def cb (C : Addr) : Sp := fun vs H Q _ => ∃ (l : Addr) (t : Ay.State) (i : Nat),vs = [.ref l,.int i] /\ aB C H l t /\ Q (.int (cu t i)) H
theorem rX : aq ["slots","i"] ["slots","i"] (aj eY) := fs
theorem rT (D : Df K mg "source_refusal" "source_refusal" eY ["slots","i"]) (T : Txt K mg C) : Ok P w K mg base 1 "source_refusal" ["slots","i"] (cb C) := by
 refine D.ok rX (fun _ _ _ _ h => by obtain ⟨_,_,_,rfl,_⟩ := h; rfl) (fun f cdv A outer s H vs Q E hr h => ?_); obtain ⟨l,t,i,rfl,S,k⟩ := h
 refine ⟨_,(ad (aw (aF mE (pv 1) (aO T.g_SLOTS)) (ae (ah (aO T.g_WRONG))) ao)
  (ad (aw (d8 (eT (au (pv 0) (pv 1)))) (ae (ah (aO T.g_EMPTY))) ao)
  (ae (ah ai)))),?_⟩
 refine ⟨_,rfl,_,_,rfl,rfl,_,rfl,ba (fun h => ?_) (fun h => ?_)⟩
 ·have h1 := of_decide_eq_true h; rw [cu,if_pos (by omega)] at k; exact k
 ·simp at h; rw [cu,if_neg (by omega)] at k; obtain ⟨vs,v,g1,g2,g3,g4⟩ := aB.get S (show i < 8 by omega); refine ⟨_,rfl,_,rfl,l,vs,_,v,rfl,rfl,ag.of g1,bE g2,_,rfl,?_⟩
  cases o : t.getD i none with
  | none =>
   rw [o] at g4 k; rw [show v = .non from g4]; exact k
  | some A =>
   rw [o] at g4 k; obtain ⟨x,rfl,_⟩ := g4; exact k
def c_ (K : Fg) (C : Addr) : Sp := fun vs H Q _ => ∃ (l a : Addr) (t : Ay.State) (is : List Nat),vs = [.ref l,.ref a] /\ aB C H l t /\ ag K H a (vn is) /\ Q (.int (cp t is)) H
theorem oV {t : Ay.State} : ∀ {l : List Nat} {i : Nat},(∀ n ∈ l.take i,cu t n = 0) -> cp t l = cp t (l.drop i)
 | l,0,_ => rfl
 | [],_ + 1,_ => rfl
 | n :: l,i + 1,h => by
  have e : cu t n = 0 := h n (List.mem_cons_self ..); show (if cu t n = 0 then cp t l else cu t n) = cp t (l.drop i); rw [if_pos e]; exact oV fun m hm => h m (List.mem_cons_of_mem _ hm)
theorem sc_sources_refusal : aq ["slots","sources","i","refusal"] ["slots","sources"] (aj eB) := fs
theorem qZ (D : Df K mg "sources_refusal" "sources_refusal" eB ["slots","sources"]) (T : Txt K mg C) (aY : Ok P w K mg base 1 "source_refusal" ["slots","i"] (cb C)) : Ok P w K mg base 2 "sources_refusal" ["slots","sources"] (c_ K C) := by
 refine D.ok sc_sources_refusal (fun _ _ _ _ h => by obtain ⟨_,_,_,_,rfl,_⟩ := h; rfl) (fun f cdv A outer s H vs Q E hr h => ?_); obtain ⟨l,a,t,is,rfl,S,ha,k⟩ := h
 refine ⟨_,(ad (bS PassesOwn.never rfl (bD (pv 1)) (a0 2 sc_sources_refusal.nd) (ad (aH 3 sc_sources_refusal.nd (ap aY hr (ab (pv 0) (ab (pv 2) ac))))
  (ae (aw (aF bB (pv 3) ai) (ae (ah (pv 3))) ao))))
  (ae (ah ai))),?_⟩
 refine ⟨_,rfl,a,rfl,⟨_,ha⟩,d_ (K := K) (a := a) (xs := vn is) (fun i σ H' => ∃ (u v : Option V),σ = [some (.ref l),some (.ref a),u,v] /\ (∀ n ∈ is.take i,cu t n = 0) /\ H' = H)
  ⟨none,none,rfl,by simp,rfl⟩ (fun i σ H' _ ⟨_,_,_,_,e⟩ => e ▸ ha) ?_ ?_⟩
 ·rintro i x σ H' hi ⟨u,v,rfl,hc,rfl⟩; obtain ⟨z,hz,rfl⟩ := cO hi; refine ⟨_,rfl,_,rfl,l,t,z,rfl,S,?_⟩; refine ⟨_,rfl,rfl,_,rfl,?_⟩
  by_cases h0 : cu t z = 0
  ·refine br (congrArg V.int h0) ?_; refine ⟨_,_,rfl,fun n hn => ?_,rfl⟩; rw [bU hz] at hn
   rcases List.mem_append.mp hn with q | q
   ·exact hc n q
   ·have e : n = z := by simpa using q
    rw [e]; exact h0
  ·refine ba (fun _ => ?_) (fun h => absurd ?_ h)
   ·refine ⟨_,rfl,?_⟩
    have e : cp t is = cu t z := by
     rw [oV hc]; obtain ⟨hlt,e⟩ := List.getElem?_eq_some_iff.mp hz; rw [List.drop_eq_getElem_cons hlt,e]; exact if_neg h0
    rw [e] at k; exact k
   ·simp [h0]
 ·rintro σ H' ⟨u,v,rfl,hc,rfl⟩; rw [aI,List.take_length] at hc
  have e : cp t is = 0 := by
   rw [oV (i := is.length) (by rw [List.take_length]; exact hc),List.drop_length]; rfl
  rw [e] at k; exact k
def bV (K : Fg) (C : Addr) : Sp := fun vs H Q _ => ∃ (l a : Addr) (t : Ay.State) (kk : Nat) (is : List Nat),vs = [.ref l,.int kk,.ref a] /\ aB C H l t /\ ag K H a (vn is) /\ Q (.int (bK t kk is)) H
theorem sc_slots_refusal : aq ["slots","k","sources","refusal"] ["slots","k","sources"] (aj fI) := fs
theorem sG (D : Df K mg "slots_refusal" "slots_refusal" fI ["slots","k","sources"]) (T : Txt K mg C) (aX : Ok P w K mg base 1 "target_refusal" ["k"] (ca)) (bu : Ok P w K mg base 2 "sources_refusal" ["slots","sources"] (c_ K C)) : Ok P w K mg base 3 "slots_refusal" ["slots","k","sources"] (bV K C) := by
 refine D.ok sc_slots_refusal (fun _ _ _ _ h => by obtain ⟨_,_,_,_,_,rfl,_⟩ := h; rfl) (fun f cdv A outer s H vs Q E hr h => ?_); obtain ⟨l,a,t,kk,is,rfl,S,ha,k⟩ := h
 refine ⟨_,(ad (aH 3 sc_slots_refusal.nd (ap aX hr (ab (pv 1) ac)))
  (ad (aw (aF bB (pv 3) ai) (ae (ah (pv 3))) ao)
  (ae (ah (ap bu hr (ab (pv 0) (ab (pv 2) ac))))))),?_⟩
 refine ⟨_,rfl,kk,rfl,_,rfl,rfl,_,rfl,?_⟩
 by_cases h0 : eg kk = 0
 ·refine br (congrArg V.int h0) ?_; rw [bK,if_pos h0] at k; exact ⟨_,rfl,_,rfl,l,a,t,is,rfl,S,ha,k⟩
 ·refine ba (fun _ => ?_) (fun h => absurd ?_ h)
  ·rw [bK,if_neg h0] at k; exact ⟨_,rfl,k⟩
  ·simp [h0]
def b6 (C : Addr) : Sp := fun vs H Q _ => ∃ (l x : Addr) (t : Ay.State) (kk : Nat) (A : Ad.Arr),vs = [.ref l,.int kk,.ref x] /\ kk < 8 /\ aB C H l t /\ b_ C H x A /\ A.ok = true /\ aQ C H l (Ay.put t kk A) Q
theorem aci : aq ["slots","k","array"] ["slots","k","array"] (aj tp) := fs
theorem abY (D : Df K mg "keep" "keep" tp ["slots","k","array"]) (T : Txt K mg C) : Ok P w K mg base 1 "keep" ["slots","k","array"] (b6 C) := by
 refine D.ok aci (fun _ _ _ _ h => by obtain ⟨_,_,_,_,_,rfl,_⟩ := h; rfl) (fun f cdv A outer s H vs Q E hr h => ?_); obtain ⟨l,x,t,kk,A',rfl,hk,S,hA,ho,k⟩ := h
 refine ⟨_,(ad (ou (pv 2) (oe (pv 0) (pv 1) jt))
  (ae (ah (aV iR (az (ab ai ac)) (aD (pv 2) rfl))))),?_⟩
 obtain ⟨vs,v,g1,g2,g3,g4⟩ := aB.get S hk
 have hix : fT vs.length (kk : Int) = some kk := by
  unfold fT; rw [if_pos (by omega),if_pos (by omega)]; rfl
 refine ⟨_,rfl,_,rfl,_,rfl,l,vs,_,kk,rfl,rfl,g1,hix,?_⟩; have S1 : aB C (upd H l (.lst (vs.set kk (.ref x)))) l (t.set kk (some A')) := S.set g1 kk (o := some A') ⟨x,rfl,hA,ho⟩; have k1 : aN l H (upd H l (.lst (vs.set kk (.ref x)))) := aN.upd; obtain ⟨dx,a,b,h1,h2,h3⟩ := hA.keepL S k1; generalize upd H l (.lst (vs.set kk (.ref x))) = H1 at *; refine ⟨(by show 1 <= sizeLine; decide),fun p hp => ?_⟩; have s2 : ak H1 (upd H1 p (.lst [.int 0])) := ak.new hp; have hsl := (Ma.aE (aG ho).1).1; refine ⟨_,rfl,x,C,dx,_,_,rfl,s2 _ _ h1,T.cl,T.nL,aU a b,p,a,_,_,rfl,rfl,am,s2 _ _ h2,(by rw [aI]; show _ <= 2 ^ 24; simp only [List.length_cons,List.length_nil]; omega),fun q hq => ?_⟩; have s3 : ak (upd H1 p (.lst [.int 0])) (upd (upd H1 p (.lst [.int 0])) q (.lst ([.int 0] ++ vn A'.shape))) := ak.new hq; have hqH1 : H1 q = none := s2.free hq
 have hql : q ≠ l := fun e => by
  obtain ⟨ws,z1,_⟩ := S1.ex; rw [e,z1] at hqH1; cases hqH1
 refine k _ q ((k1.trans s2.keep).trans s3.keep) (S1.keep (s2.trans s3)) ?_ ?_
 ·cases e : H q with
  | none => rfl
  | some o =>
   rw [k1 q o e hql] at hqH1; cases hqH1
 ·rw [am]; rfl
theorem jp {H : Hp} {Q : VK} {l a b : Addr} {A : Ad.Arr} {t : Ay.State} {kk : Nat} (hk : kk < 8) (S : aB C H l t) (ha : H a = some (.lst (vn A.shape))) (hb : H b = some (.lst (vi A.cells))) (ho : A.ok = true) (k : aQ C H l (Ay.put t kk A) Q) :
  ∀ x dx,H x = none -> H dx = none -> dx ≠ x -> bP C (.ref x :: ([.ref a,.ref b] ++ [])) (upd (upd H dx (.own x)) x (.ins C dx [])) (fun v H2 => v = .non /\ b6 C ([.ref l,.int kk,.ref x] ++ []) H2 Q E0) E0 :=
 pC (Q := fun v H2 => b6 C ([.ref l,.int kk,v] ++ []) H2 Q E0) ha hb fun x H' hx sm hA => ⟨l,x,t,kk,A,rfl,hk,S.keep sm,hA,ho,k.same sm⟩
end
end Go

namespace Go
open PySem PySem.Spec PyProof.Rows L2
section
variable {P : Program} {w : World} {K : Fg} {mg : Str -> Option Value} {base : Heap} {C al : Addr}
theorem eN {k : Nat} (h : eg k = 0) : k < 8 := by
 unfold eg at h
 split at h <;> omega
theorem lV {k : Nat} (h : ¬ eg k = 0) : 8 <= k /\ eg k = -1 := by
 unfold eg at h ⊢
 split
 ·exact ⟨by assumption,rfl⟩
 ·rename_i q; rw [if_neg q] at h; exact absurd rfl h
def lS (K : Fg) : Sp := fun vs H Q _ => ∃ (a : Addr) (zs : List Int),vs = [.ref a] /\ ag K H a (vi zs) /\ Q (.bl (zs.all Ad.cellFine)) H
theorem sc_are_cells : aq ["numbers","number"] ["numbers"] (aj jw) := fs
theorem wJ (D : Df K mg "are_cells" "are_cells" jw ["numbers"]) (T : Txt K mg C) (bY : Ok P w K mg base 1 "is_cell" ["number"] (gz)) : Ok P w K mg base 2 "are_cells" ["numbers"] (lS K) := by
 refine D.ok sc_are_cells (fun _ _ _ _ h => by obtain ⟨_,_,rfl,_⟩ := h; rfl) (fun f cdv A outer s H vs Q E hr h => ?_); obtain ⟨a,zs,rfl,ha,k⟩ := h
 refine ⟨_,(ad (bS PassesOwn.never rfl (bD (pv 0)) (a0 1 sc_are_cells.nd) (ae (aw (bx (bi (ap bY hr (ab (pv 1) ac)))) (ae (ah dC)) ao)))
  (ae (ah dC))),?_⟩
 refine ⟨_,rfl,a,rfl,⟨_,ha⟩,d_ (K := K) (a := a) (xs := vi zs) (fun i σ H' => ∃ (u : Option V),σ = [some (.ref a),u] /\ (∀ n ∈ zs.take i,Ad.cellFine n = true) /\ H' = H)
  ⟨none,rfl,by simp,rfl⟩ (fun i σ H' _ ⟨_,_,_,e⟩ => e ▸ ha) ?_ ?_⟩
 ·rintro i x σ H' hi ⟨u,rfl,hc,rfl⟩; obtain ⟨z,hz,rfl⟩ := dQ hi; refine ⟨_,rfl,z,rfl,_,rfl,?_⟩
  cases e : Ad.cellFine z with
  | true =>
   refine ⟨_,rfl,fun n hn => ?_,rfl⟩; rw [bU hz] at hn
   rcases List.mem_append.mp hn with q | q
   ·exact hc n q
   ·have e2 : n = z := by simpa using q
    rw [e2]; exact e
  | false =>
   have e2 : zs.all Ad.cellFine = false := by
    rw [← Bool.not_eq_true,List.all_eq_true]; intro h; rw [h z (List.mem_of_getElem? hz)] at e; cases e
   rw [e2] at k; exact k
 ·rintro σ H' ⟨u,rfl,hc,rfl⟩; rw [aM,List.take_length] at hc; have e2 : zs.all Ad.cellFine = true := List.all_eq_true.mpr hc; rw [e2] at k; exact k
def qX (C : Addr) : Sp := fun vs H Q _ => ∃ (l a b : Addr) (t : Ay.State) (kk : Nat) (s : List Nat) (cs : List Int),vs = [.ref l,.int kk,.ref a,.ref b] /\ aB C H l t /\ H a = some (.lst (vn s)) /\ H b = some (.lst (vi cs)) /\ (∀ n ∈ s,n < 2 ^ 63) /\ aQ C H l (Ay.step t (.make kk s cs)) Q
theorem sc_call_make : aq ["slots","k","lengths","cells","refusal"] ["slots","k","lengths","cells"] (aj jN) := fs
theorem wS (D : Df K mg "call_make" "call_make" jN ["slots","k","lengths","cells"]) (T : Txt K mg C) (aX : Ok P w K mg base 1 "target_refusal" ["k"] (ca)) (aW : Ok P w K mg base 2 "is_shape" ["lengths"] (cj K)) (a9 : Ok P w K mg base 1 "cell_count" ["lengths"] (cM K)) (fz : Ok P w K mg base 2 "are_cells" ["numbers"] (lS K)) (aZ : Ok P w K mg base 1 "keep" ["slots","k","array"] (b6 C)) (aS : dS P w K mg base 1 "Array" C ["self","lengths","cells"] (bP C)) : Ok P w K mg base 3 "call_make" ["slots","k","lengths","cells"] (qX C) := by
 refine D.ok sc_call_make (fun _ _ _ _ h => by obtain ⟨_,_,_,_,_,_,_,rfl,_⟩ := h; rfl) (fun f cdv A outer s H vs Q E hr h => ?_); obtain ⟨l,a,b,t,kk,ns,cs,rfl,S,ha,hb,hbd,k⟩ := h
 refine ⟨_,(ad (aH 4 sc_call_make.nd (ap aX hr (ab (pv 1) ac)))
  (ad (aw (aF bB (pv 4) ai) (ae (ah (az (ab (pv 4) ac)))) ao)
  (ad (aw (PW.pt (dD (bx (bi (ap aW hr (ab (pv 2) ac)))) (dD (aF bB (bA T.b_len (pv 3)) (ap a9 hr (ab (pv 2) ac))) (dn (bx (bi (ap fz hr (ab (pv 3) ac)))))))) (ae (ah (az (ab (aO T.g_WRONG) ac)))) ao)
  (ae (ah (ap aZ hr (ab (pv 0) (ab (pv 1) (ab (d5 aS hr (ab (pv 2) (ab (pv 3) ac))) ac))))))))),?_⟩
 refine ⟨_,rfl,kk,rfl,_,rfl,rfl,_,rfl,?_⟩
 by_cases h0 : eg kk = 0
 ·refine br (congrArg V.int h0) ?_; have hk := eN h0; rw [Ay.step,eZ hk] at k; refine ⟨_,rfl,a,ns,rfl,ag.of ha,hbd,_,rfl,?_⟩
  cases e1 : Ad.shapeOk ns with
  | false =>
   rw [if_pos (.inl e1)] at k; exact ⟨bc,aQ.no S (ak.refl H) k rfl⟩
  | true =>
   refine ⟨_,rfl,b,_,rfl,.inl (ag.of hb),_,rfl,a,ns,rfl,ag.of ha,hbd,rfl,_,rfl,?_⟩
   by_cases e2 : cs.length = Ad.product_ ns
   ·refine br (by rw [aM,e2]) ?_; refine ⟨_,rfl,b,cs,rfl,ag.of hb,_,rfl,?_⟩
    cases e3 : cs.all Ad.cellFine with
    | false =>
     rw [if_pos (.inr (.inr e3))] at k; exact ⟨bc,aQ.no S (ak.refl H) k rfl⟩
    | true =>
     rw [if_neg (by rw [e1,e3,e2]; simp)] at k; exact ⟨_,rfl,_,rfl,_,rfl,_,rfl,jp hk S ha hb (iH e1 e2 (List.all_eq_true.mp e3)) k⟩
   ·refine bz (a5 (by rw [aM]; omega)) ?_; rw [if_pos (.inr (.inl e2))] at k; exact ⟨bc,aQ.no S (ak.refl H) k rfl⟩
 ·obtain ⟨h1,h2⟩ := lV h0; rw [Ay.step,i_ h1] at k; refine bz (a5 h0) ?_; exact ⟨_,rfl,bc,aQ.no S (ak.refl H) k h2⟩
def qv (C : Addr) : Sp := fun vs H Q _ => ∃ (l a : Addr) (t : Ay.State) (kk : Nat) (z : Int) (s : List Nat),vs = [.ref l,.int kk,.int z,.ref a] /\ aB C H l t /\ H a = some (.lst (vn s)) /\ (∀ n ∈ s,n < 2 ^ 63) /\ aQ C H l (Ay.step t (.fill kk z s)) Q
theorem sc_call_fill : aq ["slots","k","v","lengths","refusal","cells","cell"] ["slots","k","v","lengths"] (aj gT) := fs
theorem xa (D : Df K mg "call_fill" "call_fill" gT ["slots","k","v","lengths"]) (T : Txt K mg C) (aX : Ok P w K mg base 1 "target_refusal" ["k"] (ca)) (aW : Ok P w K mg base 2 "is_shape" ["lengths"] (cj K)) (a9 : Ok P w K mg base 1 "cell_count" ["lengths"] (cM K)) (bY : Ok P w K mg base 1 "is_cell" ["number"] (gz)) (aZ : Ok P w K mg base 1 "keep" ["slots","k","array"] (b6 C)) (aS : dS P w K mg base 1 "Array" C ["self","lengths","cells"] (bP C)) : Ok P w K mg base 3 "call_fill" ["slots","k","v","lengths"] (qv C) := by
 refine D.ok sc_call_fill (fun _ _ _ _ h => by obtain ⟨_,_,_,_,_,_,rfl,_⟩ := h; rfl) (fun f cdv A outer s H vs Q E hr h => ?_); obtain ⟨l,a,t,kk,z,ns,rfl,S,ha,hbd,k⟩ := h
 refine ⟨_,(ad (aH 4 sc_call_fill.nd (ap aX hr (ab (pv 1) ac)))
  (ad (aw (aF bB (pv 4) ai) (ae (ah (az (ab (pv 4) ac)))) ao)
  (ad (aw (PW.pt (dD (bx (bi (ap aW hr (ab (pv 3) ac)))) (dn (bx (bi (ap bY hr (ab (pv 2) ac))))))) (ae (ah (az (ab (aO T.g_WRONG) ac)))) ao)
  (ad (cU rfl sc_call_fill.nd (i := 5) rfl rfl (dN rfl rfl rfl (by decide +kernel)) (d9 rfl T.b_range (ab (ap a9 hr (ab (pv 3) ac)) ac)) (a_ (N := ["slots","k","v","lengths","refusal","cells","cell"]) (sc := aj gT) (own := [("cell",6)]) (by decide +kernel)) (fun _ _ _ _ _ => (a0 6 sc_call_fill.nd)) (fun _ _ _ _ _ => bt) (fun _ _ _ _ _ => (pv 2)))
  (ae (ah (ap aZ hr (ab (pv 0) (ab (pv 1) (ab (d5 aS hr (ab (pv 3) (ab (pv 5) ac))) ac)))))))))),?_⟩
 refine ⟨_,rfl,kk,rfl,_,rfl,rfl,_,rfl,?_⟩
 by_cases h0 : eg kk = 0
 ·refine br (congrArg V.int h0) ?_; have hk := eN h0; rw [Ay.step,eZ hk] at k; refine ⟨_,rfl,a,ns,rfl,ag.of ha,hbd,_,rfl,?_⟩
  cases e1 : Ad.shapeOk ns with
  | false =>
   rw [if_pos (.inl e1)] at k; exact ⟨bc,aQ.no S (ak.refl H) k rfl⟩
  | true =>
   refine ⟨_,rfl,z,rfl,_,rfl,?_⟩
   cases e3 : Ad.cellFine z with
   | false =>
    rw [if_pos (.inr e3)] at k; exact ⟨bc,aQ.no S (ak.refl H) k rfl⟩
   | true =>
    rw [if_neg (by rw [e1,e3]; simp)] at k; obtain ⟨g1,g2,g3⟩ := Ma.aE e1; refine ⟨_,rfl,a,ns,rfl,ag.of ha,hbd,_,rfl,by omega,by omega,fun q hq => ?_⟩; refine cF (fX) (fun i => V.int z) hq (by show _ <= 2 ^ 24; omega) ?_ bg ?_
    ·rintro i H1 x H2 hi sm ⟨rfl,rfl⟩ Q' kq; exact ⟨rfl,_,rfl,kq _ (ak.refl _)⟩
    ·intro H' sm h1
     have e4 : (List.range (Ad.product_ ns : Int).toNat).map (fun _ => V.int z) = vi ((List.range (Ad.product_ ns)).map fun _ => z) := by
      show _ = List.map V.int (List.map _ _); rw [List.map_map]; rfl
     rw [e4] at h1; refine ⟨_,rfl,_,rfl,_,rfl,_,rfl,jp (A := Ad.build ns fun _ => z) hk (S.keep sm) (sm _ _ ha) h1 (iH e1 ?_ ?_) (k.same sm)⟩
     ·show ((List.range (Ad.product_ ns)).map fun _ => z).length = Ad.product_ ns; rw [List.length_map,List.length_range]
     ·intro y hy; obtain ⟨_,_,e⟩ := List.mem_map.mp (show y ∈ (List.range (Ad.product_ ns)).map fun _ => z from hy); rw [← e]; exact e3
 ·obtain ⟨h1,h2⟩ := lV h0; rw [Ay.step,i_ h1] at k; refine bz (a5 h0) ?_; exact ⟨_,rfl,bc,aQ.no S (ak.refl H) k h2⟩
def pG (C : Addr) : Sp := fun vs H Q _ => ∃ (l a : Addr) (t : Ay.State) (kk : Nat) (x y : Int) (s : List Nat),vs = [.ref l,.int kk,.int x,.int y,.ref a] /\ aB C H l t /\ H a = some (.lst (vn s)) /\ (∀ n ∈ s,n < 2 ^ 63) /\ aQ C H l (Ay.step t (.count kk x y s)) Q
theorem sc_call_count : aq ["slots","k","start","step","lengths","refusal","cells","cell"] ["slots","k","start","step","lengths"] (aj ge) := fs
theorem vU (D : Df K mg "call_count" "call_count" ge ["slots","k","start","step","lengths"]) (T : Txt K mg C) (aX : Ok P w K mg base 1 "target_refusal" ["k"] (ca)) (aW : Ok P w K mg base 2 "is_shape" ["lengths"] (cj K)) (a9 : Ok P w K mg base 1 "cell_count" ["lengths"] (cM K)) (bY : Ok P w K mg base 1 "is_cell" ["number"] (gz)) (fz : Ok P w K mg base 2 "are_cells" ["numbers"] (lS K)) (aZ : Ok P w K mg base 1 "keep" ["slots","k","array"] (b6 C)) (aS : dS P w K mg base 1 "Array" C ["self","lengths","cells"] (bP C)) : Ok P w K mg base 3 "call_count" ["slots","k","start","step","lengths"] (pG C) := by
 refine D.ok sc_call_count (fun _ _ _ _ h => by obtain ⟨_,_,_,_,_,_,_,rfl,_⟩ := h; rfl) (fun f cdv A outer s H vs Q E hr h => ?_); obtain ⟨l,a,t,kk,x,y,ns,rfl,S,ha,hbd,k⟩ := h
 refine ⟨_,(ad (aH 5 sc_call_count.nd (ap aX hr (ab (pv 1) ac)))
  (ad (aw (aF bB (pv 5) ai) (ae (ah (az (ab (pv 5) ac)))) ao)
  (ad (aw (PW.pt (dD (bx (bi (ap aW hr (ab (pv 4) ac)))) (dn (bx (bi (ap fz hr (ab (az (ab (pv 2) (ab (pv 3) ac))) ac))))))) (ae (ah (az (ab (aO T.g_WRONG) ac)))) ao)
  (ad (cU rfl sc_call_count.nd (i := 6) rfl rfl (dN rfl rfl rfl (by decide +kernel)) (d9 rfl T.b_range (ab (ap a9 hr (ab (pv 4) ac)) ac)) (a_ (N := ["slots","k","start","step","lengths","refusal","cells","cell"]) (sc := aj ge) (own := [("cell",7)]) (by decide +kernel)) (fun _ _ _ _ _ => (a0 7 sc_call_count.nd)) (fun _ _ _ _ _ => bt) (fun _ _ _ _ _ => (aV cP (pv 2) (aV dm (pv 3) (pv 7)))))
  (ad (aw (bx (bi (ap bY hr (ab (au (pv 6) (rG on ai)) ac)))) (ae (ah (az (ab (aO T.g_BEYOND) ac)))) ao)
  (ae (ah (ap aZ hr (ab (pv 0) (ab (pv 1) (ab (d5 aS hr (ab (pv 4) (ab (pv 6) ac))) ac))))))))))),?_⟩
 refine ⟨_,rfl,kk,rfl,_,rfl,rfl,_,rfl,?_⟩
 by_cases h0 : eg kk = 0
 ·refine br (congrArg V.int h0) ?_; have hk := eN h0; rw [Ay.step,eZ hk] at k; refine ⟨_,rfl,a,ns,rfl,ag.of ha,hbd,_,rfl,?_⟩
  cases e1 : Ad.shapeOk ns with
  | false =>
   rw [if_pos (.inl e1)] at k; exact ⟨bc,aQ.no S (ak.refl H) k rfl⟩
  | true =>
   refine ⟨_,rfl,_,rfl,lR,fun q hq => ⟨q,[x,y],rfl,ag.of am,_,rfl,?_⟩⟩; have s1 : ak H (upd H q (.lst [.int x,.int y])) := ak.new hq; generalize upd H q (.lst [.int x,.int y]) = H1 at *; have e2 : List.all [x,y] Ad.cellFine = (Ad.cellFine x && Ad.cellFine y) := by simp
   rw [e2]
   cases e3 : Ad.cellFine x with
   | false =>
    rw [if_pos (.inr (.inl e3))] at k; exact ⟨bc,aQ.no S s1 k rfl⟩
   | true =>
    cases e4 : Ad.cellFine y with
    | false =>
     rw [if_pos (.inr (.inr e4))] at k; exact ⟨bc,aQ.no S s1 k rfl⟩
    | true =>
     rw [if_neg (by rw [e1,e3,e4]; simp)] at k; obtain ⟨g1,g2,g3⟩ := Ma.aE e1; have g4 := Ma.lJ g2; refine ⟨_,rfl,a,ns,rfl,ag.of (s1 _ _ ha),hbd,_,rfl,by omega,by omega,fun r hr => ?_⟩; refine cF (fX) (fun i => V.int (x + y * (i : Int))) hr (by show _ <= 2 ^ 24; omega) ?_ bg ?_
     ·rintro i H2 z H3 hi sm ⟨rfl,rfl⟩ Q' kq; refine ⟨rfl,_,rfl,_,rfl,_,rfl,_,_,rfl,rfl,.inr ⟨by omega,by omega⟩,_,_,rfl,rfl,?_⟩; rw [Int.zero_add]; exact kq _ (ak.refl _)
     ·intro H' sm h1
      have e5 : (List.range (Ad.product_ ns : Int).toNat).map (fun (i : Nat) => V.int (x + y * (i : Int))) = vi ((List.range (Ad.product_ ns)).map fun (i : Nat) => x + y * (i : Int)) := by
       show _ = List.map V.int (List.map _ _); rw [List.map_map]; rfl
      rw [e5] at h1
      have hlast : ((List.range (Ad.product_ ns)).map fun (i : Nat) => x + y * (i : Int))[Ad.product_ ns - 1]? = some (x + y * ((Ad.product_ ns : Int) - 1)) := by
       rw [List.getElem?_map,List.getElem?_range (by omega)]; show some (x + y * ((Ad.product_ ns - 1 : Nat) : Int)) = _; rw [Int.ofNat_sub g4]; rfl
      have hat : fm (vi ((List.range (Ad.product_ ns)).map fun (i : Nat) => x + y * (i : Int))) (-1) = some (.int (x + y * ((Ad.product_ ns : Int) - 1))) := by
       unfold fm fT; rw [aM,List.length_map,List.length_range,if_neg (by omega),if_pos (by omega)]; show (vi _)[((-1 : Int) + (Ad.product_ ns : Nat)).toNat]? = _; rw [show ((-1 : Int) + (Ad.product_ ns : Nat)).toNat = Ad.product_ ns - 1 by omega]; exact cB hlast
      refine ⟨_,rfl,_,rfl,r,_,_,_,rfl,rfl,ag.of h1,hat,_,rfl,_,rfl,?_⟩; have s2 := s1.trans sm
      cases e6 : Ad.cellFine (x + y * ((Ad.product_ ns : Int) - 1)) with
      | false =>
       rw [if_pos e6] at k; exact ⟨bc,aQ.no S s2 k rfl⟩
      | true =>
       rw [if_neg (by rw [e6]; simp)] at k; refine ⟨_,rfl,_,rfl,_,rfl,_,rfl,jp (A := ⟨ns,(List.range (Ad.product_ ns)).map fun (i : Nat) => x + y * (i : Int)⟩) hk (S.keep s2) (s2 _ _ ha) h1 (iH e1 ?_ ?_) (k.same s2)⟩
       ·show ((List.range (Ad.product_ ns)).map _).length = Ad.product_ ns; rw [List.length_map,List.length_range]
       ·intro z hz; obtain ⟨i,hi,e⟩ := List.mem_map.mp hz; rw [← e]; have hi' : i < Ad.product_ ns := List.mem_range.mp hi; refine Ma.aae (n := Ad.product_ ns - 1) e3 ?_ (by omega); rw [Int.ofNat_sub g4]; exact e6
 ·obtain ⟨h1,h2⟩ := lV h0; rw [Ay.step,i_ h1] at k; refine bz (a5 h0) ?_; exact ⟨_,rfl,bc,aQ.no S (ak.refl H) k h2⟩
def qx (C : Addr) : Sp := fun vs H Q _ => ∃ (l : Addr) (t : Ay.State) (kk : Nat),vs = [.ref l,.int kk] /\ aB C H l t /\ aQ C H l (Ay.step t (.drop kk)) Q
theorem sc_call_drop : aq ["slots","k","refusal"] ["slots","k"] (aj jz) := fs
theorem wZ (D : Df K mg "call_drop" "call_drop" jz ["slots","k"]) (T : Txt K mg C) (aX : Ok P w K mg base 1 "target_refusal" ["k"] (ca)) : Ok P w K mg base 2 "call_drop" ["slots","k"] (qx C) := by
 refine D.ok sc_call_drop (fun _ _ _ _ h => by obtain ⟨_,_,_,rfl,_⟩ := h; rfl) (fun f cdv A outer s H vs Q E hr h => ?_); obtain ⟨l,t,kk,rfl,S,k⟩ := h
 refine ⟨_,(ad (aH 2 sc_call_drop.nd (ap aX hr (ab (pv 1) ac)))
  (ad (aw (aF bB (pv 2) ai) (ae (ah (az (ab (pv 2) ac)))) ao)
  (ad (ou cQ (oe (pv 0) (pv 1) jt))
  (ae (ah (az (ab ai ac))))))),?_⟩
 refine ⟨_,rfl,kk,rfl,_,rfl,rfl,_,rfl,?_⟩
 by_cases h0 : eg kk = 0
 ·refine br (congrArg V.int h0) ?_; have hk := eN h0; rw [Ay.step,eZ hk] at k; obtain ⟨vs,v,g1,g2,g3,g4⟩ := aB.get S hk
  have hix : fT vs.length (kk : Int) = some kk := by
   unfold fT; rw [if_pos (by omega),if_pos (by omega)]; rfl
  refine ⟨_,rfl,_,rfl,l,vs,_,kk,rfl,rfl,g1,hix,bc,fun p hp => ?_⟩; have S1 : aB C (upd H l (.lst (vs.set kk .non))) l (t.set kk none) := S.set g1 kk (o := none) rfl; have k1 : aN l H (upd H l (.lst (vs.set kk .non))) := aN.upd; generalize upd H l (.lst (vs.set kk .non)) = H1 at *; refine k _ p (k1.trans (ak.new hp).keep) (S1.keep (ak.new hp)) ?_ (by rw [am]; rfl)
  cases e : H p with
  | none => rfl
  | some o =>
   have hpl : p ≠ l := fun e => by
    obtain ⟨ws,z1,_⟩ := S1.ex; rw [e,z1] at hp; cases hp
   rw [k1 p o e hpl] at hp; cases hp
 ·obtain ⟨h1,h2⟩ := lV h0; rw [Ay.step,i_ h1] at k; refine bz (a5 h0) ?_; exact ⟨_,rfl,bc,aQ.no S (ak.refl H) k h2⟩
end
end Go

namespace Go
open PySem PySem.Spec PyProof.Rows L2
theorem rm : bootBuiltins "list" = some (.type "list") := by decide +kernel
theorem zT : bootBuiltins "min" = some (.builtin "min") := by decide +kernel
theorem tR : bootBuiltins "max" = some (.builtin "max") := by decide +kernel
theorem vC : bootBuiltins "sorted" = some (.builtin "sorted") := by decide +kernel
section
variable {P : Program} {w : World} {K : Fg} {mg : Str -> Option Value} {base : Heap} {C al : Addr}
theorem j_ {t : Ay.State} {i : Nat} (h : ¬ cu t i = 0) : ∃ n : Nat,cu t i = -(n : Int) /\ ∀ f,Ay.ofSlot t i f = (t,Ay.no n) := by
 unfold cu at h ⊢
 by_cases h8 : 8 <= i
 ·exact ⟨1,if_pos h8,fun f => aa4 h8⟩
 ·rw [if_neg h8] at h ⊢
  cases e : t.getD i none with
  | none => exact ⟨2,rfl,fun f => abe (by omega) e⟩
  | some A => rw [e] at h; exact absurd rfl h
theorem eL {t : Ay.State} {i : Nat} (h : cu t i = 0) : i < 8 /\ ∃ A,t.getD i none = some A /\ ∀ f,Ay.ofSlot t i f = f A := by
 unfold cu at h
 by_cases h8 : 8 <= i
 ·rw [if_pos h8] at h; cases h
 ·rw [if_neg h8] at h
  cases e : t.getD i none with
  | none => rw [e] at h; cases h
  | some A => exact ⟨by omega,A,rfl,fun f => abi (by omega) e⟩
theorem aB.arr {H : Hp} {l : Addr} {t : Ay.State} (S : aB C H l t) {i : Nat} {A : Ad.Arr} (hi : i < 8) (e : t.getD i none = some A) : ∃ vs x,H l = some (.lst vs) /\ fm vs (i : Int) = some (.ref x) /\ b_ C H x A /\ A.ok = true := by
 obtain ⟨vs,v,g1,g2,g3,g4⟩ := aB.get S hi; rw [e] at g4; obtain ⟨x,rfl,h1,h2⟩ := g4; exact ⟨vs,x,g1,bE g2,h1,h2⟩
theorem yH {H H' : Hp} {l a : Addr} {zs : List Int} {t : Ay.State} {Q : VK} (S : aB C H l t) (sm : ak H H') (ha : H' a = some (.lst (vi zs))) (hz : zs.length < 16000000) (k : aQ C H l (t,.nums zs) Q) :
  ∀ p,H' p = none -> ∃ (l1 b : Addr) (xs ys : List V),V.ref p = .ref l1 /\ V.ref a = .ref b /\ (upd H' p (.lst [.int 0])) l1 = some (.lst xs) /\ (upd H' p (.lst [.int 0])) b = some (.lst ys) /\ xs.length + ys.length <= sizeLine ∧
   ∀ q,(upd H' p (.lst [.int 0])) q = none -> Q (.ref q) (upd (upd H' p (.lst [.int 0])) q (.lst (xs ++ ys))) := by
 intro p hp; have s2 : ak H' (upd H' p (.lst [.int 0])) := ak.new hp; refine ⟨p,a,_,_,rfl,rfl,am,s2 _ _ ha,(by rw [aM]; show 1 + zs.length <= 2 ^ 24; omega),fun q hq => ?_⟩; have s3 := (sm.trans s2).upd (o := .lst ([.int 0] ++ vi zs)) ((sm.trans s2).free hq); exact k _ q s3.keep (S.keep s3) ((sm.trans s2).free hq) (by rw [am]; rfl)
def pK (C : Addr) : Sp := fun vs H Q _ => ∃ (l : Addr) (t : Ay.State) (i : Nat),vs = [.ref l,.int i] /\ aB C H l t /\ aQ C H l (Ay.step t (.shape i)) Q
theorem sc_call_shape : aq ["slots","i","refusal"] ["slots","i"] (aj iX) := fs
theorem v9 (D : Df K mg "call_shape" "call_shape" iX ["slots","i"]) (T : Txt K mg C) (aY : Ok P w K mg base 1 "source_refusal" ["slots","i"] (cb C)) : Ok P w K mg base 2 "call_shape" ["slots","i"] (pK C) := by
 refine D.ok sc_call_shape (fun _ _ _ _ h => by obtain ⟨_,_,_,rfl,_⟩ := h; rfl) (fun f cdv A outer s H vs Q E hr h => ?_); obtain ⟨l,t,i,rfl,S,k⟩ := h
 refine ⟨_,(ad (aH 2 sc_call_shape.nd (ap aY hr (ab (pv 0) (ab (pv 1) ac))))
  (ad (aw (aF bB (pv 2) ai) (ae (ah (az (ab (pv 2) ac)))) ao)
  (ae (ah (aV iR (az (ab ai ac)) (aD (au (pv 0) (pv 1)) rfl)))))),?_⟩
 refine ⟨_,rfl,_,rfl,l,t,i,rfl,S,_,rfl,rfl,_,rfl,?_⟩
 by_cases h0 : cu t i = 0
 ·refine br (congrArg V.int h0) ?_; obtain ⟨hi,A',ea,ef⟩ := eL h0; rw [Ay.step,ef] at k; obtain ⟨vs,x,g1,g2,⟨dx,a,b,h1,h2,h3⟩,ho⟩ := aB.arr S hi ea; refine ⟨bc,fun p hp => ?_⟩; have s2 : ak H (upd H p (.lst [.int 0])) := ak.new hp; refine ⟨_,rfl,_,rfl,l,vs,_,_,rfl,rfl,ag.of (s2 _ _ g1),g2,x,C,dx,_,_,rfl,s2 _ _ h1,T.cl,T.nL,aU a b,?_⟩; have hl := (Ma.aE (aG ho).1).1; exact yH S (ak.refl H) h2 (by rw [List.length_map]; omega) k p hp
 ·obtain ⟨n,h2,ef⟩ := j_ h0; rw [Ay.step,ef] at k; refine bz (a5 h0) ?_; exact ⟨_,rfl,bc,aQ.no S (ak.refl H) k h2⟩
def pQ (C : Addr) : Sp := fun vs H Q _ => ∃ (l : Addr) (t : Ay.State) (i : Nat),vs = [.ref l,.int i] /\ aB C H l t /\ aQ C H l (Ay.step t (.cells i)) Q
theorem sc_call_cells : aq ["slots","i","refusal"] ["slots","i"] (aj iQ) := fs
theorem vZ (D : Df K mg "call_cells" "call_cells" iQ ["slots","i"]) (T : Txt K mg C) (aY : Ok P w K mg base 1 "source_refusal" ["slots","i"] (cb C)) : Ok P w K mg base 2 "call_cells" ["slots","i"] (pQ C) := by
 refine D.ok sc_call_cells (fun _ _ _ _ h => by obtain ⟨_,_,_,rfl,_⟩ := h; rfl) (fun f cdv A outer s H vs Q E hr h => ?_); obtain ⟨l,t,i,rfl,S,k⟩ := h
 refine ⟨_,(ad (aH 2 sc_call_cells.nd (ap aY hr (ab (pv 0) (ab (pv 1) ac))))
  (ad (aw (aF bB (pv 2) ai) (ae (ah (az (ab (pv 2) ac)))) ao)
  (ae (ah (aV iR (az (ab ai ac)) (aD (au (pv 0) (pv 1)) rfl)))))),?_⟩
 refine ⟨_,rfl,_,rfl,l,t,i,rfl,S,_,rfl,rfl,_,rfl,?_⟩
 by_cases h0 : cu t i = 0
 ·refine br (congrArg V.int h0) ?_; obtain ⟨hi,A',ea,ef⟩ := eL h0; rw [Ay.step,ef] at k; obtain ⟨vs,x,g1,g2,⟨dx,a,b,h1,h2,h3⟩,ho⟩ := aB.arr S hi ea; refine ⟨bc,fun p hp => ?_⟩; have s2 : ak H (upd H p (.lst [.int 0])) := ak.new hp; refine ⟨_,rfl,_,rfl,l,vs,_,_,rfl,rfl,ag.of (s2 _ _ g1),g2,x,C,dx,_,_,rfl,s2 _ _ h1,T.cl,T.nC,cy a b,?_⟩; have hl := (Ma.aE (aG ho).1).2.2; have hl2 := (aG ho).2.1; exact yH S (ak.refl H) h3 (by omega) k p hp
 ·obtain ⟨n,h2,ef⟩ := j_ h0; rw [Ay.step,ef] at k; refine bz (a5 h0) ?_; exact ⟨_,rfl,bc,aQ.no S (ak.refl H) k h2⟩
def tX (K : Fg) (C : Addr) : Sp := fun vs H Q _ => ∃ (l a : Addr) (t : Ay.State) (i : Nat) (p : List Nat),vs = [.ref l,.int i,.ref a] /\ aB C H l t /\ ag K H a (vn p) /\ aQ C H l (Ay.step t (.at_ i p)) Q
theorem sc_call_at : aq ["slots","i","place","refusal"] ["slots","i","place"] (aj mv) := fs
theorem zE (D : Df K mg "call_at" "call_at" mv ["slots","i","place"]) (T : Txt K mg C) (aY : Ok P w K mg base 1 "source_refusal" ["slots","i"] (cb C)) (gj : Ok P w K mg base 1 "is_place" ["lengths","place"] (mY K)) (cN : Ok P w K mg base 2 "cell_at" ["array","place"] (iJ K C)) : Ok P w K mg base 3 "call_at" ["slots","i","place"] (tX K C) := by
 refine D.ok sc_call_at (fun _ _ _ _ h => by obtain ⟨_,_,_,_,_,rfl,_⟩ := h; rfl) (fun f cdv A outer s H vs Q E hr h => ?_); obtain ⟨l,pa,t,i,p,rfl,S,hp,k⟩ := h
 refine ⟨_,(ad (aH 3 sc_call_at.nd (ap aY hr (ab (pv 0) (ab (pv 1) ac))))
  (ad (aw (aF bB (pv 3) ai) (ae (ah (az (ab (pv 3) ac)))) ao)
  (ad (aw (bx (bi (ap gj hr (ab (aD (au (pv 0) (pv 1)) rfl) (ab (pv 2) ac))))) (ae (ah (az (ab (aO T.g_NOWHERE) ac)))) ao)
  (ae (ah (az (ab ai (ab (ap cN hr (ab (au (pv 0) (pv 1)) (ab (pv 2) ac))) ac)))))))),?_⟩
 refine ⟨_,rfl,_,rfl,l,t,i,rfl,S,_,rfl,rfl,_,rfl,?_⟩
 by_cases h0 : cu t i = 0
 ·refine br (congrArg V.int h0) ?_; obtain ⟨hi,A',ea,ef⟩ := eL h0; rw [Ay.step,ef] at k; obtain ⟨vs,x,g1,g2,hA,ho⟩ := aB.arr S hi ea; obtain ⟨dx,a,b,h1,h2,h3⟩ := id hA; refine ⟨_,rfl,_,rfl,l,vs,_,_,rfl,rfl,ag.of g1,g2,x,C,dx,_,_,rfl,h1,T.cl,T.nL,aU a b,_,rfl,a,pa,A'.shape,p,rfl,ag.of h2,hp,fun H1 s1 => ⟨_,rfl,?_⟩⟩
  cases e : Ad.has A'.shape p with
  | false =>
   rw [if_pos e] at k; exact ⟨bc,aQ.no S s1 k rfl⟩
  | true =>
   rw [if_neg (by rw [e]; simp)] at k; refine ⟨_,rfl,_,rfl,l,vs,_,_,rfl,rfl,ag.of (s1 _ _ g1),g2,_,rfl,x,pa,A',p,rfl,hA.keep s1,ho,s1.seq hp,Ma.in_iff.mpr e,fun H2 s2 => ⟨lR,fun q hq => ?_⟩⟩; have s3 := (s1.trans s2).upd (o := .lst [.int 0,.int (A'.at_ p)]) ((s1.trans s2).free hq); exact k _ q s3.keep (S.keep s3) ((s1.trans s2).free hq) (by rw [am]; rfl)
 ·obtain ⟨n,h2,ef⟩ := j_ h0; rw [Ay.step,ef] at k; refine bz (a5 h0) ?_; exact ⟨_,rfl,bc,aQ.no S (ak.refl H) k h2⟩
def su (K : Fg) (C : Addr) : Sp := fun vs H Q _ => ∃ (l a : Addr) (t : Ay.State) (i : Nat) (v : Int) (p : List Nat),vs = [.ref l,.int i,.int v,.ref a] /\ aB C H l t /\ ag K H a (vn p) /\ aQ C H l (Ay.step t (.set i v p)) Q
theorem sc_call_set : aq ["slots","i","v","place","refusal","array","cells"] ["slots","i","v","place"] (aj k9) := fs
theorem xN (D : Df K mg "call_set" "call_set" k9 ["slots","i","v","place"]) (T : Txt K mg C) (aY : Ok P w K mg base 1 "source_refusal" ["slots","i"] (cb C)) (bY : Ok P w K mg base 1 "is_cell" ["number"] (gz)) (gj : Ok P w K mg base 1 "is_place" ["lengths","place"] (mY K)) (bZ : Ok P w K mg base 1 "number_of" ["lengths","place"] (f9 K)) (aZ : Ok P w K mg base 1 "keep" ["slots","k","array"] (b6 C)) (aS : dS P w K mg base 1 "Array" C ["self","lengths","cells"] (bP C)) : Ok P w K mg base 3 "call_set" ["slots","i","v","place"] (su K C) := by
 refine D.ok sc_call_set (fun _ _ _ _ h => by obtain ⟨_,_,_,_,_,_,rfl,_⟩ := h; rfl) (fun f cdv A outer s H vs Q E hr h => ?_); obtain ⟨l,pa,t,i,v,p,rfl,S,hp,k⟩ := h
 refine ⟨_,(ad (aH 4 sc_call_set.nd (ap aY hr (ab (pv 0) (ab (pv 1) ac))))
  (ad (aw (aF bB (pv 4) ai) (ae (ah (az (ab (pv 4) ac)))) ao)
  (ad (aw (bx (bi (ap bY hr (ab (pv 2) ac)))) (ae (ah (az (ab (aO T.g_WRONG) ac)))) ao)
  (ad (aH 5 sc_call_set.nd (au (pv 0) (pv 1)))
  (ad (aw (bx (bi (ap gj hr (ab (aD (pv 5) rfl) (ab (pv 3) ac))))) (ae (ah (az (ab (aO T.g_NOWHERE) ac)))) ao)
  (ad (aH 6 sc_call_set.nd (f7 mj (by rfl) T.b_list rm (ab (aD (pv 5) rfl) ac)))
  (ad (ou (pv 2) (oe (pv 6) (ap bZ hr (ab (aD (pv 5) rfl) (ab (pv 3) ac))) jt))
  (ae (ah (ap aZ hr (ab (pv 0) (ab (pv 1) (ab (d5 aS hr (ab (aD (pv 5) rfl) (ab (pv 6) ac))) ac))))))))))))),?_⟩
 refine ⟨_,rfl,_,rfl,l,t,i,rfl,S,_,rfl,rfl,_,rfl,?_⟩
 by_cases h0 : cu t i = 0
 ·refine br (congrArg V.int h0) ?_; obtain ⟨hi,A',ea,ef⟩ := eL h0; rw [Ay.step,ef] at k; obtain ⟨vs,x,g1,g2,hA,ho⟩ := aB.arr S hi ea; obtain ⟨dx,a,b,h1,h2,h3⟩ := id hA; refine ⟨_,rfl,v,rfl,_,rfl,?_⟩
  cases e0 : Ad.cellFine v with
  | false =>
   rw [if_pos e0] at k; exact ⟨bc,aQ.no S (ak.refl H) k rfl⟩
  | true =>
   rw [if_neg (by rw [e0]; simp)] at k; refine ⟨_,rfl,_,rfl,l,vs,_,_,rfl,rfl,ag.of g1,g2,_,rfl,x,C,dx,_,_,rfl,h1,T.cl,T.nL,aU a b,_,rfl,a,pa,A'.shape,p,rfl,ag.of h2,hp,fun H1 s1 => ⟨_,rfl,?_⟩⟩
   cases e : Ad.has A'.shape p with
   | false =>
    rw [if_pos e] at k; exact ⟨bc,aQ.no S s1 k rfl⟩
   | true =>
    rw [if_neg (by rw [e]; simp)] at k; have hin := Ma.in_iff.mpr e; refine ⟨_,rfl,x,C,dx,_,_,rfl,s1 _ _ h1,T.cl,T.nC,cy a b,b,_,rfl,.inl (ag.of (s1 _ _ h3)),fun q hq => ?_⟩; have s2 : ak H1 (upd H1 q (.lst (vi A'.cells))) := ak.new hq; have hqs : (upd H1 q (.lst (vi A'.cells))) q = some (.lst (vi A'.cells)) := am; generalize upd H1 q (.lst (vi A'.cells)) = H2 at *; have s12 := s1.trans s2; refine ⟨_,rfl,_,rfl,_,rfl,x,C,dx,_,_,rfl,s12 _ _ h1,T.cl,T.nL,aU a b,_,rfl,a,pa,A'.shape,p,rfl,ag.of (s12 _ _ h2),s12.seq hp,hin.len,ci (aG ho).1,fun H3 s3 => ?_⟩; have hlt : Ad.cellOf A'.shape p < A'.cells.length := by rw [(aG ho).2.1]; exact hin.lt
    have hix : fT (vi A'.cells).length ((Ad.cellOf A'.shape p : Nat) : Int) = some (Ad.cellOf A'.shape p) := by
     unfold fT; rw [aM,if_pos (by omega),if_pos (by omega)]; rfl
    refine ⟨q,_,_,_,rfl,rfl,s3 _ _ hqs,hix,?_⟩; have hq0 : H q = none := s1.free hq; have s4 : ak H (upd H3 q (.lst ((vi A'.cells).set (Ad.cellOf A'.shape p) (.int v)))) := (s12.trans s3).upd hq0
    have h5 : (upd H3 q (.lst ((vi A'.cells).set (Ad.cellOf A'.shape p) (.int v)))) q = some (.lst (vi (A'.cells.set (Ad.cellOf A'.shape p) v))) := by
     rw [am]; show _ = some (HO.lst (List.map V.int _)); rw [List.map_set]
    generalize upd H3 q (.lst ((vi A'.cells).set (Ad.cellOf A'.shape p) (.int v))) = H4 at *; refine ⟨_,rfl,_,rfl,_,rfl,x,C,dx,_,_,rfl,s4 _ _ h1,T.cl,T.nL,aU a b,_,rfl,jp (A := { A' with cells := A'.cells.set (Ad.cellOf A'.shape p) v }) hi (S.keep s4) (s4 _ _ h2) h5 (iH (aG ho).1 ?_ ?_) (k.same s4)⟩
    ·show (A'.cells.set _ v).length = _; rw [List.length_set]; exact (aG ho).2.1
    ·intro z hz
     rcases List.mem_or_eq_of_mem_set hz with h | h
     ·exact (aG ho).2.2 z h
     ·rw [h]; exact e0
 ·obtain ⟨n,h2,ef⟩ := j_ h0; rw [Ay.step,ef] at k; refine bz (a5 h0) ?_; exact ⟨_,rfl,bc,aQ.no S (ak.refl H) k h2⟩
end
end Go

namespace Go
open PySem PySem.Spec PyProof.Rows L2
section
variable {P : Program} {w : World} {K : Fg} {mg : Str -> Option Value} {base : Heap} {C al : Addr}
def t0 (K : Fg) : Sp := fun vs H Q _ => ∃ (a b : Addr) (s g : List Nat),vs = [.ref a,.ref b] /\ ag K H a (vn s) /\ ag K H b (vn g) /\ ∀ H',ak H H' -> Q (.bl (Ad.spreads s g)) H'
theorem sc_spreads : aq ["small","great","ahead","length","wanted"] ["small","great"] (aj ms) := fs
theorem zw (D : Df K mg "spreads" "spreads" ms ["small","great"]) (T : Txt K mg C) : Ok P w K mg base 1 "spreads" ["small","great"] (t0 K) := by
 refine D.ok sc_spreads (fun _ _ _ _ h => by obtain ⟨_,_,_,_,rfl,_⟩ := h; rfl) (fun f cdv A outer s H vs Q E hr h => ?_); obtain ⟨a,b,s,g,rfl,ha,hb,k⟩ := h
 refine ⟨_,(ad (aH 2 sc_spreads.nd (aV jS (bA T.b_len (pv 1)) (bA T.b_len (pv 0))))
  (ad (aw (aF iZ (pv 2) ai) (ae (ah dC)) ao)
  (ad (bS PassesOwn.never rfl (fv rfl T.b_zip (ab (pv 0) (ab (fg gi (pv 1) (eP (pv 2)) ji) ac))) (gQ rfl (be (a0 3 sc_spreads.nd) (be (a0 4 sc_spreads.nd) cX))) (ae (aw (PW.pt (oq (aF bB (pv 3) (pv 4)) (rD (aF bB (pv 3) ai)))) (ae (ah dC)) ao)))
  (ae (ah dC))))),?_⟩
 refine ⟨_,rfl,b,_,rfl,.inl hb,_,rfl,a,_,rfl,.inl ha,_,_,rfl,rfl,_,rfl,_,_,rfl,rfl,_,rfl,?_⟩; rw [aI,aI]; refine ba (fun h => ?_) (fun h => ?_)
 ·have h1 := of_decide_eq_true h
  have e : Ad.spreads s g = false := by
   cases e : Ad.spreads s g with
   | false => rfl
   | true =>
    have := (Ma.spreads_iff.mp e).1; omega
  rw [e] at k; exact k _ (ak.refl H)
 ·simp at h; have hl : s.length <= g.length := by omega
  have e0 : (g.length : Int) - (s.length : Int) = ((g.length - s.length : Nat) : Int) := by omega
  refine ⟨_,rfl,_,rfl,_,rfl,_,rfl,b,_,rfl,hb,fun q hq => ?_⟩; have s1 : ak H (upd H q (.lst (eJ (vn g) (some ((g.length : Int) - (s.length : Int))) none))) := ak.new hq
  have hq1 : (upd H q (.lst (eJ (vn g) (some ((g.length : Int) - (s.length : Int))) none))) q = some (.lst (vn (g.drop (g.length - s.length)))) := by
   rw [am,e0,j2,vb]
  generalize upd H q (.lst (eJ (vn g) (some ((g.length : Int) - (s.length : Int))) none)) = H1 at *; have hll : (g.drop (g.length - s.length)).length = s.length := by rw [List.length_drop]; omega
  refine ⟨a,q,_,_,rfl,s1.seq ha,ag.of hq1,iu (K := K) (a := a) (b := q) (xs := vn s) (ys := vn (g.drop (g.length - s.length))) (fun i σ H' => ∃ (v u : Option V),σ = [some (.ref a),some (.ref b),some (.int ((g.length : Int) - (s.length : Int))),v,u] /\ (∀ (j x y : Nat),j < i -> s[j]? = some x -> (g.drop (g.length - s.length))[j]? = some y -> x = y \/ x = 1) /\ ak H1 H')
   ⟨none,none,rfl,by omega,ak.refl H1⟩ (by rw [aI,aI,hll]) (fun i σ H' _ ⟨_,_,_,_,e⟩ => ⟨(s1.trans e).seq ha,e.seq (ag.of hq1)⟩) ?_ ?_⟩
  ·rintro i x y σ H' T hx0 hy0 hT ⟨v,u,rfl,hc,sm⟩; obtain ⟨x,hx,rfl⟩ := cO hx0; obtain ⟨y,hy,rfl⟩ := cO hy0; refine ⟨T,_,rfl,cG.of am,rfl,_,_,rfl,_,_,rfl,rfl,_,rfl,_,rfl,rfl,_,rfl,?_⟩
   have nxt : (x = y \/ x = 1) -> ∀ (j x' y' : Nat),j < i + 1 -> s[j]? = some x' -> (g.drop (g.length - s.length))[j]? = some y' -> x' = y' \/ x' = 1 := fun hxy j x' y' hj e1 e2 => by
    by_cases hji : j = i
    ·subst hji; rw [hx] at e1; rw [hy] at e2; cases e1; cases e2; exact hxy
    ·exact hc j x' y' (by omega) e1 e2
   have s2 : ak H1 (upd H' T (.tup [.int x,.int y])) := sm.upd (sm.free hT)
   by_cases hxy : x = y
   ·refine br (by rw [hxy]) ?_; exact ⟨_,_,rfl,nxt (.inl hxy),s2⟩
   ·refine bz (a5 (by omega)) ?_; refine ⟨_,rfl,rfl,_,rfl,?_⟩
    by_cases hx1 : x = 1
    ·refine br (by rw [hx1]; rfl) ?_; exact ⟨_,_,rfl,nxt (.inr hx1),s2⟩
    ·refine bz (a5 (by omega)) ?_
     have e : Ad.spreads s g = false := by
      cases e : Ad.spreads s g with
      | false => rfl
      | true =>
       rcases (Ma.spreads_iff.mp e).2 i x y hx hy with z | z
       ·exact absurd z hxy
       ·exact absurd z hx1
     rw [e] at k; exact k _ (s1.trans s2)
  ·rintro σ H' ⟨v,u,rfl,hc,sm⟩; rw [aI] at hc; have e : Ad.spreads s g = true := Ma.spreads_iff.mpr ⟨hl,fun j x y e1 e2 => hc j x y (List.getElem?_eq_some_iff.mp e1).1 e1 e2⟩; rw [e] at k; exact k _ (s1.trans sm)
def gS (K : Fg) : Sp := fun vs H Q _ => ∃ (a b : Addr) (s p : List Nat),vs = [.ref a,.ref b] /\ ag K H a (vn s) /\ ag K H b (vn p) /\ s.length <= p.length /\ s.length <= 1000 /\ ∀ H' q,ak H H' -> H q = none -> H' q = some (.lst (vn (Ad.narrowed s p))) -> Q (.ref q) H'
theorem sc_place_before_spread : aq ["small","place","ahead","length","number"] ["small","place"] (aj cx) := fs
theorem m8 (D : Df K mg "place_before_spread" "place_before_spread" cx ["small","place"]) (T : Txt K mg C) : Ok P w K mg base 1 "place_before_spread" ["small","place"] (gS K) := by
 refine D.ok sc_place_before_spread (fun _ _ _ _ h => by obtain ⟨_,_,_,_,rfl,_⟩ := h; rfl) (fun f cdv A outer s H vs Q E hr h => ?_); obtain ⟨a,b,s,g,rfl,ha,hb,hl,h1000,k⟩ := h
 refine ⟨_,(ad (aH 2 sc_place_before_spread.nd (aV jS (bA T.b_len (pv 1)) (bA T.b_len (pv 0))))
  (ae (ah (dB rfl sc_place_before_spread.nd (fv rfl T.b_zip (ab (pv 0) (ab (fg gi (pv 1) (eP (pv 2)) ji) ac))) (a_ (N := ["small","place","ahead","length","number"]) (sc := aj cx) (own := [("length",3),("number",4)]) (by decide +kernel)) (fun _ _ _ _ _ => (lj K rfl (n := 2) rfl (be (a0 3 sc_place_before_spread.nd) (be (a0 4 sc_place_before_spread.nd) cX)))) (fun _ _ _ _ _ => bt) (fun _ _ _ _ _ => (fV (aF bC (pv 3) ai) ai (pv 4))))))),?_⟩
 refine ⟨_,rfl,b,_,rfl,.inl hb,_,rfl,a,_,rfl,.inl ha,_,_,rfl,rfl,?_⟩; rw [aI,aI]; have e0 : (g.length : Int) - (s.length : Int) = ((g.length - s.length : Nat) : Int) := by omega
 refine ⟨_,rfl,_,rfl,_,rfl,_,rfl,b,_,rfl,hb,fun q hq => ?_⟩; have s1 : ak H (upd H q (.lst (eJ (vn g) (some ((g.length : Int) - (s.length : Int))) none))) := ak.new hq
 have hq1 : (upd H q (.lst (eJ (vn g) (some ((g.length : Int) - (s.length : Int))) none))) q = some (.lst (vn (g.drop (g.length - s.length)))) := by
  rw [am,e0,j2,vb]
 generalize upd H q (.lst (eJ (vn g) (some ((g.length : Int) - (s.length : Int))) none)) = H1 at *; have hll : (g.drop (g.length - s.length)).length = s.length := by rw [List.length_drop]; omega
 refine ⟨a,q,_,_,rfl,s1.seq ha,ag.of hq1,fun D hD => ?_⟩; refine cF (rq (s1.seq ha) (ag.of hq1) (by rw [aI,aI,hll])) (fun i => V.int (((Ad.narrowed s g).getD i 0 : Nat) : Int)) hD (by rw [aI]; show _ <= 2 ^ 24; omega) ?_ jZ ?_
 ·rintro i H2 v H3 hi sm ⟨T,x,y,rfl,hT,rfl,hx0,hy0⟩ Q' kq; obtain ⟨x,hx,rfl⟩ := cO hx0; obtain ⟨y,hy,rfl⟩ := cO hy0; refine ⟨T,_,rfl,cG.of am,rfl,_,_,rfl,_,_,rfl,rfl,rfl,_,rfl,rfl,_,rfl,?_⟩; have e := Ma.qG hx hy; have kq2 := kq (upd H2 T (.tup [.int x,.int y])) (ak.new hT); rw [List.getD_eq_getElem?_getD,e] at kq2
  by_cases h1 : x = 1
  ·rw [if_pos h1] at kq2; refine ba (fun _ => kq2) (fun h => absurd ?_ h); rw [h1]; exact decide_eq_true rfl
  ·rw [if_neg h1] at kq2; refine ba (fun h => absurd (of_decide_eq_true h) (a5 (by omega))) (fun _ => ⟨_,rfl,kq2⟩)
 ·intro H' sm h1; refine k H' D (s1.trans sm) (s1.free hD) ?_; rw [h1]; congr 2; rw [aI]; show _ = List.map V.int (List.map _ _); rw [List.map_map]; apply List.ext_getElem?; intro i
  by_cases hi : i < s.length
  ·have e2 : (Ad.narrowed s g)[i]? = some ((Ad.narrowed s g)[i]'(by rw [Ma.ml hl]; exact hi)) := List.getElem?_eq_getElem _; rw [List.getElem?_map,List.getElem?_range hi,List.getElem?_map,e2]; simp only [Option.map_some,List.getD_eq_getElem?_getD,e2,Option.getD_some,Function.comp]
  ·rw [List.getElem?_eq_none (by simp; omega),List.getElem?_eq_none (by rw [List.length_map,Ma.ml hl]; omega)]
theorem o3 (s : List Nat) (g : List Nat -> Int) : (List.range (Ad.product_ s)).map (fun c => V.int (g (Ad.placeOf s c))) = vi (Ad.build s g).cells := by
 show _ = List.map V.int (List.map _ _); rw [List.map_map]; rfl
theorem eW {s : List Nat} {g : List Nat -> Int} (hs : Ad.shapeOk s = true) (hg : ∀ p,Ma.In s p -> Ad.cellFine (g p) = true) : (Ad.build s g).ok = true := by
 refine iH hs ?_ ?_
 ·show ((List.range _).map _).length = _; rw [List.length_map,List.length_range]; rfl
 ·intro z hz; obtain ⟨c,hc,e⟩ := List.mem_map.mp (show z ∈ (List.range (Ad.product_ s)).map _ from hz); rw [← e]; exact hg _ (Ma.cC (List.mem_range.mp hc))
theorem fD {A : Ad.Arr} (h : A.ok = true) {p : List Nat} (hp : Ma.In A.shape p) : Ad.cellFine (A.at_ p) = true := (aG h).2.2 _ (List.mem_of_getElem? (w8 h hp))
def iU (K : Fg) (C : Addr) : Sp := fun vs H Q _ => ∃ (x b : Addr) (A : Ad.Arr) (s : List Nat),vs = [.ref x,.ref b] /\ b_ C H x A /\ A.ok = true /\ H b = some (.lst (vn s)) /\ Ad.shapeOk s = true /\ Ad.spreads A.shape s = true /\ ∀ H' y,ak H H' -> H y = none -> b_ C H' y (Ad.spreadTo A s) -> Q (.ref y) H'
theorem sc_spread_array : aq ["array","lengths","cells","place"] ["array","lengths"] (aj eM) := fs
theorem uq (D : Df K mg "spread_array" "spread_array" eM ["array","lengths"]) (T : Txt K mg C) (bI : Ok P w K mg base 2 "places_of" ["lengths"] (eQ K)) (cN : Ok P w K mg base 2 "cell_at" ["array","place"] (iJ K C)) (eG : Ok P w K mg base 1 "place_before_spread" ["small","place"] (gS K)) (aS : dS P w K mg base 1 "Array" C ["self","lengths","cells"] (bP C)) : Ok P w K mg base 3 "spread_array" ["array","lengths"] (iU K C) := by
 refine D.ok sc_spread_array (fun _ _ _ _ h => by obtain ⟨_,_,_,_,rfl,_⟩ := h; rfl) (fun f cdv A outer s H vs Q E hr h => ?_); obtain ⟨x,b,A',s,rfl,hA,ho,hb,hs,hsp,k⟩ := h
 refine ⟨_,(ad (cU rfl sc_spread_array.nd (i := 2) rfl rfl (dN rfl rfl rfl (by decide +kernel)) (bD (ap bI hr (ab (pv 1) ac))) (a_ (N := ["array","lengths","cells","place"]) (sc := aj eM) (own := [("place",3)]) (by decide +kernel)) (fun _ _ _ _ _ => (a0 3 sc_spread_array.nd)) (fun _ _ _ _ _ => bt) (fun _ _ _ _ _ => (ap cN hr (ab (pv 0) (ab (ap eG hr (ab (u9 K rfl (pv 0) rfl) (ab (pv 3) ac))) ac)))))
  (ae (ah (d5 aS hr (ab (pv 1) (ab (pv 2) ac)))))),?_⟩
 obtain ⟨g1,g2,g3⟩ := Ma.aE hs; refine ⟨_,rfl,b,s,rfl,ag.of hb,hs,fun H1 q s1 hq hP => ?_⟩; obtain ⟨qs,p1,p2,p3⟩ := id hP; refine ⟨q,rfl,⟨_,ag.of p1⟩,fun D hD => ?_⟩; refine cF (bX (ag.of p1)) (fun c => V.int (A'.at_ (Ad.narrowed A'.shape (Ad.placeOf s c)))) hD (by rw [List.length_map,p2]; show _ <= 2 ^ 24; omega) ?_ bg ?_
 ·rintro c H2 v H3 hi sm ⟨rfl,hx⟩ Q' kq; rw [List.getElem?_map] at hx
  cases e : qs[c]? with
  | none => rw [e] at hx; cases hx
  | some r =>
   rw [e] at hx; have e2 : V.ref r = v := Option.some.inj hx; subst e2; have hc : c < Ad.product_ s := by rw [← p2]; exact (List.getElem?_eq_some_iff.mp e).1
   have hin := Ma.cC hc; have hnin := Ma.nZ hsp hin; obtain ⟨dx,aa,bb,h1,h2,h3⟩ := hA.keep (s1.trans sm); refine ⟨rfl,_,rfl,_,rfl,x,C,dx,_,_,rfl,h1,T.cl,T.nL,aU aa bb,_,rfl,aa,r,A'.shape,Ad.placeOf s c,rfl,ag.of h2,ag.of (sm _ _ (p3 c r e)),?_,?_,fun H4 p s4 hp h4 => ?_⟩
   ·rw [Ma.eV]; exact (Ma.spreads_iff.mp hsp).1
   ·have := (Ma.aE (aG ho).1).1; omega
   ·exact ⟨x,p,A',_,rfl,hA.keep ((s1.trans sm).trans s4),ho,ag.of h4,hnin,fun H5 s5 => kq H5 (s4.trans s5)⟩
 ·intro H' sm h1; rw [List.length_map,p2] at h1; have h1 := h1.trans (congrArg (fun z => some (HO.lst z)) (o3 s fun p => A'.at_ (Ad.narrowed A'.shape p))); have s2 := s1.trans sm; refine ⟨_,rfl,_,rfl,pC (Q := Q) (A := Ad.spreadTo A' s) (s2 _ _ hb) h1 fun y H2 hy s3 hA2 => ?_⟩; exact k H2 y (s2.trans s3) (s2.free hy) hA2
end
end Go

namespace Go
open PySem PySem.Spec PyProof.Rows L2
section
variable {P : Program} {w : World} {K : Fg} {mg : Str -> Option Value} {base : Heap} {C al : Addr}
def rh (cs : List Int) (r : Nat) : List Int := (List.range r).map fun i => cs.getD (3 * i + 2) 0
theorem mh {l : List Int} {i : Nat} (h : i < l.length) : l[i]? = some (l.getD i 0) := by
 rw [List.getD_eq_getElem?_getD,List.getElem?_eq_getElem h]; rfl
def c9 (K : Fg) : Sp := fun vs H Q _ => ∃ (c : Addr) (cs : List Int) (r : Nat),vs = [.ref c] /\ ag K H c (vi cs) /\ cs.length = 3 * r /\ r <= 1000 /\ ∀ H' q,ak H H' -> H q = none -> H' q = some (.lst (vi (rh cs r))) -> Q (.ref q) H'
theorem sc_section_lengths : aq ["cuts","at"] ["cuts"] (aj dq) := fs
theorem p9 (D : Df K mg "section_lengths" "section_lengths" dq ["cuts"]) (T : Txt K mg C) : Ok P w K mg base 1 "section_lengths" ["cuts"] (c9 K) := by
 refine D.ok sc_section_lengths (fun _ _ _ _ h => by obtain ⟨_,_,_,rfl,_⟩ := h; rfl) (fun f cdv A outer s H vs Q E hr h => ?_); obtain ⟨c,cs,r,rfl,hc,hl,hr,k⟩ := h; refine ⟨_,(ae (ah (dB rfl sc_section_lengths.nd (vI rfl T.b_range (ab ai (ab (bA T.b_len (pv 0)) (ab ai ac)))) (a_ (N := ["cuts","at"]) (sc := aj dq) (own := [("at",1)]) (by decide +kernel)) (fun _ _ _ _ _ => (a0 1 sc_section_lengths.nd)) (fun _ _ _ _ _ => bt) (fun _ _ _ _ _ => (oY K (pv 0) (pv 1)))))),?_⟩; refine ⟨_,rfl,c,_,rfl,.inl hc,_,_,_,r,rfl,(by rw [aM,hl]; exact xg.three r hr),fun D hD => ?_⟩; refine cF (zo) (fun i => V.int (cs.getD (3 * i + 2) 0)) hD (by show _ <= 2 ^ 24; omega) ?_ bg ?_
 ·rintro i H2 v H3 hi sm ⟨rfl,rfl⟩ Q' kq; exact ⟨rfl,_,rfl,_,rfl,c,_,_,_,rfl,rfl,sm.seq hc,d7 (j := 3 * i + 2) (by omega) (cB (mh (by omega))),kq _ (ak.refl _)⟩
 ·intro H' sm h1; refine k H' D sm hD ?_; rw [h1]; show _ = some (HO.lst (List.map V.int (List.map _ _))); rw [List.map_map]; rfl
def mW (K : Fg) : Sp := fun vs H Q _ => ∃ (a c : Addr) (s : List Nat) (cs : List Int),vs = [.ref a,.ref c] /\ ag K H a (vn s) /\ ag K H c (vi cs) /\ s.length <= 4 /\ ∀ H',ak H H' -> Q (.bl (Ma.dL s cs)) H'
theorem sc_are_cuts : aq ["lengths","cuts","count"] ["lengths","cuts"] (aj lh) := fs
theorem xP (D : Df K mg "are_cuts" "are_cuts" lh ["lengths","cuts"]) (T : Txt K mg C) (bo : Ok P w K mg base 1 "section_lengths" ["cuts"] (c9 K)) : Ok P w K mg base 2 "are_cuts" ["lengths","cuts"] (mW K) := by
 refine D.ok sc_are_cuts (fun _ _ _ _ h => by obtain ⟨_,_,_,_,rfl,_⟩ := h; rfl) (fun f cdv A outer s H vs Q E hr h => ?_); obtain ⟨a,c,s,cs,rfl,ha,hc,h4,k⟩ := h
 refine ⟨_,(ad (aw (aF bB (bA T.b_len (pv 1)) (aV dm ai (bA T.b_len (pv 0)))) (ae (ah dC)) ao)
  (ad (bS PassesOwn.never rfl (bD (ap bo hr (ab (pv 1) ac))) (a0 2 sc_are_cuts.nd) (ae (aw (PW.pt (dD (aF iZ (pv 2) ai) (dn (aF k_ (pv 2) (aO T.g_MOST_COUNT))))) (ae (ah dC)) ao)))
  (ae (ah dC)))),?_⟩
 refine ⟨_,rfl,c,_,rfl,.inl hc,_,rfl,a,_,rfl,.inl ha,_,_,rfl,rfl,.inl ⟨by decide,by decide⟩,rfl,_,rfl,?_⟩; rw [aM,aI]
 by_cases hl : cs.length = 3 * s.length
 ·refine br (congrArg V.int (by omega)) ?_; refine ⟨_,rfl,c,cs,s.length,rfl,hc,hl,by omega,fun H1 q s1 hq hq1 => ?_⟩
  refine ⟨q,rfl,⟨_,ag.of hq1⟩,d_ (K := K) (a := q) (xs := vi (rh cs s.length)) (fun i σ H' => ∃ (u : Option V),σ = [some (.ref a),some (.ref c),u] /\ (∀ (j : Nat) (z : Int),j < i -> cs[3 * j + 2]? = some z -> ¬ (z < 1 \/ 1024 < z)) /\ H' = H1)
   ⟨none,rfl,by omega,rfl⟩ (fun i σ H' _ ⟨_,_,_,e⟩ => e ▸ ag.of hq1) ?_ ?_⟩
  ·rintro i x σ H' hi0 ⟨u,rfl,hcc,rfl⟩; obtain ⟨z,hz,rfl⟩ := dQ hi0
   have hi : i < s.length := by
    have := (List.getElem?_eq_some_iff.mp hz).1
    simpa [rh] using this
   have hz2 : cs[3 * i + 2]? = some z := by
    unfold rh at hz; rw [List.getElem?_map,List.getElem?_range hi] at hz; rw [mh (by omega)]; exact hz
   refine ⟨_,rfl,_,_,rfl,rfl,_,rfl,ba (fun h => ?_) (fun h => ?_)⟩
   ·have h1 := of_decide_eq_true h; have e := Ma.r8 hl hi hz2 (.inl h1); rw [e] at k; exact k _ s1
   ·refine ⟨_,rfl,_,_,rfl,rfl,_,rfl,ba (fun h2 => ?_) (fun h2 => ?_)⟩
    ·have h1 := of_decide_eq_true h2; have e := Ma.r8 hl hi hz2 (.inr h1); rw [e] at k; exact k _ s1
    ·simp at h h2; refine ⟨_,rfl,fun j z' hj e => ?_,rfl⟩
     by_cases hji : j = i
     ·subst hji; rw [hz2] at e; cases e; omega
     ·exact hcc j z' (by omega) e
  ·rintro σ H' ⟨u,rfl,hcc,rfl⟩; have e := Ma.wm hl fun i z hi hz => hcc i z (by simpa [rh] using hi) hz
   rw [e] at k; exact k _ s1
 ·refine bz (a5 (by omega)) ?_; rw [Ma.xO hl] at k; exact k _ (ak.refl H)
def fO (K : Fg) : Sp := fun vs H Q _ => ∃ (a c : Addr) (s : List Nat) (cs : List Int) (l : List Ad.Cut),vs = [.ref a,.ref c] /\ ag K H a (vn s) /\ ag K H c (vi cs) /\ Ma.lm cs l /\ l.length = s.length /\ ∀ H',ak H H' -> Q (.bl (Ad.cutOk s l)) H'
theorem sc_cuts_lie_within : aq ["lengths","cuts","axis","length","first","last"] ["lengths","cuts"] (aj eq) := fs
theorem rg (D : Df K mg "cuts_lie_within" "cuts_lie_within" eq ["lengths","cuts"]) (T : Txt K mg C) : Ok P w K mg base 1 "cuts_lie_within" ["lengths","cuts"] (fO K) := by
 refine D.ok sc_cuts_lie_within (fun _ _ _ _ h => by obtain ⟨_,_,_,_,_,rfl,_⟩ := h; rfl) (fun f cdv A outer s H vs Q E hr h => ?_); obtain ⟨a,c,s,cs,l,rfl,ha,hc,hcu,hl,k⟩ := h
 refine ⟨_,(ad (bS PassesOwn.never rfl (uL rfl T.b_enumerate (ab (pv 0) ac)) (gQ rfl (be (a0 2 sc_cuts_lie_within.nd) (be (a0 3 sc_cuts_lie_within.nd) cX))) (ad (aH 4 sc_cuts_lie_within.nd (au (pv 1) (aV dm ai (pv 2))))
  (ad (aH 5 sc_cuts_lie_within.nd (aV cP (pv 4) (aV dm (au (pv 1) (aV cP (aV dm ai (pv 2)) ai)) (aV jS (au (pv 1) (aV cP (aV dm ai (pv 2)) ai)) ai))))
  (ae (aw (PW.pt (dD (aF iZ (bH (vj rfl) (by rfl) T.b_min zT (ab (pv 4) (ab (pv 5) ac))) ai) (dn (aF mE (bH (mF rfl) (by rfl) T.b_max tR (ab (pv 4) (ab (pv 5) ac))) (pv 3))))) (ae (ah dC)) ao)))))
  (ae (ah dC))),?_⟩
 refine ⟨_,rfl,a,_,rfl,ha,aa6 (K := K) (a := a) (xs := vn s) (fun i σ H' => ∃ (u v x y : Option V),σ = [some (.ref a),some (.ref c),u,v,x,y] /\ (∀ (j : Nat) q n,j < i -> l[j]? = some q -> s[j]? = some n -> q.within n = true) /\ ak H H')
  ⟨none,none,none,none,rfl,(fun _ _ _ h => absurd h (Nat.not_lt_zero _)),ak.refl H⟩ (fun i σ H' _ ⟨_,_,_,_,_,_,e⟩ => e.seq ha) ?_ ?_⟩
 ·rintro i n σ H' T hn0 hT ⟨u,v,x,y,rfl,hcc,sm⟩; obtain ⟨n,hn,rfl⟩ := cO hn0; have hi : i < s.length := (List.getElem?_eq_some_iff.mp hn).1; have hq : l[i]? = some (l[i]'(by omega)) := List.getElem?_eq_getElem _; generalize l[i]'(by omega) = q at hq; obtain ⟨c1,c2,c3,c4,c5⟩ := hcu.2 i q hq; have s2 : ak H (upd H' T (.tup [.int (i : Nat),.int n])) := sm.upd (sm.free hT); have hcS := s2.seq hc; have hp2 : (upd H' T (.tup [.int (i : Nat),.int n])) T = some (.tup [.int (i : Nat),.int n]) := am; generalize upd H' T (.tup [.int (i : Nat),.int n]) = H2 at *; refine ⟨T,_,rfl,cG.of hp2,rfl,_,_,rfl,_,_,rfl,rfl,_,rfl,_,rfl,_,_,rfl,rfl,.inl ⟨by decide,by decide⟩,c,_,_,_,rfl,rfl,hcS,d7 (j := 3 * i) (by omega) (cB c1),?_⟩; refine ⟨_,rfl,_,rfl,_,rfl,_,_,rfl,rfl,.inl ⟨by decide,by decide⟩,_,_,rfl,rfl,c,_,_,_,rfl,rfl,hcS,d7 (j := 3 * i + 1) (by omega) (cB c2),_,rfl,_,rfl,_,_,rfl,rfl,.inl ⟨by decide,by decide⟩,_,_,rfl,rfl,c,_,_,_,rfl,rfl,hcS,d7 (j := 3 * i + 2) (by omega) (cB c3),_,_,rfl,rfl,_,_,rfl,rfl,.inr ⟨by omega,by omega⟩,_,_,rfl,rfl,?_⟩; have hw := Ma.zu (n := n) c4
  have bad : ¬ (0 <= q.from_ /\ q.from_ < n /\ 0 <= q.from_ + q.step * ((q.count : Int) - 1) /\ q.from_ + q.step * ((q.count : Int) - 1) < n) -> Q (.bl false) H2 := fun hb => by
   have e : Ad.cutOk s l = false := by
    cases e : Ad.cutOk s l with
    | false => rfl
    | true => exact absurd (hw.mp ((Ma.qu hl).mp e i q n hq hn)) hb
   rw [e] at k; exact k _ s2
  refine ⟨_,rfl,_,rfl,_,_,rfl,_,_,rfl,rfl,_,rfl,ba (fun h => ?_) (fun h => ?_)⟩
  ·have h1 := of_decide_eq_true h; refine bad fun z => ?_
   split at h1 <;> omega
  ·refine ⟨_,rfl,_,rfl,_,_,rfl,_,rfl,_,_,rfl,rfl,_,rfl,ba (fun h2 => ?_) (fun h2 => ?_)⟩
   ·have h1 := of_decide_eq_true h2; refine bad fun z => ?_
    split at h1 <;> omega
   ·have h3 : ¬ _ := fun z => h (decide_eq_true z)
    have h4 : ¬ _ := fun z => h2 (decide_eq_true z)
    refine ⟨_,_,_,_,rfl,fun j q' n' hj e1 e2 => ?_,s2⟩
    by_cases hji : j = i
    ·subst hji; rw [hq] at e1; rw [hn] at e2; cases e1; cases e2; refine hw.mpr ?_
     split at h3 <;> split at h4 <;> omega
    ·exact hcc j q' n' (by omega) e1 e2
 ·rintro σ H' ⟨u,v,x,y,rfl,hcc,sm⟩; have e : Ad.cutOk s l = true := (Ma.qu hl).mpr fun i q n e1 e2 => hcc i q n (by rw [aI]; exact (List.getElem?_eq_some_iff.mp e2).1) e1 e2
  rw [e] at k; exact k _ sm
def i7 (K : Fg) : Sp := fun vs H Q _ => ∃ (c b : Addr) (s : List Nat) (cs : List Int) (l : List Ad.Cut) (p : List Nat),vs = [.ref c,.ref b] /\ ag K H c (vi cs) /\ ag K H b (vn p) /\ Ma.lm cs l /\ l.length = s.length /\ s.length <= 4 /\ Ad.cutOk s l = true /\ Ma.In (Ad.cutShape l) p /\ ∀ H' q,ak H H' -> H q = none -> H' q = some (.lst (vn (Ad.cutPlace l p))) -> Q (.ref q) H'
theorem sc_place_before_cut : aq ["cuts","place","axis","number"] ["cuts","place"] (aj de) := fs
theorem pU (D : Df K mg "place_before_cut" "place_before_cut" de ["cuts","place"]) (T : Txt K mg C) : Ok P w K mg base 1 "place_before_cut" ["cuts","place"] (i7 K) := by
 refine D.ok sc_place_before_cut (fun _ _ _ _ h => by obtain ⟨_,_,_,_,_,_,rfl,_⟩ := h; rfl) (fun f cdv A outer s H vs Q E hr h => ?_); obtain ⟨c,b,s,cs,l,p,rfl,hc,hb,hcu,hl,h4,hok,hin,k⟩ := h; refine ⟨_,(ae (ah (dB rfl sc_place_before_cut.nd (uL rfl T.b_enumerate (ab (pv 1) ac)) (a_ (N := ["cuts","place","axis","number"]) (sc := aj de) (own := [("axis",2),("number",3)]) (by decide +kernel)) (fun _ _ _ _ _ => (lj K rfl (n := 2) rfl (be (a0 2 sc_place_before_cut.nd) (be (a0 3 sc_place_before_cut.nd) cX)))) (fun _ _ _ _ _ => bt) (fun _ _ _ _ _ => (aV cP (oY K (pv 0) (aV dm ai (pv 2))) (aV dm (oY K (pv 0) (aV cP (aV dm ai (pv 2)) ai)) (pv 3))))))),?_⟩; have hpl : p.length = l.length := by rw [hin.len]; unfold Ad.cutShape; rw [List.length_map]
 refine ⟨_,rfl,b,_,rfl,hb,fun D hD => ?_⟩; refine cF (wR hb) (fun i => V.int (((Ad.cutPlace l p).getD i 0 : Nat) : Int)) hD (by rw [aI]; show _ <= 2 ^ 24; omega) ?_ jZ ?_
 ·rintro i H2 v H3 hi sm ⟨T,x,rfl,hT,rfl,hx0⟩ Q' kq; obtain ⟨x,hx,rfl⟩ := cO hx0; have hil : i < l.length := by rw [← hpl]; exact (List.getElem?_eq_some_iff.mp hx).1
  have hq : l[i]? = some (l[i]'hil) := List.getElem?_eq_getElem _; generalize l[i]'hil = q at hq; obtain ⟨c1,c2,c3,c4,c5⟩ := hcu.2 i q hq; have hsi : s[i]? = some (s[i]'(by omega)) := List.getElem?_eq_getElem _; have hat := Ma.aaw hl hok hin hq hx hsi; have hcp := Ma.p6 hq hx
  have hxc : x < q.count := by
   have e : (Ad.cutShape l)[i]? = some q.count := by unfold Ad.cutShape; rw [List.getElem?_map,hq]; rfl
   obtain ⟨m,e1,e2⟩ := hin.get e; rw [hx] at e1; cases e1; exact e2
  have kq2 := kq (upd H2 T (.tup [.int (i : Nat),.int x])) (ak.new hT); have hcS : ag K (upd H2 T (.tup [.int (i : Nat),.int x])) c (vi cs) := (sm.trans (ak.new hT)).seq hc; refine ⟨T,_,rfl,cG.of am,rfl,_,_,rfl,_,_,rfl,rfl,rfl,_,rfl,_,rfl,_,_,rfl,rfl,.inl ⟨by decide,by decide⟩,c,_,_,_,rfl,rfl,hcS,d7 (j := 3 * i) (by omega) (cB c1),_,rfl,_,rfl,_,_,rfl,rfl,.inl ⟨by decide,by decide⟩,_,_,rfl,rfl,c,_,_,_,rfl,rfl,hcS,d7 (j := 3 * i + 1) (by omega) (cB c2),_,rfl,_,_,rfl,rfl,.inr ⟨by omega,by omega⟩,_,_,rfl,rfl,?_⟩; rw [List.getD_eq_getElem?_getD,hcp] at kq2
  have e3 : (((q.at_ x).toNat : Nat) : Int) = q.from_ + q.step * (x : Int) := by
   have : q.at_ x = q.from_ + q.step * (x : Int) := rfl; omega
  show Q' (.int (q.from_ + q.step * (x : Int))) _; rw [← e3]; exact kq2
 ·intro H' sm h1; refine k H' D sm hD ?_; rw [h1]; congr 2; rw [aI]; show _ = List.map V.int (List.map _ _); rw [List.map_map]; apply List.ext_getElem?; intro i
  by_cases hi : i < p.length
  ·have e2 : (Ad.cutPlace l p)[i]? = some ((Ad.cutPlace l p)[i]'(by rw [Ma.lL hpl]; omega)) := List.getElem?_eq_getElem _; rw [List.getElem?_map,List.getElem?_range hi,List.getElem?_map,e2]; simp only [Option.map_some,List.getD_eq_getElem?_getD,e2,Option.getD_some,Function.comp]
  ·rw [List.getElem?_eq_none (by simp; omega),List.getElem?_eq_none (by rw [List.length_map,Ma.lL hpl]; omega)]
def dW (s : List Nat) (l : List Ad.Cut) : List Nat := (List.range (Ad.product_ (Ad.cutShape l))).map fun c => Ad.cellOf s (Ad.cutPlace l (Ad.placeOf (Ad.cutShape l) c))
def f8 (K : Fg) : Sp := fun vs H Q _ => ∃ (a c : Addr) (s : List Nat) (cs : List Int) (l : List Ad.Cut),vs = [.ref a,.ref c] /\ ag K H a (vn s) /\ ag K H c (vi cs) /\ Ma.lm cs l /\ l.length = s.length /\ Ad.shapeOk s = true /\ Ad.shapeOk (Ad.cutShape l) = true /\ Ad.cutOk s l = true /\ ∀ H' q,ak H H' -> H q = none -> H' q = some (.lst (vn (dW s l))) -> Q (.ref q) H'
theorem sc_section_numbers : aq ["lengths","cuts","places","place"] ["lengths","cuts"] (aj dt) := fs
theorem qr (D : Df K mg "section_numbers" "section_numbers" dt ["lengths","cuts"]) (T : Txt K mg C) (bI : Ok P w K mg base 2 "places_of" ["lengths"] (eQ K)) (bo : Ok P w K mg base 1 "section_lengths" ["cuts"] (c9 K)) (bZ : Ok P w K mg base 1 "number_of" ["lengths","place"] (f9 K)) (f6 : Ok P w K mg base 1 "place_before_cut" ["cuts","place"] (i7 K)) : Ok P w K mg base 3 "section_numbers" ["lengths","cuts"] (f8 K) := by
 refine D.ok sc_section_numbers (fun _ _ _ _ h => by obtain ⟨_,_,_,_,_,rfl,_⟩ := h; rfl) (fun f cdv A outer s H vs Q E hr h => ?_); obtain ⟨a,c,s,cs,l,rfl,ha,hc,hcu,hl,hs,hs2,hok,k⟩ := h
 refine ⟨_,(ad (aH 2 sc_section_numbers.nd (ap bI hr (ab (ap bo hr (ab (pv 1) ac)) ac)))
  (ae (ah (dB rfl sc_section_numbers.nd (bD (pv 2)) (a_ (N := ["lengths","cuts","places","place"]) (sc := aj dt) (own := [("place",3)]) (by decide +kernel)) (fun _ _ _ _ _ => (a0 3 sc_section_numbers.nd)) (fun _ _ _ _ _ => bt) (fun _ _ _ _ _ => (ap bZ hr (ab (pv 0) (ab (ap f6 hr (ab (pv 1) (ab (pv 3) ac))) ac)))))))),?_⟩
 obtain ⟨g1,g2,g3⟩ := Ma.aE hs2; have g4 := (Ma.aE hs).1; refine ⟨_,rfl,c,cs,l.length,rfl,hc,hcu.1,by omega,fun H1 r s1 hr1 hr2 => ?_⟩; have e1 : rh cs l.length = Ma.nz (Ad.cutShape l) := Ma.mM hcu; rw [e1] at hr2; refine ⟨r,Ad.cutShape l,rfl,ag.of hr2,hs2,fun H2 q s2 hq hP => ?_⟩; obtain ⟨qs,p1,p2,p3⟩ := id hP; refine ⟨_,rfl,q,rfl,⟨_,ag.of p1⟩,fun D hD => ?_⟩; have s12 := s1.trans s2; refine cF (bX (ag.of p1)) (fun c => V.int ((Ad.cellOf s (Ad.cutPlace l (Ad.placeOf (Ad.cutShape l) c)) : Nat) : Int)) hD (by rw [List.length_map,p2]; show _ <= 2 ^ 24; omega) ?_ bg ?_
 ·rintro i H3 v H4 hi sm ⟨rfl,hx⟩ Q' kq; rw [List.getElem?_map] at hx
  cases e : qs[i]? with
  | none => rw [e] at hx; cases hx
  | some r =>
   rw [e] at hx; have e2 : V.ref r = v := Option.some.inj hx; subst e2; have hci : i < Ad.product_ (Ad.cutShape l) := by rw [← p2]; exact (List.getElem?_eq_some_iff.mp e).1
   have hin := Ma.cC hci; have hcin := Ma.jD hl hok hin; have s13 := s12.trans sm; refine ⟨rfl,_,rfl,_,rfl,_,rfl,c,r,s,cs,l,_,rfl,s13.seq hc,ag.of (sm _ _ (p3 i r e)),hcu,hl,g4,hok,hin,fun H5 p s5 hp h5 => ?_⟩; exact ⟨a,p,s,_,rfl,(s13.trans s5).seq ha,ag.of h5,hcin.len,ci hs,fun H6 s6 => kq H6 (s5.trans s6)⟩
 ·intro H' sm h1; refine k H' D (s12.trans sm) (s12.free hD) ?_; rw [h1,List.length_map,p2]; congr 2; show _ = List.map V.int (List.map _ (List.map _ _)); rw [List.map_map,List.map_map]; rfl
end
end Go

namespace Go
open PySem PySem.Spec PyProof.Rows L2
section
variable {P : Program} {w : World} {K : Fg} {mg : Str -> Option Value} {base : Heap} {C al : Addr}
theorem iA {t : Ay.State} {i : Nat} {r : List Nat} : cp t (i :: r) = if cu t i = 0 then cp t r else cu t i := rfl
theorem aaB {t : Ay.State} {i : Nat} (h : ¬ cp t [i] = 0) : ∃ n : Nat,cp t [i] = -(n : Int) /\ ∀ f,Ay.ofSlot t i f = (t,Ay.no n) := by
 rw [iA] at h ⊢
 by_cases h0 : cu t i = 0
 ·rw [if_pos h0] at h; exact absurd rfl h
 ·rw [if_neg h0] at h ⊢; exact j_ h0
theorem yq {t : Ay.State} {i : Nat} (h : cp t [i] = 0) : i < 8 /\ ∃ A,t.getD i none = some A /\ ∀ f,Ay.ofSlot t i f = f A := by
 rw [iA] at h
 by_cases h0 : cu t i = 0
 ·exact eL h0
 ·rw [if_neg h0] at h; exact absurd h h0
theorem tu {t : Ay.State} {i j : Nat} (h : ¬ cp t [i,j] = 0) : ∃ n : Nat,cp t [i,j] = -(n : Int) /\ ∀ f : Ad.Arr -> Ad.Arr -> Ay.State × Ay.Answer,(Ay.ofSlot t i fun a => Ay.ofSlot t j fun b => f a b) = (t,Ay.no n) := by
 rw [iA] at h ⊢
 by_cases h0 : cu t i = 0
 ·rw [if_pos h0] at h ⊢; obtain ⟨_,A,_,e⟩ := eL h0; obtain ⟨n,h1,h2⟩ := aaB h; exact ⟨n,h1,fun f => by rw [e,h2]⟩
 ·rw [if_neg h0] at h ⊢; obtain ⟨n,h1,h2⟩ := j_ h0; exact ⟨n,h1,fun f => h2 _⟩
theorem rH {t : Ay.State} {i j : Nat} (h : cp t [i,j] = 0) : i < 8 /\ j < 8 /\ ∃ A B,t.getD i none = some A /\ t.getD j none = some B /\ ∀ f : Ad.Arr -> Ad.Arr -> Ay.State × Ay.Answer,(Ay.ofSlot t i fun a => Ay.ofSlot t j fun b => f a b) = f A B := by
 rw [iA] at h
 by_cases h0 : cu t i = 0
 ·rw [if_pos h0] at h; obtain ⟨hi,A,e1,e2⟩ := eL h0; obtain ⟨hj,B,e3,e4⟩ := yq h; exact ⟨hi,hj,A,B,e1,e3,fun f => by rw [e2,e4]⟩
 ·rw [if_neg h0] at h; exact absurd h h0
theorem acO {t : Ay.State} {i j l : Nat} (h : ¬ cp t [i,j,l] = 0) : ∃ n : Nat,cp t [i,j,l] = -(n : Int) /\ ∀ f : Ad.Arr -> Ad.Arr -> Ad.Arr -> Ay.State × Ay.Answer,(Ay.ofSlot t i fun a => Ay.ofSlot t j fun b => Ay.ofSlot t l fun c => f a b c) = (t,Ay.no n) := by
 rw [iA] at h ⊢
 by_cases h0 : cu t i = 0
 ·rw [if_pos h0] at h ⊢; obtain ⟨_,A,_,e⟩ := eL h0; obtain ⟨n,h1,h2⟩ := tu h; exact ⟨n,h1,fun f => by rw [e,h2]⟩
 ·rw [if_neg h0] at h ⊢; obtain ⟨n,h1,h2⟩ := j_ h0; exact ⟨n,h1,fun f => h2 _⟩
theorem abV {t : Ay.State} {i j l : Nat} (h : cp t [i,j,l] = 0) : i < 8 /\ j < 8 /\ l < 8 /\ ∃ A B D,t.getD i none = some A /\ t.getD j none = some B /\ t.getD l none = some D /\ ∀ f : Ad.Arr -> Ad.Arr -> Ad.Arr -> Ay.State × Ay.Answer,(Ay.ofSlot t i fun a => Ay.ofSlot t j fun b => Ay.ofSlot t l fun c => f a b c) = f A B D := by
 rw [iA] at h
 by_cases h0 : cu t i = 0
 ·rw [if_pos h0] at h; obtain ⟨hi,A,e1,e2⟩ := eL h0; obtain ⟨hj,hl,B,D,e3,e4,e5⟩ := rH h; exact ⟨hi,hj,hl,A,B,D,e1,e3,e4,fun f => by rw [e2,e5]⟩
 ·rw [if_neg h0] at h; exact absurd h h0
theorem tW {t : Ay.State} {k i : Nat} (h : ¬ bK t k [i] = 0) : ∃ n : Nat,bK t k [i] = -(n : Int) /\ ∀ f,Ay.into t k (Ay.ofSlot t i f) = (t,Ay.no n) := by
 unfold bK at h ⊢
 by_cases h0 : eg k = 0
 ·rw [if_pos h0] at h ⊢; obtain ⟨n,h1,h2⟩ := aaB h; exact ⟨n,h1,fun f => by rw [eZ (eN h0),h2]⟩
 ·rw [if_neg h0] at h ⊢; obtain ⟨h1,h2⟩ := lV h0; exact ⟨1,h2,fun f => i_ h1⟩
theorem oh {t : Ay.State} {k i : Nat} (h : bK t k [i] = 0) : k < 8 /\ i < 8 /\ ∃ A,t.getD i none = some A /\ ∀ f,Ay.into t k (Ay.ofSlot t i f) = f A := by
 unfold bK at h
 by_cases h0 : eg k = 0
 ·rw [if_pos h0] at h; obtain ⟨hi,A,e1,e2⟩ := yq h; exact ⟨eN h0,hi,A,e1,fun f => by rw [eZ (eN h0),e2]⟩
 ·rw [if_neg h0] at h; exact absurd h h0
theorem tU {t : Ay.State} {k i j : Nat} (h : ¬ bK t k [i,j] = 0) : ∃ n : Nat,bK t k [i,j] = -(n : Int) /\ ∀ f : Ad.Arr -> Ad.Arr -> Ay.State × Ay.Answer,Ay.into t k (Ay.ofSlot t i fun a => Ay.ofSlot t j fun b => f a b) = (t,Ay.no n) := by
 unfold bK at h ⊢
 by_cases h0 : eg k = 0
 ·rw [if_pos h0] at h ⊢; obtain ⟨n,h1,h2⟩ := tu h; exact ⟨n,h1,fun f => by rw [eZ (eN h0),h2]⟩
 ·rw [if_neg h0] at h ⊢; obtain ⟨h1,h2⟩ := lV h0; exact ⟨1,h2,fun f => i_ h1⟩
theorem ow {t : Ay.State} {k i j : Nat} (h : bK t k [i,j] = 0) : k < 8 /\ i < 8 /\ j < 8 /\ ∃ A B,t.getD i none = some A /\ t.getD j none = some B /\ ∀ f : Ad.Arr -> Ad.Arr -> Ay.State × Ay.Answer,Ay.into t k (Ay.ofSlot t i fun a => Ay.ofSlot t j fun b => f a b) = f A B := by
 unfold bK at h
 by_cases h0 : eg k = 0
 ·rw [if_pos h0] at h; obtain ⟨hi,hj,A,B,e1,e2,e3⟩ := rH h; exact ⟨eN h0,hi,hj,A,B,e1,e2,fun f => by rw [eZ (eN h0),e3]⟩
 ·rw [if_neg h0] at h; exact absurd h h0
def oE (C : Addr) : Sp := fun vs H Q _ => ∃ (l b : Addr) (t : Ay.State) (kk i : Nat) (s : List Nat),vs = [.ref l,.int kk,.int i,.ref b] /\ aB C H l t /\ H b = some (.lst (vn s)) /\ (∀ n ∈ s,n < 2 ^ 63) /\ aQ C H l (Ay.step t (.spread kk i s)) Q
theorem sc_call_spread : aq ["slots","k","i","lengths","refusal"] ["slots","k","i","lengths"] (aj g8) := fs
theorem uV (D : Df K mg "call_spread" "call_spread" g8 ["slots","k","i","lengths"]) (T : Txt K mg C) (aR : Ok P w K mg base 3 "slots_refusal" ["slots","k","sources"] (bV K C)) (aW : Ok P w K mg base 2 "is_shape" ["lengths"] (cj K)) (qR : Ok P w K mg base 1 "spreads" ["small","great"] (t0 K)) (cV : Ok P w K mg base 3 "spread_array" ["array","lengths"] (iU K C)) (aZ : Ok P w K mg base 1 "keep" ["slots","k","array"] (b6 C)) : Ok P w K mg base 4 "call_spread" ["slots","k","i","lengths"] (oE C) := by
 refine D.ok sc_call_spread (fun _ _ _ _ h => by obtain ⟨_,_,_,_,_,_,rfl,_⟩ := h; rfl) (fun f cdv A outer s H vs Q E hr h => ?_); obtain ⟨l,b,t,kk,i,s,rfl,S0,hb0,hbd,k0⟩ := h
 refine ⟨_,(ad (aH 4 sc_call_spread.nd (ap aR hr (ab (pv 0) (ab (pv 1) (ab (az (ab (pv 2) ac)) ac)))))
  (ad (aw (aF bB (pv 4) ai) (ae (ah (az (ab (pv 4) ac)))) ao)
  (ad (aw (bx (bi (ap aW hr (ab (pv 3) ac)))) (ae (ah (az (ab (aO T.g_WRONG) ac)))) ao)
  (ad (aw (bx (bi (ap qR hr (ab (aD (au (pv 0) (pv 2)) rfl) (ab (pv 3) ac))))) (ae (ah (az (ab (aO T.g_UNLIKE) ac)))) ao)
  (ae (ah (ap aZ hr (ab (pv 0) (ab (pv 1) (ab (ap cV hr (ab (au (pv 0) (pv 2)) (ab (pv 3) ac))) ac)))))))))),?_⟩
 refine ⟨_,rfl,_,rfl,_,rfl,bc,fun q hq => ?_⟩; have s0 : ak H (upd H q (.lst [.int i])) := ak.new hq; have hq1 : (upd H q (.lst [.int i])) q = some (.lst (vn [i])) := am; generalize upd H q (.lst [.int i]) = H1 at *; have S := S0.keep s0; have hb := s0 _ _ hb0; have k := k0.same s0; refine ⟨l,q,t,kk,[i],rfl,S,ag.of hq1,_,rfl,rfl,_,rfl,?_⟩
 by_cases h0 : bK t kk [i] = 0
 ·refine br (congrArg V.int h0) ?_; obtain ⟨hk,hi,A',ea,ef⟩ := oh h0; rw [Ay.step,ef] at k; obtain ⟨vs,x,g1,g2,hA,ho⟩ := aB.arr S hi ea; obtain ⟨dx,a1,b1,h1,h2,h3⟩ := id hA; refine ⟨_,rfl,b,s,rfl,ag.of hb,hbd,_,rfl,?_⟩
  cases e1 : Ad.shapeOk s with
  | false =>
   rw [if_pos e1] at k; exact ⟨bc,aQ.no S (ak.refl H1) k rfl⟩
  | true =>
   rw [if_neg (by rw [e1]; simp)] at k; refine ⟨_,rfl,_,rfl,l,vs,_,_,rfl,rfl,ag.of g1,g2,x,C,dx,_,_,rfl,h1,T.cl,T.nL,aU a1 b1,_,rfl,a1,b,A'.shape,s,rfl,ag.of h2,ag.of hb,fun H2 s2 => ⟨_,rfl,?_⟩⟩
   cases e2 : Ad.spreads A'.shape s with
   | false =>
    rw [if_pos e2] at k; exact ⟨bc,aQ.no S s2 k rfl⟩
   | true =>
    rw [if_neg (by rw [e2]; simp)] at k; refine ⟨_,rfl,_,rfl,_,rfl,_,rfl,l,vs,_,_,rfl,rfl,ag.of (s2 _ _ g1),g2,_,rfl,x,b,A',s,rfl,hA.keep s2,ho,s2 _ _ hb,e1,e2,fun H3 y s3 hy hA3 => ?_⟩; exact ⟨l,y,t,kk,_,rfl,hk,S.keep (s2.trans s3),hA3,eW e1 fun p hp => fD ho (Ma.nZ e2 hp),k.same (s2.trans s3)⟩
 ·obtain ⟨n,h2,ef⟩ := tW h0; rw [Ay.step,ef] at k; refine bz (a5 h0) ?_; exact ⟨_,rfl,bc,aQ.no S (ak.refl H1) k h2⟩
def sw (K : Fg) (C : Addr) : Sp := fun vs H Q _ => ∃ (l c : Addr) (t : Ay.State) (kk i : Nat) (cs : List Int),vs = [.ref l,.int kk,.int i,.ref c] /\ aB C H l t /\ ag K H c (vi cs) /\ aQ C H l (Ay.step t (.cut kk i cs)) Q
theorem sc_call_cut : aq ["slots","k","i","cuts","refusal","array","cells","cell"] ["slots","k","i","cuts"] (aj iT) := fs
theorem xX (D : Df K mg "call_cut" "call_cut" iT ["slots","k","i","cuts"]) (T : Txt K mg C) (aR : Ok P w K mg base 3 "slots_refusal" ["slots","k","sources"] (bV K C)) (gu : Ok P w K mg base 2 "are_cuts" ["lengths","cuts"] (mW K)) (bo : Ok P w K mg base 1 "section_lengths" ["cuts"] (c9 K)) (aW : Ok P w K mg base 2 "is_shape" ["lengths"] (cj K)) (cH : Ok P w K mg base 1 "cuts_lie_within" ["lengths","cuts"] (fO K)) (cK : Ok P w K mg base 3 "section_numbers" ["lengths","cuts"] (f8 K)) (aZ : Ok P w K mg base 1 "keep" ["slots","k","array"] (b6 C)) (aS : dS P w K mg base 1 "Array" C ["self","lengths","cells"] (bP C)) : Ok P w K mg base 4 "call_cut" ["slots","k","i","cuts"] (sw K C) := by
 refine D.ok sc_call_cut (fun _ _ _ _ h => by obtain ⟨_,_,_,_,_,_,rfl,_⟩ := h; rfl) (fun f cdv A outer s H vs Q E hr h => ?_); obtain ⟨l,c,t,kk,i,cs,rfl,S0,hc0,k0⟩ := h
 refine ⟨_,(ad (aH 4 sc_call_cut.nd (ap aR hr (ab (pv 0) (ab (pv 1) (ab (az (ab (pv 2) ac)) ac)))))
  (ad (aw (aF bB (pv 4) ai) (ae (ah (az (ab (pv 4) ac)))) ao)
  (ad (aH 5 sc_call_cut.nd (au (pv 0) (pv 2)))
  (ad (aw (bx (bi (ap gu hr (ab (aD (pv 5) rfl) (ab (pv 3) ac))))) (ae (ah (az (ab (aO T.g_WRONG) ac)))) ao)
  (ad (aw (bx (bi (ap aW hr (ab (ap bo hr (ab (pv 3) ac)) ac)))) (ae (ah (az (ab (aO T.g_BEYOND) ac)))) ao)
  (ad (aw (bx (bi (ap cH hr (ab (aD (pv 5) rfl) (ab (pv 3) ac))))) (ae (ah (az (ab (aO T.g_NOWHERE) ac)))) ao)
  (ad (cU rfl sc_call_cut.nd (i := 6) rfl rfl (dN rfl rfl rfl (by decide +kernel)) (bD (ap cK hr (ab (aD (pv 5) rfl) (ab (pv 3) ac)))) (a_ (N := ["slots","k","i","cuts","refusal","array","cells","cell"]) (sc := aj iT) (own := [("cell",7)]) (by decide +kernel)) (fun _ _ _ _ _ => (a0 7 sc_call_cut.nd)) (fun _ _ _ _ _ => bt) (fun _ _ _ _ _ => (oY K (u9 K rfl (pv 5) rfl) (pv 7))))
  (ae (ah (ap aZ hr (ab (pv 0) (ab (pv 1) (ab (d5 aS hr (ab (ap bo hr (ab (pv 3) ac)) (ab (pv 6) ac))) ac))))))))))))),?_⟩
 refine ⟨_,rfl,_,rfl,_,rfl,bc,fun q hq => ?_⟩; have s0 : ak H (upd H q (.lst [.int i])) := ak.new hq; have hq1 : (upd H q (.lst [.int i])) q = some (.lst (vn [i])) := am; generalize upd H q (.lst [.int i]) = H1 at *; have S := S0.keep s0; have hc := s0.seq hc0; have k := k0.same s0; refine ⟨l,q,t,kk,[i],rfl,S,ag.of hq1,_,rfl,rfl,_,rfl,?_⟩
 by_cases h0 : bK t kk [i] = 0
 ·refine br (congrArg V.int h0) ?_; obtain ⟨hk,hi,A',ea,ef⟩ := oh h0; rw [Ay.step,ef] at k; obtain ⟨vs,x,g1,g2,hA,ho⟩ := aB.arr S hi ea; obtain ⟨dx,a1,b1,h1,h2,h3⟩ := id hA; obtain ⟨z1,z2,z3⟩ := Ma.aE (aG ho).1; refine ⟨_,rfl,_,rfl,l,vs,_,_,rfl,rfl,ag.of g1,g2,_,rfl,x,C,dx,_,_,rfl,h1,T.cl,T.nL,aU a1 b1,_,rfl,a1,c,A'.shape,cs,rfl,ag.of h2,hc,z1,fun H2 s2 => ⟨_,rfl,?_⟩⟩
  cases e1 : Ma.dL A'.shape cs with
  | false =>
   unfold Ma.dL at e1
   cases e : Ay.cutsOf cs with
   | none =>
    simp only [e] at k; exact ⟨bc,aQ.no S s2 k rfl⟩
   | some m =>
    rw [e] at e1; simp only [e] at k; rw [if_pos (by simpa using e1)] at k; exact ⟨bc,aQ.no S s2 k rfl⟩
  | true =>
   obtain ⟨m,em,hml,hcu⟩ := Ma.lX e1; simp only [em] at k; rw [if_neg (by simp [hml])] at k; refine ⟨_,rfl,c,cs,m.length,rfl,s2.seq hc,hcu.1,by omega,fun H3 r s3 hr3 hr4 => ?_⟩; have e3 : rh cs m.length = Ma.nz (Ad.cutShape m) := Ma.mM hcu; rw [e3] at hr4
   have hbd : ∀ n ∈ Ad.cutShape m,n < 2 ^ 63 := fun n hn => by
    obtain ⟨u,hu,e⟩ := List.mem_map.mp hn; obtain ⟨j,hj⟩ := List.mem_iff_getElem?.mp hu; have := (hcu.2 j u hj).2.2.2.2; omega
   have s23 := s2.trans s3; refine ⟨r,Ad.cutShape m,rfl,ag.of hr4,hbd,_,rfl,?_⟩
   cases e4 : Ad.shapeOk (Ad.cutShape m) with
   | false =>
    rw [if_pos e4] at k; exact ⟨bc,aQ.no S s23 k rfl⟩
   | true =>
    rw [if_neg (by rw [e4]; simp)] at k; refine ⟨_,rfl,x,C,dx,_,_,rfl,s23 _ _ h1,T.cl,T.nL,aU a1 b1,_,rfl,a1,c,A'.shape,cs,m,rfl,ag.of (s23 _ _ h2),s23.seq hc,hcu,hml,fun H4 s4 => ⟨_,rfl,?_⟩⟩; have s24 := s23.trans s4
    cases e5 : Ad.cutOk A'.shape m with
    | false =>
     rw [if_pos e5] at k; exact ⟨bc,aQ.no S s24 k rfl⟩
    | true =>
     rw [if_neg (by rw [e5]; simp)] at k; refine ⟨_,rfl,x,C,dx,_,_,rfl,s24 _ _ h1,T.cl,T.nL,aU a1 b1,_,rfl,a1,c,A'.shape,cs,m,rfl,ag.of (s24 _ _ h2),s24.seq hc,hcu,hml,(aG ho).1,e4,e5,fun H5 y s5 hy hy5 => ?_⟩; have s25 := s24.trans s5; obtain ⟨w1,w2,w3⟩ := Ma.aE e4; refine ⟨y,rfl,⟨_,ag.of hy5⟩,fun D hD => ?_⟩; refine cF (bX (ag.of hy5)) (fun n => V.int (A'.at_ (Ad.cutPlace m (Ad.placeOf (Ad.cutShape m) n)))) hD (by rw [aI]; unfold dW; rw [List.length_map,List.length_range]; show _ <= 2 ^ 24; omega) ?_ bg ?_
     ·rintro n H6 v H7 hn sm ⟨rfl,hx0⟩ Q' kq; obtain ⟨z,hz,rfl⟩ := cO hx0
      have hn2 : n < Ad.product_ (Ad.cutShape m) := by
       have := (List.getElem?_eq_some_iff.mp hz).1
       simpa [dW] using this
      have hz2 : z = Ad.cellOf A'.shape (Ad.cutPlace m (Ad.placeOf (Ad.cutShape m) n)) := by
       unfold dW at hz; rw [List.getElem?_map,List.getElem?_range hn2] at hz; exact (Option.some.inj hz).symm
      have hin := Ma.jD hml e5 (Ma.cC hn2); have s26 := s25.trans sm; refine ⟨rfl,_,rfl,x,C,dx,_,_,rfl,s26 _ _ h1,T.cl,T.nC,cy a1 b1,_,rfl,b1,_,_,_,rfl,rfl,ag.of (s26 _ _ h3),bE (cB (by rw [hz2]; exact w8 ho hin)),kq _ (ak.refl _)⟩
     ·intro H6 sm h6; have e6 : (vn (dW A'.shape m)).length = Ad.product_ (Ad.cutShape m) := by rw [aI]; unfold dW; rw [List.length_map,List.length_range]
      rw [e6] at h6; have h6 := h6.trans (congrArg (fun z => some (HO.lst z)) (o3 (Ad.cutShape m) fun p => A'.at_ (Ad.cutPlace m p))); have s26 := s25.trans sm; refine ⟨_,rfl,_,rfl,_,rfl,c,cs,m.length,rfl,s26.seq hc,hcu.1,by omega,fun H7 r7 s7 hr7 hr8 => ?_⟩; rw [e3] at hr8; refine ⟨_,rfl,jp (A := Ad.cutOut A' m) hk (S.keep (s26.trans s7)) hr8 (s7 _ _ h6) (eW e4 fun p hp => fD ho (Ma.jD hml e5 hp)) (k.same (s26.trans s7))⟩
 ·obtain ⟨n,h2,ef⟩ := tW h0; rw [Ay.step,ef] at k; refine bz (a5 h0) ?_; exact ⟨_,rfl,bc,aQ.no S (ak.refl H1) k h2⟩
end
end Go

namespace Go
open PySem PySem.Spec PyProof.Rows L2
section
variable {P : Program} {w : World} {K : Fg} {mg : Str -> Option Value} {base : Heap} {C al : Addr}
def oM (A : Ad.Arr) (l : List Ad.Cut) (B : Ad.Arr) (n : Nat) : List Int := (List.range n).foldl (fun (m : List Int) (c : Nat) => m.set (Ad.cellOf A.shape (Ad.cutPlace l (Ad.placeOf B.shape c))) (B.cell c)) A.cells
theorem qP (A : Ad.Arr) (l : List Ad.Cut) (B : Ad.Arr) (n : Nat) : oM A l B (n + 1) = (oM A l B n).set (Ad.cellOf A.shape (Ad.cutPlace l (Ad.placeOf B.shape n))) (B.cell n) := by
 unfold oM; rw [List.range_succ,List.foldl_append]; rfl
theorem sK (A : Ad.Arr) (l : List Ad.Cut) (B : Ad.Arr) : ∀ n,(oM A l B n).length = A.cells.length
 | 0 => rfl
 | n + 1 => by rw [qP,List.length_set,sK A l B n]
theorem vy {A : Ad.Arr} {l : List Ad.Cut} {B : Ad.Arr} (ha : A.ok = true) (hb : B.ok = true) : ∀ n,n <= B.cells.length -> ∀ z ∈ oM A l B n,Ad.cellFine z = true
 | 0,_,z,hz => (aG ha).2.2 z hz
 | n + 1,hn,z,hz => by
  rw [qP] at hz
  rcases List.mem_or_eq_of_mem_set hz with h | h
  ·exact vy ha hb n (by omega) z h
  ·rw [h]; unfold Ad.Arr.cell; rw [List.getD_eq_getElem?_getD,List.getElem?_eq_getElem (by omega)]; exact (aG hb).2.2 _ (List.getElem_mem _)
def sv (K : Fg) (C : Addr) : Sp := fun vs H Q _ => ∃ (l c : Addr) (t : Ay.State) (i j : Nat) (cs : List Int),vs = [.ref l,.int i,.int j,.ref c] /\ aB C H l t /\ ag K H c (vi cs) /\ aQ C H l (Ay.step t (.put i j cs)) Q
theorem sc_call_put : aq ["slots","i","j","cuts","refusal","array","part","changed","cell","value"] ["slots","i","j","cuts"] (aj lg) := fs
theorem xY (D : Df K mg "call_put" "call_put" lg ["slots","i","j","cuts"]) (T : Txt K mg C) (bu : Ok P w K mg base 2 "sources_refusal" ["slots","sources"] (c_ K C)) (gu : Ok P w K mg base 2 "are_cuts" ["lengths","cuts"] (mW K)) (bo : Ok P w K mg base 1 "section_lengths" ["cuts"] (c9 K)) (cH : Ok P w K mg base 1 "cuts_lie_within" ["lengths","cuts"] (fO K)) (cK : Ok P w K mg base 3 "section_numbers" ["lengths","cuts"] (f8 K)) (aZ : Ok P w K mg base 1 "keep" ["slots","k","array"] (b6 C)) (aS : dS P w K mg base 1 "Array" C ["self","lengths","cells"] (bP C)) : Ok P w K mg base 4 "call_put" ["slots","i","j","cuts"] (sv K C) := by
 refine D.ok sc_call_put (fun _ _ _ _ h => by obtain ⟨_,_,_,_,_,_,rfl,_⟩ := h; rfl) (fun f cdv A outer s H vs Q E hr h => ?_); obtain ⟨l,c,t,i,j,cs,rfl,S0,hc0,k0⟩ := h
 refine ⟨_,(ad (aH 4 sc_call_put.nd (ap bu hr (ab (pv 0) (ab (az (ab (pv 1) (ab (pv 2) ac))) ac))))
  (ad (aw (aF bB (pv 4) ai) (ae (ah (az (ab (pv 4) ac)))) ao)
  (ad (aH 5 sc_call_put.nd (au (pv 0) (pv 1)))
  (ad (aH 6 sc_call_put.nd (au (pv 0) (pv 2)))
  (ad (aw (bx (bi (ap gu hr (ab (aD (pv 5) rfl) (ab (pv 3) ac))))) (ae (ah (az (ab (aO T.g_WRONG) ac)))) ao)
  (ad (aw (bx (bi (ap cH hr (ab (aD (pv 5) rfl) (ab (pv 3) ac))))) (ae (ah (az (ab (aO T.g_NOWHERE) ac)))) ao)
  (ad (aw (aF (ul hr.units) (aD (pv 6) rfl) (ap bo hr (ab (pv 3) ac))) (ae (ah (az (ab (aO T.g_UNLIKE) ac)))) ao)
  (ad (aH 7 sc_call_put.nd (f7 mj (by rfl) T.b_list rm (ab (aD (pv 5) rfl) ac)))
  (ad (bS PassesOwn.never rfl (fv rfl T.b_zip (ab (ap cK hr (ab (aD (pv 5) rfl) (ab (pv 3) ac))) (ab (aD (pv 6) rfl) ac))) (gQ rfl (be (a0 8 sc_call_put.nd) (be (a0 9 sc_call_put.nd) cX))) (ae (ou (pv 9) (oe (pv 7) (pv 8) jt))))
  (ae (ah (ap aZ hr (ab (pv 0) (ab (pv 1) (ab (d5 aS hr (ab (aD (pv 5) rfl) (ab (pv 7) ac))) ac))))))))))))))),?_⟩
 refine ⟨_,rfl,_,rfl,_,rfl,lR,fun q hq => ?_⟩; have s0 : ak H (upd H q (.lst [.int i,.int j])) := ak.new hq; have hq1 : (upd H q (.lst [.int i,.int j])) q = some (.lst (vn [i,j])) := am; generalize upd H q (.lst [.int i,.int j]) = H1 at *; have S := S0.keep s0; have hc := s0.seq hc0; have k := k0.same s0; refine ⟨l,q,t,[i,j],rfl,S,ag.of hq1,_,rfl,rfl,_,rfl,?_⟩
 by_cases h0 : cp t [i,j] = 0
 ·refine br (congrArg V.int h0) ?_; obtain ⟨hi,hj,A',B',ea,eb,ef⟩ := rH h0; rw [Ay.step,ef] at k; obtain ⟨vs,x,g1,g2,hA,ho⟩ := aB.arr S hi ea; obtain ⟨dx,a1,b1,h1,h2,h3⟩ := id hA; obtain ⟨vs',y,g1',g2',hB,ho'⟩ := aB.arr S hj eb; obtain ⟨dy,a2,b2,h1',h2',h3'⟩ := id hB; obtain ⟨z1,z2,z3⟩ := Ma.aE (aG ho).1; refine ⟨_,rfl,_,rfl,l,vs,_,_,rfl,rfl,ag.of g1,g2,_,rfl,_,rfl,l,vs',_,_,rfl,rfl,ag.of g1',g2',_,rfl,x,C,dx,_,_,rfl,h1,T.cl,T.nL,aU a1 b1,_,rfl,a1,c,A'.shape,cs,rfl,ag.of h2,hc,z1,fun H2 s2 => ⟨_,rfl,?_⟩⟩
  cases e1 : Ma.dL A'.shape cs with
  | false =>
   unfold Ma.dL at e1
   cases e : Ay.cutsOf cs with
   | none =>
    simp only [e] at k; exact ⟨bc,aQ.no S s2 k rfl⟩
   | some m =>
    rw [e] at e1; simp only [e] at k; rw [if_pos (by simpa using e1)] at k; exact ⟨bc,aQ.no S s2 k rfl⟩
  | true =>
   obtain ⟨m,em,hml,hcu⟩ := Ma.lX e1; simp only [em] at k; rw [if_neg (by simp [hml])] at k; refine ⟨_,rfl,x,C,dx,_,_,rfl,s2 _ _ h1,T.cl,T.nL,aU a1 b1,_,rfl,a1,c,A'.shape,cs,m,rfl,ag.of (s2 _ _ h2),s2.seq hc,hcu,hml,fun H4 s4 => ⟨_,rfl,?_⟩⟩; have s24 := s2.trans s4
   cases e5 : Ad.cutOk A'.shape m with
   | false =>
    rw [if_pos e5] at k; exact ⟨bc,aQ.no S s24 k rfl⟩
   | true =>
    rw [if_neg (by rw [e5]; simp)] at k; refine ⟨_,rfl,y,C,dy,_,_,rfl,s24 _ _ h1',T.cl,T.nL,aU a2 b2,_,rfl,c,cs,m.length,rfl,s24.seq hc,hcu.1,by omega,fun H5 r s5 hr5 hr6 => ?_⟩; have e3 : rh cs m.length = Ma.nz (Ad.cutShape m) := Ma.mM hcu; rw [e3] at hr6; have s25 := s24.trans s5; refine ⟨a2,r,Ma.nz B'.shape,Ma.nz (Ad.cutShape m),rfl,rfl,ag.of (s25 _ _ h2'),ag.of hr6,_,rfl,?_⟩
    by_cases e6 : B'.shape = Ad.cutShape m
    ·refine br (by rw [e6]) ?_; rw [if_neg (by simp [e6])] at k; have e4 : Ad.shapeOk (Ad.cutShape m) = true := by rw [← e6]; exact (aG ho').1
     refine ⟨_,rfl,x,C,dx,_,_,rfl,s25 _ _ h1,T.cl,T.nC,cy a1 b1,b1,_,rfl,.inl (ag.of (s25 _ _ h3)),fun d hd => ?_⟩; have hd0 : H1 d = none := s25.free hd; have s26 : ak H1 (upd H5 d (.lst (vi A'.cells))) := s25.upd hd0; have hdl : (upd H5 d (.lst (vi A'.cells))) d = some (.lst (vi A'.cells)) := am; generalize upd H5 d (.lst (vi A'.cells)) = H6 at *; refine ⟨_,rfl,x,C,dx,_,_,rfl,s26 _ _ h1,T.cl,T.nL,aU a1 b1,_,rfl,a1,c,A'.shape,cs,m,rfl,ag.of (s26 _ _ h2),s26.seq hc,hcu,hml,(aG ho).1,e4,e5,fun H7 u s7 hu hu7 => ?_⟩; have s27 := s26.trans s7; have hbl := (aG ho').2.1
     have hnl : (vn (dW A'.shape m)).length = (vi B'.cells).length := by
      rw [aI,aM,hbl,e6]; unfold dW; rw [List.length_map,List.length_range]
     have hud : u ≠ d := aJ hdl hu |>.symm
     refine ⟨_,rfl,y,C,dy,_,_,rfl,s27 _ _ h1',T.cl,T.nC,cy a2 b2,u,b2,_,_,rfl,ag.of hu7,ag.of (s27 _ _ h3'),iu (K := K) (a := u) (b := b2) (xs := vn (dW A'.shape m)) (ys := vi B'.cells)
      (fun n σ H' => ∃ (v1 v2 : Option V),σ = [some (.ref l),some (.int i),some (.int j),some (.ref c),some (.int (cp t [i,j])),some (.ref x),some (.ref y),some (.ref d),v1,v2] /\ H' d = some (.lst (vi (oM A' m B' n))) /\ H' u = some (.lst (vn (dW A'.shape m))) /\ ak H1 H')
      ⟨none,none,rfl,s7 _ _ hdl,hu7,s27⟩ hnl (fun n σ H' _ ⟨_,_,_,_,e,e'⟩ => ⟨ag.of e,ag.of (e' _ _ h3')⟩) ?_ ?_⟩
     ·rintro n z1 z2 σ H' TT hy1 hy2 hT ⟨v1,v2,rfl,hd',hu',sm⟩; obtain ⟨z1,hz1,rfl⟩ := cO hy1; obtain ⟨z2,hz2,rfl⟩ := dQ hy2
      have hn2 : n < Ad.product_ (Ad.cutShape m) := by
       rw [← e6,← hbl]; exact (List.getElem?_eq_some_iff.mp hz2).1
      have e7 : z1 = Ad.cellOf A'.shape (Ad.cutPlace m (Ad.placeOf B'.shape n)) := by
       unfold dW at hz1; rw [List.getElem?_map,List.getElem?_range hn2] at hz1; rw [e6]; exact (Option.some.inj hz1).symm
      have hin := Ma.jD hml e5 (Ma.cC hn2)
      have hlt : z1 < (oM A' m B' n).length := by
       rw [sK,(aG ho).2.1,e7,e6]; exact hin.lt
      have hix : fT (vi (oM A' m B' n)).length (z1 : Int) = some z1 := by
       unfold fT; rw [aM,if_pos (by omega),if_pos (by omega)]; rfl
      have hTd : TT ≠ d := fun e => by rw [e,hd'] at hT; cases hT
      have hTu : TT ≠ u := fun e => by rw [e,hu'] at hT; cases hT
      have hd2 : (upd H' TT (.tup [.int z1,.int z2])) d = some (.lst (vi (oM A' m B' n))) := by rw [aK (Ne.symm hTd)]; exact hd'
      have hu2 : (upd H' TT (.tup [.int z1,.int z2])) u = some (.lst (vn (dW A'.shape m))) := by rw [aK (Ne.symm hTu)]; exact hu'
      refine ⟨TT,_,rfl,cG.of am,rfl,_,_,rfl,_,_,rfl,rfl,_,rfl,_,rfl,_,rfl,d,_,_,z1,rfl,rfl,hd2,hix,_,_,rfl,?_,?_,?_⟩
      ·rw [am,qP]
       have e8 : B'.cell n = z2 := by
        unfold Ad.Arr.cell; rw [List.getD_eq_getElem?_getD,hz2]; rfl
       rw [e8,← e7]; show _ = some (HO.lst (List.map V.int _)); rw [List.map_set]
      ·rw [aK hud]; exact hu2
      ·exact (sm.upd (sm.free hT)).upd hd0
     ·rintro σ H' ⟨v1,v2,rfl,hd',hu',sm⟩; rw [hnl,aM,hbl] at hd'; refine ⟨_,rfl,_,rfl,_,rfl,x,C,dx,_,_,rfl,sm _ _ h1,T.cl,T.nL,aU a1 b1,_,rfl,jp (A := Ad.putIn A' m B') hi (S.keep sm) (sm _ _ h2) hd' (iH (aG ho).1 ?_ ?_) (k.same sm)⟩
      ·exact (sK A' m B' _).trans (aG ho).2.1
      ·exact vy ho ho' _ (by omega)
    ·refine bz (fun z => e6 ?_) ?_
     ·exact Ma.ot z
     ·rw [if_pos e6] at k; exact ⟨bc,aQ.no S s25 k rfl⟩
 ·obtain ⟨n,h2,ef⟩ := tu h0; rw [Ay.step,ef] at k; refine bz (a5 h0) ?_; exact ⟨_,rfl,bc,aQ.no S (ak.refl H1) k h2⟩
end
end Go

namespace Go
open PySem PySem.Spec PyProof.Rows L2
section
variable {P : Program} {w : World} {K : Fg} {mg : Str -> Option Value} {base : Heap} {C al : Addr}
theorem yc {n i : Nat} (h : i < n) : fT n (i : Int) = some i := by
 unfold fT; rw [if_pos (by omega),if_pos (by omega)]; rfl
theorem ue (l : List Nat) (i x : Nat) : (vn l).set i (.int x) = vn (l.set i x) := by
 show (List.map _ (List.map _ l)).set i _ = List.map _ (List.map _ _); rw [List.map_set,List.map_set]
theorem ll {l : List Nat} {i : Nat} (h : i < l.length) : l[i]? = some (l.getD i 0) := by
 rw [List.getD_eq_getElem?_getD,List.getElem?_eq_getElem h]; rfl
def iP (K : Fg) : Sp := fun vs H Q _ => ∃ (a b : Addr) (r : Nat) (l p : List Nat),vs = [.ref a,.ref b] /\ ag K H a (vn l) /\ ag K H b (vn p) /\ Ad.axesOk r l = true /\ p.length = l.length /\ r <= 1000 /\ ∀ H' q,ak H H' -> H q = none -> H' q = some (.lst (vn (Ma.jT r l p))) -> Q (.ref q) H'
theorem sc_place_before_turn : aq ["axes","place","before","axis","number"] ["axes","place"] (aj cT) := fs
theorem pi (D : Df K mg "place_before_turn" "place_before_turn" cT ["axes","place"]) (T : Txt K mg C) : Ok P w K mg base 1 "place_before_turn" ["axes","place"] (iP K) := by
 refine D.ok sc_place_before_turn (fun _ _ _ _ h => by obtain ⟨_,_,_,_,_,rfl,_⟩ := h; rfl) (fun f cdv A outer s H vs Q E hr h => ?_); obtain ⟨a,b,r,l,p,rfl,ha,hb,hax,hpl,hr,k⟩ := h; have hlr : l.length = r := by rw [(Ma.axes_iff.mp hax).length_eq,List.length_range]
 refine ⟨_,(ad (cU rfl sc_place_before_turn.nd (i := 2) rfl rfl (dN rfl rfl rfl (by decide +kernel)) (bD (pv 0)) (a_ (N := ["axes","place","before","axis","number"]) (sc := aj cT) (own := [("axis",3)]) (by decide +kernel)) (fun _ _ _ _ _ => (a0 3 sc_place_before_turn.nd)) (fun _ _ _ _ _ => bt) (fun _ _ _ _ _ => ai))
  (ad (bS PassesOwn.never rfl (fv rfl T.b_zip (ab (pv 0) (ab (pv 1) ac))) (gQ rfl (be (a0 3 sc_place_before_turn.nd) (be (a0 4 sc_place_before_turn.nd) cX))) (ae (ou (pv 4) (oe (pv 2) (pv 3) jt))))
  (ae (ah (pv 2))))),?_⟩
 refine ⟨_,rfl,a,rfl,⟨_,ha⟩,fun D hD => ?_⟩; refine cF (bX ha) (fun _ => V.int 0) hD (by rw [aI]; show _ <= 2 ^ 24; omega) ?_ bg ?_
 ·rintro i H2 v H3 hi sm ⟨rfl,hx⟩ Q' kq; exact ⟨rfl,kq _ (ak.refl _)⟩
 ·intro H1 s1 h1
  have h1 : H1 D = some (.lst (vn (Ma.eS r l p 0))) := by
   rw [h1,Ma.wy,aI,hlr]; show _ = some (HO.lst (List.map V.int (List.map _ (List.map _ _)))); rw [List.map_map,List.map_map]; rfl
  refine ⟨_,rfl,_,rfl,a,b,_,_,rfl,s1.seq ha,s1.seq hb,iu (K := K) (a := a) (b := b) (xs := vn l) (ys := vn p) (fun i σ H' => ∃ (v u : Option V),σ = [some (.ref a),some (.ref b),some (.ref D),v,u] /\ H' D = some (.lst (vn (Ma.eS r l p i))) /\ ak H H')
   ⟨_,_,rfl,h1,s1⟩ (by rw [aI,aI,hpl]) (fun i σ H' _ ⟨_,_,_,_,e⟩ => ⟨e.seq ha,e.seq hb⟩) ?_ ?_⟩
  ·rintro i x y σ H' T hx0 hy0 hT ⟨v,u,rfl,hd,sm⟩; obtain ⟨x,hx,rfl⟩ := cO hx0; obtain ⟨y,hy,rfl⟩ := cO hy0; obtain ⟨hxr,hst⟩ := Ma.xW hax hx hy; have hTD : T ≠ D := fun e => by rw [e,hd] at hT; cases hT
   have hd2 : (upd H' T (.tup [.int x,.int y])) D = some (.lst (vn (Ma.eS r l p i))) := by rw [aK (Ne.symm hTD)]; exact hd
   refine ⟨T,_,rfl,cG.of am,rfl,_,_,rfl,_,_,rfl,rfl,_,rfl,_,rfl,_,rfl,D,_,_,x,rfl,rfl,hd2,yc (by rw [aI]; simp [Ma.eS]; exact hxr),_,_,rfl,?_,(sm.upd (sm.free hT)).upd hD⟩; rw [am,ue,hst]
  ·rintro σ H' ⟨v,u,rfl,hd,sm⟩; rw [aI,Ma.zP hax rfl] at hd; exact ⟨_,rfl,k H' D sm hD hd⟩
def mn (K : Fg) (C : Addr) : Sp := fun vs H Q _ => ∃ (x b : Addr) (A : Ad.Arr) (l : List Nat),vs = [.ref x,.ref b] /\ b_ C H x A /\ A.ok = true /\ ag K H b (vn l) /\ Ad.axesOk A.shape.length l = true /\ ∀ H' y,ak H H' -> H y = none -> b_ C H' y (Ad.turn A l) -> Q (.ref y) H'
theorem sc_turned_array : aq ["array","axes","lengths","cells","axis","place"] ["array","axes"] (aj dM) := fs
theorem tP (D : Df K mg "turned_array" "turned_array" dM ["array","axes"]) (T : Txt K mg C) (bI : Ok P w K mg base 2 "places_of" ["lengths"] (eQ K)) (cN : Ok P w K mg base 2 "cell_at" ["array","place"] (iJ K C)) (fG : Ok P w K mg base 1 "place_before_turn" ["axes","place"] (iP K)) (aS : dS P w K mg base 1 "Array" C ["self","lengths","cells"] (bP C)) : Ok P w K mg base 3 "turned_array" ["array","axes"] (mn K C) := by
 refine D.ok sc_turned_array (fun _ _ _ _ h => by obtain ⟨_,_,_,_,rfl,_⟩ := h; rfl) (fun f cdv A outer s H vs Q E hr h => ?_); obtain ⟨x,b,A',l,rfl,hA,ho,hb,hax,k⟩ := h; obtain ⟨z1,z2,z3⟩ := Ma.aE (aG ho).1; have hpm := Ma.axes_iff.mp hax; have hll : l.length = A'.shape.length := by rw [hpm.length_eq,List.length_range]
 have hts := Ma.tF (aG ho).1 hax
 refine ⟨_,(ad (cU rfl sc_turned_array.nd (i := 2) rfl rfl (dN rfl rfl rfl (by decide +kernel)) (bD (pv 1)) (a_ (N := ["array","axes","lengths","cells","axis","place"]) (sc := aj dM) (own := [("axis",4)]) (by decide +kernel)) (fun _ _ _ _ _ => (a0 4 sc_turned_array.nd)) (fun _ _ _ _ _ => bt) (fun _ _ _ _ _ => (oY K (u9 K rfl (pv 0) rfl) (pv 4))))
  (ad (cU rfl sc_turned_array.nd (i := 3) rfl rfl (dN rfl rfl rfl (by decide +kernel)) (bD (ap bI hr (ab (pv 2) ac))) (a_ (N := ["array","axes","lengths","cells","axis","place"]) (sc := aj dM) (own := [("place",5)]) (by decide +kernel)) (fun _ _ _ _ _ => (a0 5 sc_turned_array.nd)) (fun _ _ _ _ _ => bt) (fun _ _ _ _ _ => (ap cN hr (ab (pv 0) (ab (ap fG hr (ab (pv 1) (ab (pv 5) ac))) ac)))))
  (ae (ah (d5 aS hr (ab (pv 2) (ab (pv 3) ac))))))),?_⟩
 refine ⟨_,rfl,b,rfl,⟨_,hb⟩,fun D hD => ?_⟩; refine cF (bX hb) (fun i => V.int ((Ad.along A'.shape (l.getD i 0) : Nat) : Int)) hD (by rw [aI]; show _ <= 2 ^ 24; omega) ?_ bg ?_
 ·rintro i H2 v H3 hi sm ⟨rfl,hx0⟩ Q' kq; obtain ⟨n,hn,rfl⟩ := cO hx0; obtain ⟨dx,aa,bb,h1,h2,h3⟩ := hA.keep sm; have hnr : n < A'.shape.length := List.mem_range.mp (hpm.mem_iff.mp (List.mem_of_getElem? hn))
  have e1 : A'.shape[n]? = some (Ad.along A'.shape (l.getD i 0)) := by
   rw [List.getD_eq_getElem?_getD,hn]; show _ = some (Ad.along A'.shape n); rw [Ma.bL (List.getElem?_eq_getElem hnr),List.getElem?_eq_getElem hnr]
  exact ⟨rfl,_,rfl,x,C,dx,_,_,rfl,h1,T.cl,T.nL,aU aa bb,_,rfl,aa,_,_,_,rfl,rfl,ag.of h2,bE (dr e1),kq _ (ak.refl _)⟩
 ·intro H1 s1 h1
  have h1 : H1 D = some (.lst (vn (l.map (Ad.along A'.shape)))) := by
   rw [h1,aI]; congr 2; show _ = List.map V.int (List.map _ (List.map _ _)); rw [List.map_map,List.map_map]; apply List.ext_getElem?; intro i
   by_cases hi : i < l.length
   ·rw [List.getElem?_map,List.getElem?_range hi,List.getElem?_map,ll hi]; rfl
   ·rw [List.getElem?_eq_none (by simp; omega),List.getElem?_eq_none (by simp; omega)]
  refine ⟨_,rfl,D,l.map (Ad.along A'.shape),rfl,ag.of h1,hts,fun H2 q s2 hq hP => ?_⟩; obtain ⟨qs,p1,p2,p3⟩ := id hP; obtain ⟨y1,y2,y3⟩ := Ma.aE hts; have s12 := s1.trans s2; refine ⟨q,rfl,⟨_,ag.of p1⟩,fun D2 hD2 => ?_⟩; refine cF (bX (ag.of p1)) (fun c => V.int (A'.at_ (Ma.jT A'.shape.length l (Ad.placeOf (l.map (Ad.along A'.shape)) c)))) hD2 (by rw [List.length_map,p2]; show _ <= 2 ^ 24; omega) ?_ bg ?_
  ·rintro c H3 v H4 hi sm ⟨rfl,hx⟩ Q' kq; rw [List.getElem?_map] at hx
   cases e : qs[c]? with
   | none => rw [e] at hx; cases hx
   | some r =>
    rw [e] at hx; have e2 : V.ref r = v := Option.some.inj hx; subst e2; have hc : c < Ad.product_ (l.map (Ad.along A'.shape)) := by rw [← p2]; exact (List.getElem?_eq_some_iff.mp e).1
    have hin := Ma.cC hc; have s13 := s12.trans sm; refine ⟨rfl,_,rfl,_,rfl,_,rfl,b,r,A'.shape.length,l,_,rfl,s13.seq hb,ag.of (sm _ _ (p3 c r e)),hax,by rw [Ma.eV,List.length_map],by omega,fun H5 p s5 hp h5 => ?_⟩; exact ⟨x,p,A',_,rfl,hA.keep (s13.trans s5),ho,ag.of h5,Ma.vB hax hin,fun H6 s6 => kq H6 (s5.trans s6)⟩
  ·intro H3 sm h3; rw [List.length_map,p2] at h3; have h3 := h3.trans (congrArg (fun z => some (HO.lst z)) (o3 (l.map (Ad.along A'.shape)) fun p => A'.at_ (Ma.jT A'.shape.length l p))); have s13 := s12.trans sm; refine ⟨_,rfl,_,rfl,pC (Q := Q) (A := Ad.turn A' l) ((s2.trans sm) _ _ h1) h3 fun y H4 hy s4 hA4 => ?_⟩; exact k H4 y (s13.trans s4) (s13.free hy) hA4
def qz (K : Fg) (C : Addr) : Sp := fun vs H Q _ => ∃ (l b : Addr) (t : Ay.State) (kk i : Nat) (ax : List Nat),vs = [.ref l,.int kk,.int i,.ref b] /\ aB C H l t /\ ag K H b (vn ax) /\ aQ C H l (Ay.step t (.turn kk i ax)) Q
theorem sc_call_turn : aq ["slots","k","i","axes","refusal"] ["slots","k","i","axes"] (aj jO) := fs
theorem xf (D : Df K mg "call_turn" "call_turn" jO ["slots","k","i","axes"]) (T : Txt K mg C) (aR : Ok P w K mg base 3 "slots_refusal" ["slots","k","sources"] (bV K C)) (jo : Ok P w K mg base 3 "turned_array" ["array","axes"] (mn K C)) (aZ : Ok P w K mg base 1 "keep" ["slots","k","array"] (b6 C)) : Ok P w K mg base 4 "call_turn" ["slots","k","i","axes"] (qz K C) := by
 refine D.ok sc_call_turn (fun _ _ _ _ h => by obtain ⟨_,_,_,_,_,_,rfl,_⟩ := h; rfl) (fun f cdv A outer s H vs Q E hr h => ?_); obtain ⟨l,b,t,kk,i,ax,rfl,S0,hb0,k0⟩ := h
 refine ⟨_,(ad (aH 4 sc_call_turn.nd (ap aR hr (ab (pv 0) (ab (pv 1) (ab (az (ab (pv 2) ac)) ac)))))
  (ad (aw (aF bB (pv 4) ai) (ae (ah (az (ab (pv 4) ac)))) ao)
  (ad (aw (aF (ul hr.units) (bH zt (by rfl) T.b_sorted vC (ab (pv 3) ac)) (f7 (vV rfl) (by rfl) T.b_list rm (ab (f7 xU (by rfl) T.b_range boot_range (ab (bA T.b_len (aD (au (pv 0) (pv 2)) rfl)) ac)) ac))) (ae (ah (az (ab (aO T.g_WRONG) ac)))) ao)
  (ae (ah (ap aZ hr (ab (pv 0) (ab (pv 1) (ab (ap jo hr (ab (au (pv 0) (pv 2)) (ab (pv 3) ac))) ac))))))))),?_⟩
 refine ⟨_,rfl,_,rfl,_,rfl,bc,fun q hq => ?_⟩; have s0 : ak H (upd H q (.lst [.int i])) := ak.new hq; have hq1 : (upd H q (.lst [.int i])) q = some (.lst (vn [i])) := am; generalize upd H q (.lst [.int i]) = H1 at *; have S := S0.keep s0; have hb := s0.seq hb0; have k := k0.same s0; refine ⟨l,q,t,kk,[i],rfl,S,ag.of hq1,_,rfl,rfl,_,rfl,?_⟩
 by_cases h0 : bK t kk [i] = 0
 ·refine br (congrArg V.int h0) ?_; obtain ⟨hk,hi,A',ea,ef⟩ := oh h0; rw [Ay.step,ef] at k; obtain ⟨vs,x,g1,g2,hA,ho⟩ := aB.arr S hi ea; obtain ⟨dx,a1,b1,h1,h2,h3⟩ := id hA; obtain ⟨z1,z2,z3⟩ := Ma.aE (aG ho).1; refine ⟨_,rfl,b,_,rfl,hb,fun ys p hperm hsort hp => ?_⟩; have s2 : ak H1 (upd H1 p (.lst (vi ys))) := ak.new hp; have hp2 : (upd H1 p (.lst (vi ys))) p = some (.lst (vi ys)) := am; change _ at hp2; generalize upd H1 p (.lst (vi ys)) = H2 at *; refine ⟨_,rfl,_,rfl,l,vs,_,_,rfl,rfl,ag.of (s2 _ _ g1),g2,x,C,dx,_,_,rfl,s2 _ _ h1,T.cl,T.nL,aU a1 b1,a1,_,rfl,.inl (ag.of (s2 _ _ h2)),_,rfl,fun u hu => ?_⟩; rw [aI]; have s3 : ak H2 (upd H2 u (.rng 0 (A'.shape.length : Int))) := ak.new hu; have hu2 : (upd H2 u (.rng 0 (A'.shape.length : Int))) u = some (.rng 0 (A'.shape.length : Int)) := am; generalize upd H2 u (.rng 0 (A'.shape.length : Int)) = H3 at *; refine ⟨u,A'.shape.length,rfl,hu2,by omega,fun r hr3 => ?_⟩; have s4 : ak H3 (upd H3 r (.lst (vn (List.range A'.shape.length)))) := ak.new hr3; have hr4 : (upd H3 r (.lst (vn (List.range A'.shape.length)))) r = some (.lst (vn (List.range A'.shape.length))) := am; generalize upd H3 r (.lst (vn (List.range A'.shape.length))) = H4 at *; have s34 := s3.trans s4; have s24 := s2.trans s34; refine ⟨p,r,ys,Ma.nz (List.range A'.shape.length),rfl,rfl,ag.of (s34 _ _ hp2),ag.of hr4,_,rfl,?_⟩; have e1 := Ma.xZ (r := A'.shape.length) hperm hsort
  by_cases e2 : ys = Ma.nz (List.range A'.shape.length)
  ·rw [decide_eq_true e2] at e1; refine br e2 ?_; rw [if_neg (by rw [e1]; simp)] at k; refine ⟨_,rfl,_,rfl,_,rfl,_,rfl,l,vs,_,_,rfl,rfl,ag.of (s24 _ _ g1),g2,_,rfl,x,b,A',ax,rfl,hA.keep s24,ho,s24.seq hb,e1,fun H5 y s5 hy hA5 => ?_⟩; exact ⟨l,y,t,kk,_,rfl,hk,S.keep (s24.trans s5),hA5,eW (Ma.tF (aG ho).1 e1) fun p hp => fD ho (Ma.vB e1 hp),k.same (s24.trans s5)⟩
  ·rw [decide_eq_false e2] at e1; refine bz e2 ?_; rw [if_pos e1] at k; exact ⟨bc,aQ.no S s24 k rfl⟩
 ·obtain ⟨n,h2,ef⟩ := tW h0; rw [Ay.step,ef] at k; refine bz (a5 h0) ?_; exact ⟨_,rfl,bc,aQ.no S (ak.refl H1) k h2⟩
end
end Go

namespace Go
open PySem PySem.Spec PyProof.Rows L2
section
variable {P : Program} {w : World} {K : Fg} {mg : Str -> Option Value} {base : Heap} {C al : Addr}
theorem z9 (l : List Nat) : (Ma.nz l).length = l.length := List.length_map ..
theorem bv {s : List Nat} {ax : Nat} (h : ax < s.length) : s[ax]? = some (Ad.along s ax) := by
 have h2 : s[ax]? = some (s[ax]'h) := List.getElem?_eq_getElem _; rw [Ma.bL h2]; exact h2
theorem lr (l : List Nat) (x : Nat) : (vn l).eraseIdx x = vn (l.eraseIdx x) := by
 show ((l.map _).map _).eraseIdx x = ((l.eraseIdx x).map _).map _; rw [Ma.vH,Ma.vH]
def dg (K : Fg) : Sp := fun vs H Q _ => ∃ (a : Addr) (xs : List V) (ax : Nat),vs = [.ref a,.int ax] /\ ag K H a xs /\ xs.length <= 1000 /\ ∀ H' q,ak H H' -> H q = none -> H' q = some (.lst (xs.eraseIdx ax)) -> Q (.ref q) H'
theorem ur : aq ["numbers","axis"] ["numbers","axis"] (aj gy) := fs
theorem tH (D : Df K mg "without_axis" "without_axis" gy ["numbers","axis"]) (T : Txt K mg C) : Ok P w K mg base 1 "without_axis" ["numbers","axis"] (dg K) := by
 refine D.ok ur (fun _ _ _ _ h => by obtain ⟨_,_,_,rfl,_⟩ := h; rfl) (fun f cdv A outer s H vs Q E hr h => ?_); obtain ⟨a,xs,ax,rfl,ha,hl,k⟩ := h; refine ⟨_,(ae (ah (aV iR (fg gi (pv 0) ji (eP (pv 1))) (fg gi (pv 0) (eP (aV cP (pv 1) ai)) ji)))),?_⟩; refine ⟨_,rfl,_,rfl,_,rfl,a,_,rfl,ha,fun q hq => ?_⟩; rw [yD]; have s1 : ak H (upd H q (.lst (xs.take ax))) := ak.new hq; have h1 : (upd H q (.lst (xs.take ax))) q = some (.lst (xs.take ax)) := am; generalize upd H q (.lst (xs.take ax)) = H1 at *; refine ⟨_,rfl,_,rfl,_,_,rfl,rfl,_,rfl,a,_,rfl,s1.seq ha,fun q2 hq2 => ?_⟩; have e : eJ xs (some ((ax : Int) + 1)) none = xs.drop (ax + 1) := j2 xs (ax + 1); rw [e]; have s2 : ak H1 (upd H1 q2 (.lst (xs.drop (ax + 1)))) := ak.new hq2; have h2 : (upd H1 q2 (.lst (xs.drop (ax + 1)))) q2 = some (.lst (xs.drop (ax + 1))) := am; generalize upd H1 q2 (.lst (xs.drop (ax + 1))) = H2 at *; refine ⟨q,q2,_,_,rfl,rfl,s2 _ _ h1,h2,(by rw [List.length_take,List.length_drop]; show _ <= 2 ^ 24; omega),fun p hp => ?_⟩; rw [Ma.ln]; have s12 := s1.trans s2; exact k _ p (s12.upd (s12.free hp)) (s12.free hp) am
def lT (K : Fg) : Sp := fun vs H Q _ => ∃ (a : Addr) (xs : List V) (ax : Nat) (v : V),vs = [.ref a,.int ax,v] /\ ag K H a xs /\ xs.length <= 1000 /\ ∀ H' q,ak H H' -> H q = none -> H' q = some (.lst (xs.take ax ++ v :: xs.drop ax)) -> Q (.ref q) H'
theorem xc : aq ["numbers","axis","number"] ["numbers","axis","number"] (aj jK) := fs
theorem xz (D : Df K mg "with_axis" "with_axis" jK ["numbers","axis","number"]) (T : Txt K mg C) : Ok P w K mg base 1 "with_axis" ["numbers","axis","number"] (lT K) := by
 refine D.ok xc (fun _ _ _ _ h => by obtain ⟨_,_,_,_,rfl,_⟩ := h; rfl) (fun f cdv A outer s H vs Q E hr h => ?_); obtain ⟨a,xs,ax,v,rfl,ha,hl,k⟩ := h; refine ⟨_,(ae (ah (aV iR (aV iR (fg gi (pv 0) ji (eP (pv 1))) (az (ab (pv 2) ac))) (fg gi (pv 0) (eP (pv 1)) ji)))),?_⟩; refine ⟨_,rfl,_,rfl,_,rfl,a,_,rfl,ha,fun q hq => ?_⟩; rw [yD]; have s1 : ak H (upd H q (.lst (xs.take ax))) := ak.new hq; have h1 : (upd H q (.lst (xs.take ax))) q = some (.lst (xs.take ax)) := am; generalize upd H q (.lst (xs.take ax)) = H1 at *; refine ⟨_,rfl,bc,fun r hr1 => ?_⟩; have s2 : ak H1 (upd H1 r (.lst [v])) := ak.new hr1; have h2 : (upd H1 r (.lst [v])) r = some (.lst [v]) := am; generalize upd H1 r (.lst [v]) = H2 at *; refine ⟨q,r,_,_,rfl,rfl,s2 _ _ h1,h2,(by rw [List.length_take]; show _ <= 2 ^ 24; simp only [List.length_cons,List.length_nil]; omega),fun u hu => ?_⟩; have s3 : ak H2 (upd H2 u (.lst (xs.take ax ++ [v]))) := ak.new hu; have h3 : (upd H2 u (.lst (xs.take ax ++ [v]))) u = some (.lst (xs.take ax ++ [v])) := am; generalize upd H2 u (.lst (xs.take ax ++ [v])) = H3 at *; have s13 := (s1.trans s2).trans s3; refine ⟨_,rfl,_,rfl,_,rfl,a,_,rfl,s13.seq ha,fun q2 hq2 => ?_⟩; rw [j2]; have s4 : ak H3 (upd H3 q2 (.lst (xs.drop ax))) := ak.new hq2; have h4 : (upd H3 q2 (.lst (xs.drop ax))) q2 = some (.lst (xs.drop ax)) := am; generalize upd H3 q2 (.lst (xs.drop ax)) = H4 at *; refine ⟨u,q2,_,_,rfl,rfl,s4 _ _ h3,h4,(by rw [List.length_append,List.length_take,List.length_drop]; show _ <= 2 ^ 24; simp only [List.length_cons,List.length_nil]; omega),fun p hp => ?_⟩; have s14 := s13.trans s4; refine k _ p (s14.upd (s14.free hp)) (s14.free hp) ?_; rw [am,List.append_assoc]; rfl
def gm (K : Fg) : Sp := fun vs H Q _ => ∃ (a : Addr) (xs : List V) (ax : Nat) (v : V),vs = [.ref a,.int ax,v] /\ ag K H a xs /\ xs.length <= 1000 /\ ax < xs.length /\ ∀ H' q,ak H H' -> H q = none -> H' q = some (.lst (xs.set ax v)) -> Q (.ref q) H'
theorem u7 : aq ["lengths","axis","length"] ["lengths","axis","length"] (aj gY) := fs
theorem uG (D : Df K mg "with_length" "with_length" gY ["lengths","axis","length"]) (T : Txt K mg C) (fA : Ok P w K mg base 1 "with_axis" ["numbers","axis","number"] (lT K)) (bd : Ok P w K mg base 1 "without_axis" ["numbers","axis"] (dg K)) : Ok P w K mg base 2 "with_length" ["lengths","axis","length"] (gm K) := by
 refine D.ok u7 (fun _ _ _ _ h => by obtain ⟨_,_,_,_,rfl,_⟩ := h; rfl) (fun f cdv A outer s H vs Q E hr h => ?_); obtain ⟨a,xs,ax,v,rfl,ha,hl,hx,k⟩ := h; refine ⟨_,(ae (ah (ap fA hr (ab (ap bd hr (ab (pv 0) (ab (pv 1) ac))) (ab (pv 1) (ab (pv 2) ac)))))),?_⟩; refine ⟨_,rfl,_,rfl,a,xs,ax,rfl,ha,hl,fun H1 q s1 hq h1 => ?_⟩; refine ⟨_,rfl,_,rfl,q,_,ax,v,rfl,ag.of h1,?_,fun H2 r s2 hr2 h2 => ?_⟩
 ·rw [List.length_eraseIdx]
  split <;> omega
 ·rw [Ma.mo xs ax v hx] at h2; exact k H2 r (s1.trans s2) (s1.free hr2) h2
def cA (t : Ay.State) (k i : Nat) (is : List Nat) (ax : Nat) : Int := if bK t k (i :: is) = 0 then (match t.getD i none with
 | some A => if A.shape.length <= ax then -1 else 0
 | none => 0) else bK t k (i :: is)
theorem zq {t : Ay.State} {k i : Nat} {is : List Nat} (h : bK t k (i :: is) = 0) : i < 8 /\ ∃ A,t.getD i none = some A := by
 unfold bK at h
 by_cases h0 : eg k = 0
 ·rw [if_pos h0] at h
  by_cases h1 : cu t i = 0
  ·obtain ⟨g1,A,g2,_⟩ := eL h1; exact ⟨g1,A,g2⟩
  ·rw [cp,if_neg h1] at h; exact absurd h h1
 ·rw [if_neg h0] at h; exact absurd h h0
def cD (K : Fg) (C : Addr) : Sp := fun vs H Q _ => ∃ (l a : Addr) (t : Ay.State) (kk i ax : Nat) (is : List Nat),vs = [.ref l,.int kk,.ref a,.int ax] /\ aB C H l t /\ ag K H a (vn (i :: is)) /\ Q (.int (cA t kk i is ax)) H
theorem sc_axis_refusal : aq ["slots","k","sources","axis","refusal"] ["slots","k","sources","axis"] (aj gq) := fs
theorem uu (D : Df K mg "axis_refusal" "axis_refusal" gq ["slots","k","sources","axis"]) (T : Txt K mg C) (aR : Ok P w K mg base 3 "slots_refusal" ["slots","k","sources"] (bV K C)) : Ok P w K mg base 4 "axis_refusal" ["slots","k","sources","axis"] (cD K C) := by
 refine D.ok sc_axis_refusal (fun _ _ _ _ h => by obtain ⟨_,_,_,_,_,_,_,rfl,_⟩ := h; rfl) (fun f cdv A outer s H vs Q E hr h => ?_); obtain ⟨l,a,t,kk,i,ax,is,rfl,S,ha,k⟩ := h
 refine ⟨_,(ad (aH 4 sc_axis_refusal.nd (ap aR hr (ab (pv 0) (ab (pv 1) (ab (pv 2) ac)))))
  (ad (aw (aF bB (pv 4) ai) (ae (ah (pv 4))) ao)
  (ad (aw (aF mE (pv 3) (bA T.b_len (aD (au (pv 0) (au (pv 2) ai)) rfl))) (ae (ah (aO T.g_WRONG))) ao)
  (ae (ah ai))))),?_⟩
 refine ⟨_,rfl,_,rfl,_,rfl,l,a,t,kk,i :: is,rfl,S,ha,_,rfl,rfl,_,rfl,?_⟩
 by_cases h0 : bK t kk (i :: is) = 0
 ·refine br (congrArg V.int h0) ?_; rw [cA,if_pos h0] at k; obtain ⟨hi,A',ea⟩ := zq h0; obtain ⟨vs,x,g1,g2,hA,ho⟩ := aB.arr S hi ea; obtain ⟨dx,a1,b1,h1,h2,h3⟩ := id hA; rw [ea] at k; refine ⟨_,rfl,_,rfl,_,rfl,a,_,_,_,rfl,rfl,ha,(bE (j := 0) rfl : fm (vn (i :: is)) 0 = some (V.int i)),l,vs,_,_,rfl,rfl,ag.of g1,g2,x,C,dx,_,_,rfl,h1,T.cl,T.nL,aU a1 b1,a1,_,rfl,.inl (ag.of h2),_,_,rfl,rfl,_,rfl,ba (fun h => ?_) (fun h => ?_)⟩
  ·have h4 := of_decide_eq_true h; rw [aI] at h4; simp only at k; rw [if_pos (by omega)] at k; exact k
  ·rw [aI] at h; simp at h; simp only at k; rw [if_neg (by omega)] at k; exact k
 ·rw [cA,if_neg h0] at k; refine bz (a5 h0) ?_; exact ⟨_,rfl,k⟩
theorem oB {t : Ay.State} {k i ax : Nat} (h : cA t k i [] ax = 0) : k < 8 /\ i < 8 /\ ∃ A,t.getD i none = some A /\ ax < A.shape.length /\ ∀ f : Ad.Arr -> Ay.State × Ay.Answer,Ay.into t k (Ay.ofSlot t i fun a => Ay.ofAxis t ax a (f a)) = f A := by
 unfold cA at h
 by_cases h0 : bK t k [i] = 0
 ·rw [if_pos h0] at h; obtain ⟨hk,hi,A,ea,ef⟩ := oh h0; rw [ea] at h; simp only at h
  by_cases hx : A.shape.length <= ax
  ·rw [if_pos hx] at h; cases h
  ·refine ⟨hk,hi,A,ea,by omega,fun f => ?_⟩; rw [ef]; exact if_neg hx
 ·rw [if_neg h0] at h; exact absurd h h0
theorem tL {t : Ay.State} {k i ax : Nat} (h : ¬ cA t k i [] ax = 0) : ∃ n : Nat,cA t k i [] ax = -(n : Int) /\ ∀ f : Ad.Arr -> Ay.State × Ay.Answer,Ay.into t k (Ay.ofSlot t i fun a => Ay.ofAxis t ax a (f a)) = (t,Ay.no n) := by
 unfold cA at h ⊢
 by_cases h0 : bK t k [i] = 0
 ·rw [if_pos h0] at h ⊢; obtain ⟨hk,hi,A,ea,ef⟩ := oh h0; rw [ea] at h ⊢; simp only at h ⊢
  by_cases hx : A.shape.length <= ax
  ·rw [if_pos hx]; refine ⟨1,rfl,fun f => ?_⟩; rw [ef]; exact if_pos hx
  ·rw [if_neg hx] at h; exact absurd rfl h
 ·rw [if_neg h0]; obtain ⟨n,e,ef⟩ := tW h0; exact ⟨n,e,fun f => ef _⟩
theorem ye {t : Ay.State} {k i j ax : Nat} (h : cA t k i [j] ax = 0) : k < 8 /\ i < 8 /\ j < 8 /\ ∃ A B,t.getD i none = some A /\ t.getD j none = some B /\ ax < A.shape.length /\ ∀ f : Ad.Arr -> Ad.Arr -> Ay.State × Ay.Answer,Ay.into t k (Ay.ofSlot t i fun a => Ay.ofSlot t j fun b => Ay.ofAxis t ax a (f a b)) = f A B := by
 unfold cA at h
 by_cases h0 : bK t k [i,j] = 0
 ·rw [if_pos h0] at h; obtain ⟨hk,hi,hj,A,B,ea,eb,ef⟩ := ow h0; rw [ea] at h; simp only at h
  by_cases hx : A.shape.length <= ax
  ·rw [if_pos hx] at h; cases h
  ·refine ⟨hk,hi,hj,A,B,ea,eb,by omega,fun f => ?_⟩; rw [ef]; exact if_neg hx
 ·rw [if_neg h0] at h; exact absurd h h0
theorem z4 {t : Ay.State} {k i j ax : Nat} (h : ¬ cA t k i [j] ax = 0) : ∃ n : Nat,cA t k i [j] ax = -(n : Int) /\ ∀ f : Ad.Arr -> Ad.Arr -> Ay.State × Ay.Answer,Ay.into t k (Ay.ofSlot t i fun a => Ay.ofSlot t j fun b => Ay.ofAxis t ax a (f a b)) = (t,Ay.no n) := by
 unfold cA at h ⊢
 by_cases h0 : bK t k [i,j] = 0
 ·rw [if_pos h0] at h ⊢; obtain ⟨hk,hi,hj,A,B,ea,eb,ef⟩ := ow h0; rw [ea] at h ⊢; simp only at h ⊢
  by_cases hx : A.shape.length <= ax
  ·rw [if_pos hx]; refine ⟨1,rfl,fun f => ?_⟩; rw [ef]; exact if_pos hx
  ·rw [if_neg hx] at h; exact absurd rfl h
 ·rw [if_neg h0]; obtain ⟨n,e,ef⟩ := tU h0; exact ⟨n,e,fun f => ef _⟩
def dA (H : Hp) (D : Addr) (X : List (List V)) : Prop := ∃ qs : List Addr,H D = some (.lst (qs.map V.ref)) /\ qs.length = X.length /\ ∀ (i : Nat) q x,qs[i]? = some q -> X[i]? = some x -> H q = some (.lst x)
theorem dA.keep {H H' : Hp} {D : Addr} {X : List (List V)} (h : dA H D X) (sm : ak H H') : dA H' D X := by
 obtain ⟨qs,h1,h2,h3⟩ := h; exact ⟨qs,sm _ _ h1,h2,fun i q x e1 e2 => sm _ _ (h3 i q x e1 e2)⟩
theorem dA.of {H : Hp} {D : Addr} {X : List (List V)} {f : Nat -> List V} {n : Nat} {qs : List Addr} (h1 : H D = some (.lst (qs.map V.ref))) (h2 : qs.length = n) (h3 : ∀ (i : Nat) q,qs[i]? = some q -> H q = some (.lst (f i))) (hn : X.length = n) (hf : ∀ i x,X[i]? = some x -> f i = x) : dA H D X :=
 ⟨qs,h1,by rw [h2,hn],fun i q x e1 e2 => by rw [h3 i q e1,hf i x e2]⟩
theorem dA.src {K : Fg} {H : Hp} {D : Addr} {X : List (List V)} (h : dA H D X) : ∃ xs,ag K H D xs /\ xs.length = X.length /\ ∀ (i : Nat) v,xs[i]? = some v -> ∃ q x,v = .ref q /\ X[i]? = some x /\ H q = some (.lst x) := by
 obtain ⟨qs,h1,h2,h3⟩ := h; refine ⟨_,ag.of h1,by rw [List.length_map,h2],fun i v hv => ?_⟩; rw [List.getElem?_map] at hv
 cases e : qs[i]? with
 | none => rw [e] at hv; cases hv
 | some q =>
  rw [e] at hv; have e2 : V.ref q = v := Option.some.inj hv; have hlt := (List.getElem?_eq_some_iff.mp e).1; have e3 : X[i]? = some (X[i]'(by omega)) := List.getElem?_eq_getElem _; exact ⟨q,_,e2.symm,e3,h3 i q _ e e3⟩
abbrev dv (ax : Nat) (A : Ad.Arr) : List (List V) := (Ad.rowsBy ax A).map vi
theorem cw (ax : Nat) (A : Ad.Arr) : (dv ax A).length = Ad.product_ (Ad.removed A.shape ax) := by rw [List.length_map,Ma.ld]
def vz (K : Fg) (C : Addr) : Sp := fun vs H Q _ => ∃ (x b : Addr) (A : Ad.Arr) (ax : Nat) (p : List Nat),vs = [.ref x,.int ax,.ref b] /\ b_ C H x A /\ A.ok = true /\ ag K H b (vn p) /\ ax < A.shape.length /\ Ma.In (Ad.removed A.shape ax) p /\ ∀ H' q,ak H H' -> H q = none -> H' q = some (.lst (vi (Ad.rowAt A ax (Ad.filledIn ax p)))) -> Q (.ref q) H'
theorem sc_row_at : aq ["array","axis","others","number"] ["array","axis","others"] (aj lw) := fs
theorem aaC (D : Df K mg "row_at" "row_at" lw ["array","axis","others"]) (T : Txt K mg C) (cN : Ok P w K mg base 2 "cell_at" ["array","place"] (iJ K C)) (fA : Ok P w K mg base 1 "with_axis" ["numbers","axis","number"] (lT K)) : Ok P w K mg base 3 "row_at" ["array","axis","others"] (vz K C) := by
 refine D.ok sc_row_at (fun _ _ _ _ h => by obtain ⟨_,_,_,_,_,rfl,_⟩ := h; rfl) (fun f cdv A outer s H vs Q E hr h => ?_); obtain ⟨x,b,A',ax,p,rfl,hA,ho,hb,hx,hp,k⟩ := h; refine ⟨_,(ae (ah (dB rfl sc_row_at.nd (d9 rfl T.b_range (ab (au (aD (pv 0) rfl) (pv 1)) ac)) (a_ (N := ["array","axis","others","number"]) (sc := aj lw) (own := [("number",3)]) (by decide +kernel)) (fun _ _ _ _ _ => (a0 3 sc_row_at.nd)) (fun _ _ _ _ _ => bt) (fun _ _ _ _ _ => (ap cN hr (ab (pv 0) (ab (ap fA hr (ab (pv 2) (ab (pv 1) (ab (pv 3) ac)))) ac))))))),?_⟩; obtain ⟨dx,a1,b1,h1,h2,h3⟩ := id hA; obtain ⟨z1,z2,z3⟩ := Ma.aE (aG ho).1; have hle := Ma.cg z2 _ (List.mem_of_getElem? (bv hx))
 have hpl : p.length = A'.shape.length - 1 := by
  rw [hp.len]; unfold Ad.removed; rw [List.length_eraseIdx,if_pos hx]
 refine ⟨_,rfl,x,C,dx,_,_,rfl,h1,T.cl,T.nL,aU a1 b1,_,rfl,a1,_,_,_,rfl,rfl,ag.of h2,bE (dr (bv hx)),_,rfl,by omega,by omega,fun D hD => ?_⟩; refine cF (fX) (fun i => V.int (A'.at_ (p.take ax ++ i :: p.drop ax))) hD (by show _ <= 2 ^ 24; omega) ?_ bg ?_
 ·rintro i H1 v H2 hi sm ⟨rfl,rfl⟩ Q' kq; have hi' : i < Ad.along A'.shape ax := by omega
  refine ⟨rfl,_,rfl,_,rfl,_,rfl,_,rfl,b,vn p,ax,.int (i : Int),?_,sm.seq hb,by rw [aI]; omega,fun H3 q3 s3 n3 h3 => ?_⟩
  ·rw [Int.zero_add]; rfl
  ·have e : (vn p).take ax ++ V.int (i : Int) :: (vn p).drop ax = vn (p.take ax ++ i :: p.drop ax) := by
    rw [qT,vb]; show _ ++ _ = List.map V.int (List.map _ _) ++ (V.int (i : Int) :: vn (p.drop ax)); rw [List.map_take,List.map_take]
   rw [e] at h3; exact ⟨x,q3,A',_,rfl,hA.keep (sm.trans s3),ho,ag.of h3,Ma.In.fill hp hx hi',fun H4 s4 => kq H4 (s3.trans s4)⟩
 ·intro H' sm hd; refine k H' D sm hD ?_; rw [hd]; congr 2; show _ = List.map V.int (Ad.rowAt A' ax (Ad.filledIn ax p)); unfold Ad.rowAt; rw [List.map_map]; apply List.map_congr_left; intro i _; show V.int _ = V.int (A'.at_ ((Ad.filledIn ax p).set ax i)); rw [Ma.sE p ax i (by omega)]
def dE (K : Fg) (C : Addr) : Sp := fun vs H Q _ => ∃ (x : Addr) (A : Ad.Arr) (ax : Nat),vs = [.ref x,.int ax] /\ b_ C H x A /\ A.ok = true /\ ax < A.shape.length /\ ∀ H' q,ak H H' -> H q = none -> dA H' q (dv ax A) -> Q (.ref q) H'
theorem sc_rows_of : aq ["array","axis","others"] ["array","axis"] (aj jY) := fs
theorem zJ (D : Df K mg "rows_of" "rows_of" jY ["array","axis"]) (T : Txt K mg C) (bI : Ok P w K mg base 2 "places_of" ["lengths"] (eQ K)) (bd : Ok P w K mg base 1 "without_axis" ["numbers","axis"] (dg K)) (sW : Ok P w K mg base 3 "row_at" ["array","axis","others"] (vz K C)) : Ok P w K mg base 4 "rows_of" ["array","axis"] (dE K C) := by
 refine D.ok sc_rows_of (fun _ _ _ _ h => by obtain ⟨_,_,_,rfl,_⟩ := h; rfl) (fun f cdv A outer s H vs Q E hr h => ?_); obtain ⟨x,A',ax,rfl,hA,ho,hx,k⟩ := h; refine ⟨_,(ae (ah (dB rfl sc_rows_of.nd (bD (ap bI hr (ab (ap bd hr (ab (aD (pv 0) rfl) (ab (pv 1) ac))) ac))) (a_ (N := ["array","axis","others"]) (sc := aj jY) (own := [("others",2)]) (by decide +kernel)) (fun _ _ _ _ _ => (a0 2 sc_rows_of.nd)) (fun _ _ _ _ _ => bt) (fun _ _ _ _ _ => (ap sW hr (ab (pv 0) (ab (pv 1) (ab (pv 2) ac)))))))),?_⟩; obtain ⟨dx,a1,b1,h1,h2,h3⟩ := id hA; obtain ⟨z1,z2,z3⟩ := Ma.aE (aG ho).1; have hrs := Ma.cn (aG ho).1 ax; obtain ⟨y1,y2,y3⟩ := Ma.aE hrs; refine ⟨_,rfl,x,C,dx,_,_,rfl,h1,T.cl,T.nL,aU a1 b1,_,rfl,a1,_,ax,rfl,ag.of h2,by rw [aI]; omega,fun H1 q s1 hq hq1 => ?_⟩; rw [lr] at hq1; refine ⟨q,Ad.removed A'.shape ax,rfl,ag.of hq1,hrs,fun H2 u s2 hu hP => ?_⟩; obtain ⟨qs,p1,p2,p3⟩ := id hP; have s12 := s1.trans s2; refine ⟨u,rfl,⟨_,ag.of p1⟩,fun D hD => ?_⟩; refine pq (bX (ag.of p1)) (fun c => vi (Ad.rowAt A' ax (Ad.filledIn ax (Ad.placeOf (Ad.removed A'.shape ax) c)))) hD (by rw [List.length_map,p2]; show _ <= 2 ^ 24; omega) ?_ bg ?_
 ·rintro c H3 v H4 hi sm ⟨rfl,hx2⟩ Q' kq; rw [List.getElem?_map] at hx2
  cases e : qs[c]? with
  | none => rw [e] at hx2; cases hx2
  | some r =>
   rw [e] at hx2; have e2 : V.ref r = v := Option.some.inj hx2; subst e2; have hc : c < Ad.product_ (Ad.removed A'.shape ax) := by rw [← p2]; exact (List.getElem?_eq_some_iff.mp e).1
   exact ⟨rfl,_,rfl,_,rfl,_,rfl,x,r,A',ax,_,rfl,hA.keep (s12.trans sm),ho,ag.of (sm _ _ (p3 c r e)),hx,Ma.cC hc,fun H5 q5 s5 n5 h5 => kq q5 H5 s5 n5 h5⟩
 ·intro H' ds sm g1 g2 g3; refine k H' D (s12.trans sm) (s12.free hD) (dA.of g1 g2 g3 ?_ ?_)
  ·rw [cw,List.length_map,p2]
  ·intro i y hy; rw [List.getElem?_map] at hy
   cases e : (Ad.rowsBy ax A')[i]? with
   | none => rw [e] at hy; cases hy
   | some r =>
    rw [e] at hy; rw [← (Ma.iO e).2]; exact Option.some.inj hy
def uN (C : Addr) (H : Hp) (x : Addr) (s : List Nat) (cs : List V) : Prop := ∃ dx a b,H x = some (.ins C dx (af a b)) /\ H a = some (.lst (vn s)) /\ H b = some (.lst cs)
theorem jX {H : Hp} {Q : VK} {a b : Addr} {s : List Nat} {cs : List V} (ha : H a = some (.lst (vn s))) (hb : H b = some (.lst cs)) (k : ∀ x H',H x = none -> ak H H' -> uN C H' x s cs -> Q (.ref x) H') :
  ∀ x dx,H x = none -> H dx = none -> dx ≠ x -> bP C (.ref x :: ([.ref a,.ref b] ++ [])) (upd (upd H dx (.own x)) x (.ins C dx [])) (fun v H2 => v = .non /\ Q (.ref x) H2) E0 := by
 intro x dx hx hdx hne; refine ⟨x,dx,a,b,rfl,am,fun H' h1 h2 => ⟨rfl,?_⟩⟩; have sm : ak H H' := ak.made hx hdx h2; exact k x H' hx sm ⟨dx,a,b,h1,sm _ _ ha,sm _ _ hb⟩
abbrev xF (s : List Nat) (g : List Nat -> V) : List V := (List.range (Ad.product_ s)).map fun c => g (Ad.placeOf s c)
def cr (K : Fg) (C : Addr) : Sp := fun vs H Q _ => ∃ (a D : Addr) (s : List Nat) (ax : Nat) (X : List (List V)) (g : List Nat -> V),vs = [.ref a,.int ax,.ref D] /\ H a = some (.lst (vn s)) /\ Ad.shapeOk s = true /\ ax < s.length /\ dA H D X ∧
 (∀ p,Ma.In s p -> ∃ r,X[Ad.cellOf (Ad.removed s ax) (p.eraseIdx ax)]? = some r /\ r[p.getD ax 0]? = some (g p)) /\ ∀ H' y,ak H H' -> H y = none -> uN C H' y s (xF s g) -> Q (.ref y) H'
theorem sc_array_of_rows : aq ["lengths","axis","rows","other_lengths","cells","place","row"] ["lengths","axis","rows"] (aj fH) := fs
theorem sS (D : Df K mg "array_of_rows" "array_of_rows" fH ["lengths","axis","rows"]) (T : Txt K mg C) (bI : Ok P w K mg base 2 "places_of" ["lengths"] (eQ K)) (bd : Ok P w K mg base 1 "without_axis" ["numbers","axis"] (dg K)) (bZ : Ok P w K mg base 1 "number_of" ["lengths","place"] (f9 K)) (aS : dS P w K mg base 1 "Array" C ["self","lengths","cells"] (bP C)) : Ok P w K mg base 3 "array_of_rows" ["lengths","axis","rows"] (cr K C) := by
 refine D.ok sc_array_of_rows (fun _ _ _ _ h => by obtain ⟨_,_,_,_,_,_,rfl,_⟩ := h; rfl) (fun f cdv A outer s H vs Q E hr h => ?_); obtain ⟨a,D,ns,ax,X,g,rfl,ha,hs,hx,hX,hg,k⟩ := h
 refine ⟨_,(ad (aH 3 sc_array_of_rows.nd (ap bd hr (ab (pv 0) (ab (pv 1) ac))))
  (ad (aH 4 sc_array_of_rows.nd (az ac))
  (ad (bS PassesOwn.never rfl (bD (ap bI hr (ab (pv 0) ac))) (a0 5 sc_array_of_rows.nd) (ad (aH 6 sc_array_of_rows.nd (au (pv 2) (ap bZ hr (ab (pv 3) (ab (ap bd hr (ab (pv 5) (ab (pv 1) ac))) ac)))))
  (ae (cI (gw PySem.F.plainAttrs_list PySem.F.slot_list_append PySem.F.type_list_append dc (pv 4) (ab (au (pv 6) (au (pv 5) (pv 1))) ac))))))
  (ae (ah (d5 aS hr (ab (pv 0) (ab (pv 4) ac)))))))),?_⟩
 obtain ⟨z1,z2,z3⟩ := Ma.aE hs; obtain ⟨y1,y2,y3⟩ := Ma.aE (Ma.cn hs ax); refine ⟨_,rfl,_,rfl,a,_,ax,rfl,ag.of ha,by rw [aI]; omega,fun H1 o s1 ho1 hoo => ?_⟩; rw [lr] at hoo; refine ⟨Nat.zero_le _,fun d hd => ?_⟩; have s2 : ak H1 (upd H1 d (.lst [])) := ak.new hd; have hd2 : (upd H1 d (.lst [])) d = some (.lst []) := am; generalize upd H1 d (.lst []) = H2 at *; have s12 := s1.trans s2; have hd0 : H d = none := s1.free hd; refine ⟨_,rfl,a,ns,rfl,ag.of (s12 _ _ ha),hs,fun H3 u s3 hu hP => ?_⟩; obtain ⟨qs,p1,p2,p3⟩ := id hP; have s13 := s12.trans s3; have ho3 := (s2.trans s3) _ _ hoo; have hud : u ≠ d := fun e => by rw [e,hd2] at hu; cases hu
 have hqd : ∀ (c : Nat) q,qs[c]? = some q -> q ≠ d := fun c q e z => by
  have h1 := p3 c q e; rw [z,s3 _ _ hd2] at h1; have h2 : ([] : List V) = vn (Ad.placeOf ns c) := HO.lst.inj (Option.some.inj h1); have h3 := congrArg List.length h2; rw [aI,Ma.eV] at h3; simp at h3; omega
 refine ⟨u,rfl,⟨_,ag.of p1⟩,d_ (K := K) (a := u) (xs := qs.map V.ref) (fun i σ H' => ∃ (v1 v2 : Option V),σ = [some (.ref a),some (.int ax),some (.ref D),some (.ref o),some (.ref d),v1,v2] /\ H' d = some (.lst ((List.range i).map fun c => g (Ad.placeOf ns c))) /\ aN d H3 H')
  ⟨none,none,rfl,s3 _ _ hd2,(ak.refl H3).keep⟩ (fun i σ H' _ ⟨_,_,_,_,e⟩ => ag.of (e _ _ p1 hud)) ?_ ?_⟩
 ·rintro i x σ H' hi ⟨v1,v2,rfl,hd',kp⟩; rw [List.getElem?_map] at hi
  cases e : qs[i]? with
  | none => rw [e] at hi; cases hi
  | some q =>
   rw [e] at hi; have e2 : V.ref q = x := Option.some.inj hi; subst e2; have hc : i < Ad.product_ ns := by rw [← p2]; exact (List.getElem?_eq_some_iff.mp e).1
   have hin := Ma.cC hc; have hq' : H' q = some (.lst (vn (Ad.placeOf ns i))) := kp _ _ (p3 i q e) (hqd i q e); have hod : o ≠ d := fun z => by rw [z,hd] at hoo; cases hoo
   have ho' : H' o = some (.lst (vn (ns.eraseIdx ax))) := kp _ _ ho3 hod; obtain ⟨r,hr1,hr2⟩ := hg _ hin; obtain ⟨rs,w1,w2,w3⟩ := hX
   have hrl : Ad.cellOf (Ad.removed ns ax) ((Ad.placeOf ns i).eraseIdx ax) < rs.length := by
    rw [w2]; exact (List.getElem?_eq_some_iff.mp hr1).1
   have w4 : rs[Ad.cellOf (Ad.removed ns ax) ((Ad.placeOf ns i).eraseIdx ax)]? = some (rs[Ad.cellOf (Ad.removed ns ax) ((Ad.placeOf ns i).eraseIdx ax)]'hrl) := List.getElem?_eq_getElem hrl; have w5 := w3 _ _ r w4 hr1; generalize rs[Ad.cellOf (Ad.removed ns ax) ((Ad.placeOf ns i).eraseIdx ax)]'hrl = rr at w4 w5; have hDd : D ≠ d := aJ w1 hd0; have hrd : rr ≠ d := aJ w5 hd0; have hD' : H' D = some (.lst (rs.map V.ref)) := kp _ _ (s13 _ _ w1) hDd; have hrr' : H' rr = some (.lst r) := kp _ _ (s13 _ _ w5) hrd; refine ⟨_,rfl,_,rfl,_,rfl,_,rfl,q,_,ax,rfl,ag.of hq',by rw [aI,Ma.eV]; omega,fun H4 u4 s4 hu4 h4 => ?_⟩; rw [lr] at h4; refine ⟨o,u4,ns.eraseIdx ax,(Ad.placeOf ns i).eraseIdx ax,rfl,ag.of (s4 _ _ ho'),ag.of h4,(hin.erase (x := ax)).len,fun n hn => ci hs n (List.mem_of_mem_eraseIdx hn),fun H5 s5 => ?_⟩; have s45 := s4.trans s5; have hpx : (Ad.placeOf ns i)[ax]? = some ((Ad.placeOf ns i).getD ax 0) := ll (by rw [Ma.eV]; exact hx); refine ⟨D,_,_,_,rfl,rfl,ag.of (s45 _ _ hD'),bE (v := .ref rr) (by rw [List.getElem?_map]; exact congrArg (Option.map V.ref) w4),?_⟩; refine ⟨_,rfl,.inl ⟨rfl,_,ag.of (s45 _ _ hd')⟩,_,rfl,_,rfl,_,rfl,q,_,_,_,rfl,rfl,ag.of (s45 _ _ hq'),bE (dr hpx),rr,_,_,_,rfl,rfl,ag.of (s45 _ _ hrr'),bE hr2,d,_,_,rfl,rfl,s45 _ _ hd',(by rw [List.length_map,List.length_range]; show _ < 2 ^ 24; omega),_,_,rfl,?_,(kp.trans s45.keep).trans aN.upd⟩; rw [am,List.range_succ,List.map_append]; rfl
 ·rintro σ H' ⟨v1,v2,rfl,hd',kp⟩; rw [List.length_map,p2] at hd'; have sm : ak H H' := fun b o' e => kp _ _ (s13 _ _ e) (aJ e hd0)
  exact ⟨_,rfl,_,rfl,jX (Q := Q) (sm _ _ ha) hd' fun y H5 hy s5 hA5 => k H5 y (sm.trans s5) (sm.free hy) hA5⟩
end
end Go

namespace Go
open PySem PySem.Spec PyProof.Rows L2
def rf (a : Addr) (n : Nat) : List (Str × V) := [("numbers",.ref a),("reached",.int n)]
theorem uj (a : Addr) (n : Nat) : (rf a n).lookup ("numbers" : Str) = some (.ref a) := by
 unfold rf; rw [List.lookup_cons]; rw [show (("numbers" : Str) == "numbers") = true by decide +kernel]
theorem lK (a : Addr) (n : Nat) : (rf a n).lookup ("reached" : Str) = some (.int n) := by
 unfold rf; rw [List.lookup_cons,show (("reached" : Str) == "numbers") = false by decide +kernel,List.lookup_cons,show (("reached" : Str) == "reached") = true by decide +kernel]
theorem c6 (a : Addr) (n : Nat) {m : Str} (h1 : (m == ("numbers" : Str)) = false) (h2 : (m == ("reached" : Str)) = false) : (rf a n).lookup m = none := by
 unfold rf; rw [List.lookup_cons,h1,List.lookup_cons,h2]; rfl
theorem wu (a : Addr) (n m : Nat) : cW "reached" (.int (m : Int)) (rf a n) = rf a m := by
 unfold rf cW cW; rw [if_neg (by decide +kernel),if_pos rfl]
theorem acX (a : Addr) : cW "reached" (.int 0) (cW "numbers" (.ref a) []) = rf a 0 := by
 show (if ("numbers" : Str) = "reached" then _ else (("numbers" : Str),V.ref a) :: cW "reached" (.int 0) []) = _; rw [if_neg (by decide +kernel)]; rfl
def aP (R : Addr) (H : Hp) (r a : Addr) (n : Nat) : Prop := ∃ dx,H r = some (.ins R dx (rf a n))
theorem aN.seq {K : Fg} {H H' : Hp} {r a : Addr} {o : HO} {xs : List V} (k : aN r H H') (hr : H r = some o) (hno : ∀ ys,o ≠ .lst ys) (hno2 : ∀ ob ys,o ≠ .frz ob (.lst ys)) (h : ag K H a xs) : ag K H' a xs := by
 rcases h with (h | ⟨ob,h⟩) | h
 ·exact .inl (.inl (k _ _ h fun e => by rw [e,hr] at h; exact hno _ (Option.some.inj h)))
 ·exact .inl (.inr ⟨ob,k _ _ h fun e => by rw [e,hr] at h; exact hno2 _ _ (Option.some.inj h)⟩)
 ·exact .inr h
theorem aP.seq {K : Fg} {R : Addr} {H H' : Hp} {r a b : Addr} {n : Nat} {xs : List V} (k : aN r H H') (hr : aP R H r a n) (h : ag K H b xs) : ag K H' b xs := by
 obtain ⟨dx,hr⟩ := hr; exact aN.seq k hr (by intro ys e; cases e) (by intro ob ys e; cases e) h
theorem aN.free {r q : Addr} {H H' : Hp} (k : aN r H H') (hq : H' q = none) (hr : ∃ o,H' r = some o) : H q = none := by
 cases e : H q with
 | none => rfl
 | some o =>
  have hne : q ≠ r := fun e2 => by
   obtain ⟨o2,hr⟩ := hr; rw [e2,hr] at hq; cases hq
  rw [k q o e hne] at hq; cases hq
section
variable {P : Program} {w : World} {K : Fg} {mg : Str -> Option Value} {base : Heap} {C al : Addr}
def qE (R : Addr) : Sp := fun vs H Q _ => ∃ p dx a : Addr,vs = [.ref p,.ref a] /\ H p = some (.ins R dx []) /\ ∀ H' : Hp,H' p = some (.ins R dx (rf a 0)) -> (∀ b o,H b = some o -> b ≠ p -> H' b = some o) -> Q .non H'
theorem q_ : aq ["self","numbers"] ["self","numbers"] (aj eC) := fs
theorem aah (D : wU K mg "Reader" al eC ["self","numbers"]) (T : iC K al) : dS P w K mg base 1 "Reader" al ["self","numbers"] (qE al) := by
 refine D.ok q_ (fun _ _ _ _ h => by obtain ⟨_,_,_,rfl,_⟩ := h; rfl) (fun q f cdv A outer s H vs Q E hr h => ?_); obtain ⟨p,dx,a,rfl,hp,k⟩ := h
 refine ⟨_,(ad (lu (pv 0) (pv 1) rfl)
  (ae (lu (pv 0) ai rfl))),?_⟩
 refine ⟨_,rfl,_,rfl,p,al,dx,[],rfl,hp,T.cl,T.nN,(by show 0 < 1000; decide),?_⟩; refine ⟨_,rfl,p,al,dx,_,rfl,am,T.cl,T.nR,(by show 1 < 1000; decide),?_⟩; exact k _ (by rw [am,acX]) fun b o e hb => by rw [aK hb,aK hb]; exact e
def k7 (K : Fg) (R : Addr) : Sp := fun vs H Q _ => ∃ (r a : Addr) (n : Nat) (zs : List Int),vs = [.ref r] /\ aP R H r a n /\ ag K H a (vi zs) /\ Q (.bl (decide (zs.length <= n))) H
theorem rS : aq ["self"] ["self"] (aj fc) := fs
theorem zm (D : oF K al "is_done" "Reader.is_done" fc ["self"]) (T : Txt K mg C) (TR : iC K al) : gA P w K mg base 1 al "is_done" ["self"] (k7 K al) := by
 refine D.ok rS (fun _ _ _ _ h => by obtain ⟨_,_,_,_,rfl,_⟩ := h; rfl) (fun f cdv A outer s H vs Q E hr h => ?_); obtain ⟨r,a,n,zs,rfl,⟨dx,hr⟩,ha,k⟩ := h; refine ⟨_,(ae (ah (lZ mE (aD (pv 0) rfl) (bA T.b_len (aD (pv 0) rfl))))),?_⟩; refine ⟨_,rfl,r,al,dx,_,_,rfl,hr,TR.cl,TR.nR,lK a n,_,rfl,r,al,dx,_,_,rfl,hr,TR.cl,TR.nN,uj a n,a,_,rfl,.inl ha,_,_,rfl,rfl,?_⟩; rw [aM]
 have e : decide ((zs.length : Int) <= (n : Int)) = decide (zs.length <= n) := by
  by_cases h : zs.length <= n
  ·rw [decide_eq_true h,decide_eq_true (by omega)]
  ·rw [decide_eq_false h,decide_eq_false (by omega)]
 show Q (.bl (decide ((zs.length : Int) <= (n : Int)))) H; rw [e]; exact k
def fq (K : Fg) (R : Addr) : Sp := fun vs H Q _ => ∃ (r a : Addr) (n : Nat) (zs : List Int) (z : Int),vs = [.ref r] /\ aP R H r a n /\ ag K H a (vi zs) /\ zs[n]? = some z /\ ∀ H',aN r H H' -> aP R H' r a (n + 1) -> (∀ q,H' q = none -> H q = none) -> Q (.int z) H'
theorem sc_Reader_read_whole : aq ["self","number"] ["self"] (aj dP) := fs
theorem vY (D : oF K al "read_whole" "Reader.read_whole" dP ["self"]) (T : Txt K mg C) (TR : iC K al) : gA P w K mg base 1 al "read_whole" ["self"] (fq K al) := by
 refine D.ok sc_Reader_read_whole (fun _ _ _ _ h => by obtain ⟨_,_,_,_,_,rfl,_⟩ := h; rfl) (fun f cdv A outer s H vs Q E hr h => ?_); obtain ⟨r,a,n,zs,z,rfl,⟨dx,hr⟩,ha,hz,k⟩ := h
 refine ⟨_,(ad (aH 1 sc_Reader_read_whole.nd (au (aD (pv 0) rfl) (aD (pv 0) rfl)))
  (ad (lu (pv 0) (aV cP (aD (pv 0) rfl) ai) rfl)
  (ae (ah (pv 1))))),?_⟩
 refine ⟨_,rfl,r,al,dx,_,_,rfl,hr,TR.cl,TR.nN,uj a n,_,rfl,r,al,dx,_,_,rfl,hr,TR.cl,TR.nR,lK a n,a,_,_,_,rfl,rfl,ha,bE (cB hz),?_⟩; refine ⟨_,rfl,r,al,dx,_,_,rfl,hr,TR.cl,TR.nR,lK a n,_,_,rfl,rfl,_,rfl,r,al,dx,_,rfl,hr,TR.cl,TR.nR,(by show 2 < 1000; decide),_,rfl,?_⟩; refine k _ aN.upd ⟨dx,?_⟩ fun q hq => ?_
 ·rw [am]; have := wu a n (n + 1); rw [Int.natCast_add] at this; exact congrArg (fun z => some (HO.ins al dx z)) this
 ·exact aN.free aN.upd hq ⟨_,am⟩
def sf (K : Fg) (R : Addr) : Sp := fun vs H Q _ => ∃ (r a : Addr) (n m : Nat) (zs : List Int),vs = [.ref r] /\ aP R H r a n /\ ag K H a (vi zs) /\ zs[n]? = some (m : Int) /\ n + 1 + m <= zs.length ∧
 ∀ H' q,aN r H H' -> aP R H' r a (n + 1 + m) -> H q = none -> H' q = some (.lst (vi ((zs.drop (n + 1)).take m))) -> Q (.ref q) H'
theorem sc_Reader_read_row : aq ["self","size","start"] ["self"] (aj eE) := fs
theorem xL (D : oF K al "read_row" "Reader.read_row" eE ["self"]) (T : Txt K mg C) (aA : iC K al) (a6 : gA P w K mg base 1 al "read_whole" ["self"] (fq K al)) : gA P w K mg base 2 al "read_row" ["self"] (sf K al) := by
 refine D.ok sc_Reader_read_row (fun _ _ _ _ h => by obtain ⟨_,_,_,_,_,rfl,_⟩ := h; rfl) (fun f cdv A outer s H vs Q E hr h => ?_); obtain ⟨r,a,n,m,zs,rfl,hR,ha,hz,hl,k⟩ := h; obtain ⟨dx,hr0⟩ := id hR
 refine ⟨_,(ad (aH 1 sc_Reader_read_row.nd (gf aA.cl a6 hr.m (pv 0)))
  (ad (aH 2 sc_Reader_read_row.nd (aD (pv 0) rfl))
  (ad (lu (pv 0) (aV cP (pv 2) (pv 1)) rfl)
  (ae (ah (fg gi (aD (pv 0) rfl) (eP (pv 2)) (eP (aV cP (pv 2) (pv 1))))))))),?_⟩
 refine ⟨_,rfl,r,dx,_,rfl,hr0,c6 _ _ (by decide +kernel) (by decide +kernel),r,a,n,zs,m,rfl,hR,ha,hz,fun H1 k1 hR1 f1 => ?_⟩; obtain ⟨dx1,hr1⟩ := id hR1; have ha1 := aP.seq k1 hR ha; refine ⟨_,rfl,r,al,dx1,_,_,rfl,hr1,aA.cl,aA.nR,lK a (n + 1),?_⟩; refine ⟨_,rfl,_,rfl,_,_,rfl,rfl,_,rfl,r,al,dx1,_,rfl,hr1,aA.cl,aA.nR,(by show 2 < 1000; decide),?_⟩; have k2 : aN r H1 (upd H1 r (.ins al dx1 (cW "reached" (.int (((n + 1 : Nat) : Int) + (m : Int))) (rf a (n + 1))))) := aN.upd
 have hR2 : aP al (upd H1 r (.ins al dx1 (cW "reached" (.int (((n + 1 : Nat) : Int) + (m : Int))) (rf a (n + 1))))) r a (n + 1 + m) := by
  refine ⟨dx1,?_⟩; rw [am]; have := wu a (n + 1) (n + 1 + m); rw [Int.natCast_add (n + 1) m] at this; exact congrArg (fun z => some (HO.ins al dx1 z)) this
 generalize upd H1 r (.ins al dx1 (cW "reached" (.int (((n + 1 : Nat) : Int) + (m : Int))) (rf a (n + 1)))) = H2 at *; obtain ⟨dx2,hr2⟩ := id hR2; have ha2 := aP.seq k2 hR1 ha1; refine ⟨_,rfl,r,al,dx2,_,_,rfl,hr2,aA.cl,aA.nN,uj a (n + 1 + m),_,rfl,_,rfl,_,rfl,_,rfl,_,_,rfl,rfl,_,rfl,a,_,rfl,ha2,fun q hq => ?_⟩
 have e : eJ (vi zs) (some ((n + 1 : Nat) : Int)) (some (((n + 1 : Nat) : Int) + (m : Int))) = vi ((zs.drop (n + 1)).take m) := by
  have := vQ (vi zs) (n + 1) m (by rw [aM]; omega); rw [Int.natCast_add (n + 1) m] at this; rw [this,ux,yJ]
 have hqr : r ≠ q := fun z => by rw [← z,hr2] at hq; cases hq
 refine k _ q ((k1.trans k2).trans (ak.new hq).keep) ⟨dx2,by rw [aK hqr]; exact hr2⟩ (f1 q (aN.free k2 hq ⟨_,hr2⟩)) ?_; rw [am]; exact congrArg (fun z => some (HO.lst z)) e
end
end Go

namespace Go
open PySem PySem.Spec PyProof.Rows L2
def eK (zs : List Int) : Nat -> Nat -> Option (List (List Int) × Nat)
 | 0,n => some ([],n)
 | m + 1,n => match zs[n]? with
  | none => none
  | some z => if 0 <= z /\ n + 1 + z.toNat <= zs.length then (match eK zs m (n + 1 + z.toNat) with
    | none => none
    | some (xs,e) => some ((zs.drop (n + 1)).take z.toNat :: xs,e))
   else none
theorem sg {zs : List Int} {m n e : Nat} {X : List (List Int)} (h : eK zs (m + 1) n = some (X,e)) : ∃ (k : Nat) (X' : List (List Int)),zs[n]? = some (k : Int) /\ n + 1 + k <= zs.length /\ eK zs m (n + 1 + k) = some (X',e) /\ X = (zs.drop (n + 1)).take k :: X' := by
 rw [eK] at h
 split at h
 ·cases h
 ·rename_i z hz
  split at h
  ·rename_i hc
   split at h
   ·cases h
   ·rename_i xs e' hr; cases h; exact ⟨z.toNat,xs,by rw [hz]; congr 1; omega,hc.2,hr,rfl⟩
  ·cases h
theorem kW {zs : List Int} : ∀ {m n e : Nat} {X : List (List Int)},eK zs m n = some (X,e) -> X.length = m /\ (n <= zs.length -> e <= zs.length) /\ n <= e
 | 0,n,e,X,h => by
  cases h; exact ⟨rfl,id,Nat.le_refl _⟩
 | m + 1,n,e,X,h => by
  obtain ⟨k,X',h1,h2,h3,rfl⟩ := sg h; obtain ⟨g1,g2,g3⟩ := kW h3; exact ⟨by simp [g1],fun _ => g2 h2,by omega⟩
theorem vg {zs : List Int} : ∀ (m n : Nat),PyFlat.rows m (zs.drop n) = (eK zs m n).map fun p => (p.1,zs.drop p.2)
 | 0,n => rfl
 | m + 1,n => by
  rw [PyFlat.rows,eK]
  cases hz : zs[n]? with
  | none =>
   have : zs.drop n = [] := List.drop_eq_nil_iff.mpr (List.getElem?_eq_none_iff.mp hz); rw [this]; rfl
  | some z =>
   obtain ⟨hlt,e⟩ := List.getElem?_eq_some_iff.mp hz; rw [List.drop_eq_getElem_cons hlt,e]; simp only [PyFlat.row,List.length_drop]
   by_cases hc : 0 <= z /\ n + 1 + z.toNat <= zs.length
   ·rw [if_pos hc,if_pos ⟨hc.1,by omega⟩]; simp only []; rw [List.drop_drop,vg m]
    cases eK zs m (n + 1 + z.toNat) with
    | none => rfl
    | some p => rfl
   ·rw [if_neg hc,if_neg (fun z => hc ⟨z.1,by omega⟩)]; rfl
section
variable {P : Program} {w : World} {K : Fg} {mg : Str -> Option Value} {base : Heap} {C al : Addr}
theorem aP.keepNew {R : Addr} {H : Hp} {r a q : Addr} {n : Nat} {o : HO} (h : aP R H r a n) (hq : r ≠ q) : aP R (upd H q o) r a n := by
 obtain ⟨dx,h⟩ := h; exact ⟨dx,by rw [aK hq]; exact h⟩
theorem aP.notLst {R : Addr} {H : Hp} {r a q : Addr} {n : Nat} {xs : List V} (h : aP R H r a n) (hq : H q = some (.lst xs)) : r ≠ q := by
 obtain ⟨dx,h⟩ := h; exact mq h hq (by intro e; cases e)
def ol (K : Fg) (R : Addr) : Sp := fun vs H Q _ => ∃ (r a : Addr) (n m : Nat) (zs : List Int),vs = [.ref r,.int m] /\ aP R H r a n /\ ag K H a (vi zs) /\ n + m <= zs.length /\ m <= 1000 ∧
 ∀ H' q,aN r H H' -> aP R H' r a (n + m) -> H q = none -> H' q = some (.lst (vi ((zs.drop n).take m))) -> Q (.ref q) H'
theorem sc_read_wholes : aq ["reader","size","wholes","turn"] ["reader","size"] (aj gW) := fs
theorem uy (D : Df K mg "read_wholes" "read_wholes" gW ["reader","size"]) (T : Txt K mg C) (aA : iC K al) (a6 : gA P w K mg base 1 al "read_whole" ["self"] (fq K al)) : Ok P w K mg base 2 "read_wholes" ["reader","size"] (ol K al) := by
 refine D.ok sc_read_wholes (fun _ _ _ _ h => by obtain ⟨_,_,_,_,_,rfl,_⟩ := h; rfl) (fun f cdv A outer s H vs Q E hr h => ?_); obtain ⟨r,a,n,m,zs,rfl,hR,ha,hl,hm,k⟩ := h
 refine ⟨_,(ad (aH 2 sc_read_wholes.nd (az ac))
  (ad (bS PassesOwn.never rfl (d9 rfl T.b_range (ab (pv 1) ac)) (a0 3 sc_read_wholes.nd) (ae (cI (gw PySem.F.plainAttrs_list PySem.F.slot_list_append PySem.F.type_list_append dc (pv 2) (ab (gf aA.cl a6 hr.m (pv 0)) ac)))))
  (ae (ah (pv 2))))),?_⟩
 refine ⟨Nat.zero_le _,fun q hq => ?_⟩
 have hrq : r ≠ q := by
  obtain ⟨dx,h⟩ := hR; exact aJ h hq
 refine ⟨_,rfl,_,rfl,by omega,by omega,p7 (n := m) (fun i σ H' => ∃ (v : Option V),σ = [some (.ref r),some (.int m),some (.ref q),v] /\ H' q = some (.lst (vi ((zs.drop n).take i))) /\ aP al H' r a (n + i) /\ aN r H H')
  ⟨none,rfl,am,hR.keepNew hrq,(ak.new hq).keep⟩ ?_ ?_⟩
 ·rintro i σ H' hi ⟨v,rfl,hq',hR',kp⟩; have ha' := aP.seq kp hR ha; obtain ⟨dx',hr'⟩ := id hR'; have hz : zs[n + i]? = some (zs.getD (n + i) 0) := mh (by omega); refine ⟨_,rfl,.inl ⟨rfl,_,ag.of hq'⟩,_,rfl,r,dx',_,rfl,hr',c6 _ _ (by decide +kernel) (by decide +kernel),r,a,n + i,zs,_,rfl,hR',ha',hz,fun H2 k2 hR2 f2 => ?_⟩; have hq2 := k2 _ _ hq' (Ne.symm hrq); refine ⟨q,_,_,rfl,rfl,hq2,(by rw [aM,List.length_take]; show _ < 2 ^ 24; omega),_,rfl,?_,?_,?_⟩
  ·rw [am]; have : (zs.drop n)[i]? = some (zs.getD (n + i) 0) := by rw [List.getElem?_drop]; exact hz
   rw [bU this,qB]; rfl
  ·exact hR2.keepNew hrq
  ·intro b o e hb
   by_cases hbq : b = q
   ·rw [hbq,hq] at e; cases e
   ·rw [aK hbq]; exact k2 b o (kp b o e hb) hb
 ·rintro σ H' ⟨v,rfl,hq',hR',kp⟩; exact ⟨_,rfl,k H' q kp hR' hq hq'⟩
def qo (H : Hp) (D : Addr) (X : List (List Int)) : Prop := ∃ qs : List Addr,H D = some (.lst (qs.map V.ref)) /\ qs.length = X.length /\ ∀ (i : Nat) q x,qs[i]? = some q -> X[i]? = some x -> q ≠ D /\ H q = some (.lst (vi x))
def qW (K : Fg) (R : Addr) : Sp := fun vs H Q _ => ∃ (r a : Addr) (n m e : Nat) (zs : List Int) (X : List (List Int)),vs = [.ref r,.int m] /\ aP R H r a n /\ ag K H a (vi zs) /\ eK zs m n = some (X,e) /\ m <= 1000 ∧
 ∀ H' q,aN r H H' -> aP R H' r a e -> H q = none -> qo H' q X -> Q (.ref q) H'
theorem sc_read_rows : aq ["reader","size","rows","turn"] ["reader","size"] (aj jP) := fs
theorem wq (D : Df K mg "read_rows" "read_rows" jP ["reader","size"]) (T : Txt K mg C) (aA : iC K al) (gE : gA P w K mg base 2 al "read_row" ["self"] (sf K al)) : Ok P w K mg base 3 "read_rows" ["reader","size"] (qW K al) := by
 refine D.ok sc_read_rows (fun _ _ _ _ h => by obtain ⟨_,_,_,_,_,_,_,rfl,_⟩ := h; rfl) (fun f cdv A outer s H vs Q E hr h => ?_); obtain ⟨r,a,n,m,e,zs,X,rfl,hR,ha,hX,hm,k⟩ := h
 refine ⟨_,(ad (aH 2 sc_read_rows.nd (az ac))
  (ad (bS PassesOwn.never rfl (d9 rfl T.b_range (ab (pv 1) ac)) (a0 3 sc_read_rows.nd) (ae (cI (gw PySem.F.plainAttrs_list PySem.F.slot_list_append PySem.F.type_list_append dc (pv 2) (ab (gf aA.cl gE hr.m (pv 0)) ac)))))
  (ae (ah (pv 2))))),?_⟩
 refine ⟨Nat.zero_le _,fun q hq => ?_⟩; have hXl := (kW hX).1
 have hrq : r ≠ q := by
  obtain ⟨dx,h⟩ := hR; exact aJ h hq
 refine ⟨_,rfl,_,rfl,by omega,by omega,p7 (n := m) (fun i σ H' => ∃ (v : Option V) (ni : Nat),σ = [some (.ref r),some (.int m),some (.ref q),v] /\ qo H' q (X.take i) /\ aP al H' r a ni /\ eK zs (m - i) ni = some (X.drop i,e) /\ aN r H H')
  ⟨none,n,rfl,⟨[],am,rfl,fun i q x h => by simp at h⟩,hR.keepNew hrq,hX,(ak.new hq).keep⟩ ?_ ?_⟩
 ·rintro i σ H' hi ⟨v,ni,rfl,⟨qs,hq',hql,hqs⟩,hR',hX',kp⟩; have ha' := aP.seq kp hR ha; obtain ⟨dx',hr'⟩ := id hR'; have em : m - i = (m - (i + 1)) + 1 := by omega
  rw [em] at hX'; obtain ⟨kk,X',hz,hle,hX2,eX⟩ := sg hX'; refine ⟨_,rfl,.inl ⟨rfl,_,ag.of hq'⟩,_,rfl,r,dx',_,rfl,hr',c6 _ _ (by decide +kernel) (by decide +kernel),r,a,ni,kk,zs,rfl,hR',ha',hz,hle,fun H2 p k2 hR2 hp hp2 => ?_⟩; have hq2 := k2 _ _ hq' (Ne.symm hrq); have hpq : p ≠ q := fun z => by rw [z,hq'] at hp; cases hp
  have hrp : r ≠ p := fun z => by rw [← z,hr'] at hp; cases hp
  have hXi : X[i]? = some ((zs.drop (ni + 1)).take kk) := by
   have := congrArg (fun l : List (List Int) => l[0]?) eX
   simpa [List.getElem?_drop] using this
  have hqi : qs.length = i := by rw [hql,List.length_take]; omega
  refine ⟨q,_,_,rfl,rfl,hq2,(by rw [List.length_map,hqi]; show _ < 2 ^ 24; omega),_,ni + 1 + kk,rfl,⟨qs ++ [p],?_,?_,?_⟩,hR2.keepNew hrq,?_,?_⟩
  ·rw [am,List.map_append]; rfl
  ·rw [bU hXi,List.length_append,List.length_append,hql]; rfl
  ·intro j u x hu hx
   by_cases hj : j < qs.length
   ·rw [List.getElem?_append_left hj] at hu; rw [bU hXi,List.getElem?_append_left (by rw [← hql]; exact hj)] at hx; obtain ⟨g1,g2⟩ := hqs j u x hu hx; have hur : u ≠ r := fun z => by rw [z,hr'] at g2; cases g2
    exact ⟨g1,by rw [aK g1]; exact k2 _ _ g2 hur⟩
   ·have hj2 : j = qs.length := by
     have := (List.getElem?_eq_some_iff.mp hu).1; simp at this; omega
    subst hj2; rw [List.getElem?_append_right (Nat.le_refl _),Nat.sub_self] at hu; rw [bU hXi,hql,List.getElem?_append_right (Nat.le_refl _),Nat.sub_self] at hx; cases hu; cases hx; exact ⟨hpq,by rw [aK hpq]; exact hp2⟩
  ·rw [hX2]
   have : X.drop (i + 1) = X' := by
    have := congrArg (List.drop 1) eX; rw [List.drop_drop] at this
    simpa using this
   rw [this]
  ·intro b o ee hb
   by_cases hbq : b = q
   ·rw [hbq,hq] at ee; cases ee
   ·rw [aK hbq]; exact k2 b o (kp b o ee hb) hb
 ·rintro σ H' ⟨v,ni,rfl,hrows,hR',hX',kp⟩; rw [Nat.sub_self] at hX'; have en : ni = e := congrArg Prod.snd (Option.some.inj hX'); subst en; rw [← hXl,List.take_length] at hrows; exact ⟨_,rfl,k H' q kp hR' hq hrows⟩
end
end Go

namespace Go
open PySem PySem.Spec PyProof.Rows L2
def j7 (zs : List Int) (n : Nat) : Option (List (List Int) × Nat) := match zs[n]? with
 | none => none
 | some p => match PyYqlnca.shape p with
  | none => none
  | some (k,m) => if zs.length < n + 1 + k then none else match eK zs m (n + 1 + k) with
   | none => none
   | some (xs,e) => some ((p :: (zs.drop (n + 1)).take k) :: xs,e)
theorem aaL {zs : List Int} (n : Nat) : PyFlat.call PyYqlnca.shape (zs.drop n) = (j7 zs n).map fun p => (p.1,zs.drop p.2) := by
 unfold j7
 cases hz : zs[n]? with
 | none =>
  have : zs.drop n = [] := List.drop_eq_nil_iff.mpr (List.getElem?_eq_none_iff.mp hz); rw [this]; rfl
 | some p =>
  obtain ⟨hlt,e⟩ := List.getElem?_eq_some_iff.mp hz; rw [List.drop_eq_getElem_cons hlt,e]; simp only [PyFlat.call]
  cases hs : PyYqlnca.shape p with
  | none => rfl
  | some q =>
   obtain ⟨k,m⟩ := q; simp only [List.length_drop]
   by_cases hc : zs.length < n + 1 + k
   ·rw [if_pos hc,if_pos (by omega)]; rfl
   ·rw [if_neg hc,if_neg (by omega),List.drop_drop,vg]
    cases eK zs m (n + 1 + k) with
    | none => rfl
    | some x => rfl
theorem sn {zs : List Int} {n e : Nat} {c : List (List Int)} (h : j7 zs n = some (c,e)) : ∃ p k m xs,zs[n]? = some p /\ PyYqlnca.shape p = some (k,m) /\ n + 1 + k <= zs.length /\ eK zs m (n + 1 + k) = some (xs,e) /\ c = (p :: (zs.drop (n + 1)).take k) :: xs := by
 unfold j7 at h
 split at h
 ·cases h
 ·rename_i p hp
  split at h
  ·cases h
  ·rename_i k m hs
   split at h
   ·cases h
   ·rename_i hl
    split at h
    ·cases h
    ·rename_i xs e' hr; cases h; exact ⟨p,k,m,xs,hp,hs,by omega,hr,rfl⟩
def adK (l r : Addr) (H H' : Hp) : Prop := ∀ b o,H b = some o -> b ≠ l -> b ≠ r -> H' b = some o
def cE (t : Ay.State) (c : List (List Int)) : Ay.State × List Int := AyNeutral.step t (PyYqlnca.whole c)
def oz (K : Fg) (C R : Addr) : Sp := fun vs H Q _ => ∃ (l r a : Addr) (t : Ay.State) (zs : List Int) (n e : Nat) (c : List (List Int)),vs = [.ref l,.ref r] /\ aB C H l t /\ aP R H r a n /\ ag K H a (vi zs) /\ j7 zs n = some (c,e) /\ PyInside.call PyYqlnca.bound c = true /\ AyNeutral.asked1 (PyYqlnca.whole c) = true ∧
 ∀ H' p,adK l r H H' -> aB C H' l (cE t c).1 -> aP R H' r a e -> H p = none -> H' p = some (.lst (vi (cE t c).2)) -> Q (.ref p) H'
section
variable {P : Program} {w : World} {K : Fg} {mg : Str -> Option Value} {base : Heap} {C al : Addr}
theorem zW {f : Nat} {cs : List (List (List Int))} (h : PyFlat.calls PyYqlnca.shape f [] = some cs) : cs = [] := by
 cases f <;> (rw [PyFlat.calls] at h; exact (Option.some.inj h).symm)
theorem zg {zs : List Int} {n f : Nat} {cs : List (List (List Int))} (hn : n < zs.length) (h : PyFlat.calls PyYqlnca.shape f (zs.drop n) = some cs) : ∃ c e f' cs',j7 zs n = some (c,e) /\ PyFlat.calls PyYqlnca.shape f' (zs.drop e) = some cs' /\ cs = c :: cs' := by
 have hd : zs.drop n = zs[n] :: zs.drop (n + 1) := List.drop_eq_getElem_cons hn
 cases f with
 | zero => rw [hd,PyFlat.calls] at h; cases h
 | succ f =>
  rw [hd,PyFlat.calls,← hd,aaL] at h
  cases hc : j7 zs n with
  | none => rw [hc] at h; cases h
  | some q =>
   obtain ⟨c,e⟩ := q; rw [hc] at h; simp only [Option.map_some] at h
   cases hr : PyFlat.calls PyYqlnca.shape f (zs.drop e) with
   | none => rw [hr] at h; cases h
   | some cs' =>
    rw [hr] at h; exact ⟨c,e,f,cs',rfl,hr,(Option.some.inj h).symm⟩
theorem yV {zs : List Int} {n e : Nat} {c : List (List Int)} (h : j7 zs n = some (c,e)) : e <= zs.length := by
 obtain ⟨p,k,m,xs,h1,h2,h3,h4,h5⟩ := sn h; exact (kW h4).2.1 h3
theorem z6 (a : List Int) (r : List (List Int)) : PyFlat.told (a :: r) = ((a.length : Int) :: a) ++ PyFlat.told r := by
 unfold PyFlat.told; rw [List.flatMap_cons]
def iS (t : Ay.State) (cs : List (List (List Int))) : List Int := PyFlat.told (PyFlat.played AyNeutral.step t (cs.map PyYqlnca.whole))
theorem abA (t : Ay.State) : iS t [] = [] := rfl
theorem aaq (t : Ay.State) (c : List (List Int)) (cs : List (List (List Int))) : iS t (c :: cs) = (((cE t c).2.length : Int) :: (cE t c).2) ++ iS (cE t c).1 cs := by
 unfold iS; rw [List.map_cons,PyFlat.played,z6]; rfl
theorem sc_answers : aq ["calls","slots","reader","told","answer"] ["calls"] (aj mB) := fs
theorem y9 {f : Addr} {fd : FuncData} (F : qh K "answers" "answers" mB f fd) (T : Txt K mg C) (aA : iC K al) (kx : Ok P w K mg base 1 "empty_slots" [] (oj C)) (i9 : dS P w K mg base 1 "Reader" al ["self","numbers"] (qE al)) (bO : gA P w K mg base 1 al "is_done" ["self"] (k7 K al)) (kP : Ok P w K mg base 11 "next_answer" ["slots","reader"] (oz K C al)) : fR P w K mg base pL 12 f fd ["calls"] (pA K) := by
 refine F.ok sc_answers (fun _ _ _ _ h => by obtain ⟨_,_,rfl,_⟩ := h; rfl) (fun cdv A outer s H vs Q E hr h => ?_); obtain ⟨a,zs,rfl,ha,hask,k⟩ := h
 refine ⟨_,(ad (aH 1 sc_answers.nd (adC kx hr.m rfl))
  (ad (aH 2 sc_answers.nd (d5 i9 hr (ab (pv 0) ac)))
  (ad (aH 3 sc_answers.nd (az ac))
  (ad (s_ PassesOwn.never (bx (bi (gf aA.cl bO hr.m (pv 2)))) (ad (abU (aH 4 sc_answers.nd (ap kP hr (ab (pv 1) (ab (pv 2) ac)))))
  (ad (cI (gw PySem.F.plainAttrs_list PySem.F.slot_list_append PySem.F.type_list_append dc (pv 3) (ab (bA T.b_len (pv 4)) ac)))
  (ae (cI (gw PySem.F.plainAttrs_list PySem.F.slot_list_extend PySem.F.type_list_extend vx (pv 3) (ab (pv 4) ac)))))))
  (ae (ah (pv 3))))))),?_⟩
 unfold PyYqlnca.answers_asked at hask
 cases hraw : PyFlat.calls PyYqlnca.shape zs.length zs with
 | none => rw [hraw] at hask; cases hask
 | some raw =>
  rw [hraw] at hask; simp only [Bool.and_eq_true] at hask; obtain ⟨⟨⟨⟨_,_⟩,hins⟩,hasked⟩,hshort⟩ := hask; have hshort : (PyYqlnca.answers zs).length <= 10000000 := of_decide_eq_true hshort; have hins : ∀ c ∈ raw,PyInside.call PyYqlnca.bound c = true := List.all_eq_true.mp hins
  have hask1 : ∀ c ∈ raw,AyNeutral.asked1 (PyYqlnca.whole c) = true := fun c hc => by
   unfold AyNeutral.asked at hasked; rw [Bool.and_eq_true] at hasked; exact List.all_eq_true.mp hasked.1 _ (List.mem_map.mpr ⟨c,hc,rfl⟩)
  have hans : PyYqlnca.answers zs = iS Ay.start raw := by
   unfold PyYqlnca.answers PyYqlnca.calls; rw [hraw]; rfl
  rw [hans] at hshort k; refine ⟨rfl,fun H1 l s1 hl S1 => ?_⟩; refine ⟨_,rfl,fun r dx hr2 hdx hne => ?_⟩; refine ⟨r,dx,a,rfl,am,fun H2 h1 h2 => ⟨rfl,?_⟩⟩; have s2 : ak H1 H2 := ak.made hr2 hdx h2; have hR2 : aP al H2 r a 0 := ⟨dx,h1⟩; clear h1 h2; refine ⟨Nat.zero_le _,fun d hd => ?_⟩
  have hrd : r ≠ d := by
   obtain ⟨dx,h⟩ := hR2; exact aJ h hd
  have hld : l ≠ d := by
   obtain ⟨vs,h,_⟩ := S1.ex; exact aJ (s2 _ _ h) hd
  have s3 : ak H2 (upd H2 d (.lst [])) := ak.new hd; have hd0 : H d = none := (s1.trans s2).free hd
  have had : a ≠ d \/ ∀ H'' : Hp,ag K H'' a (vi zs) := by
   rcases ha with (h | ⟨ob,h⟩) | h
   ·exact .inl (aJ h hd0)
   ·exact .inl (aJ h hd0)
   ·exact .inr fun _ => .inr h
  have ha0 : ∀ H'' : Hp,aN d (upd H2 d (.lst [])) H'' -> ag K H'' a (vi zs) := fun H'' kk => by
   rcases ha with (h | ⟨ob,h⟩) | h
   ·exact .inl (.inl (kk _ _ (s3 _ _ (s2 _ _ (s1 _ _ h))) (aJ h hd0)))
   ·exact .inl (.inr ⟨ob,kk _ _ (s3 _ _ (s2 _ _ (s1 _ _ h))) (aJ h hd0)⟩)
   ·exact .inr h
  have S0 : ∀ H'' : Hp,aN d (upd H2 d (.lst [])) H'' -> aB C H'' l Ay.start := fun H'' kk => by
   obtain ⟨vs,h,h2,h3,h4⟩ := S1.ex; refine ⟨vs,kk _ _ (s3 _ _ (s2 _ _ h)) hld,h2,h3,fun i v o e1 e2 => ?_⟩; have := h4 i v o e1 e2
   cases o with
   | none => exact this
   | some A =>
    obtain ⟨x,ex,⟨dx,a1,b1,g1,g2,g3⟩,q6⟩ := this; exact ⟨x,ex,⟨dx,a1,b1,kk _ _ (s3 _ _ (s2 _ _ g1)) (aJ (s2 _ _ g1) hd),kk _ _ (s3 _ _ (s2 _ _ g2)) (aJ (s2 _ _ g2) hd),kk _ _ (s3 _ _ (s2 _ _ g3)) (aJ (s2 _ _ g3) hd)⟩,q6⟩
  refine ⟨fun m σ H' => ∃ (n f : Nat) (t : Ay.State) (out : List Int) (cs : List (List (List Int))) (v : Option V),m = cs.length /\ σ = [some (.ref a),some (.ref l),some (.ref r),some (.ref d),v] /\ (∀ H'' : Hp,aN d H' H'' -> ag K H'' a (vi zs)) /\ H' d = some (.lst (vi out)) /\ (∀ H'' : Hp,aN d H' H'' -> aB C H'' l t) /\ aP al H' r a n /\ n <= zs.length /\ PyFlat.calls PyYqlnca.shape f (zs.drop n) = some cs /\ (∀ c ∈ cs,c ∈ raw) /\ out ++ iS t cs = iS Ay.start raw,
   ⟨raw.length,0,zs.length,Ay.start,[],raw,none,rfl,rfl,ha0,am,S0,hR2.keepNew hrd,Nat.zero_le _,hraw,fun _ h => h,rfl⟩,?_⟩
  rintro m σ H' ⟨n,f,t,out,cs,v,rfl,rfl,ha',hd',S',hR',hn,hcs,hsub,hout⟩; obtain ⟨dx',hr'⟩ := id hR'; have kid : aN d H' H' := (ak.refl H').keep; refine ⟨_,rfl,r,dx',_,rfl,hr',c6 _ _ (by decide +kernel) (by decide +kernel),r,a,n,zs,rfl,hR',ha' _ kid,_,rfl,?_⟩
  by_cases hdone : zs.length <= n
  ·rw [decide_eq_true hdone]; refine ⟨_,rfl,?_⟩; have hnil : zs.drop n = [] := List.drop_eq_nil_iff.mpr hdone; rw [hnil] at hcs; rw [zW hcs,abA,List.append_nil] at hout; rw [hout] at hd'; exact k H' d hd'
  ·rw [decide_eq_false hdone]; obtain ⟨c,e,f',cs',hc,hcs',rfl⟩ := zg (by omega) hcs; rw [aaq] at hout
   have hlen : out.length + (1 + (cE t c).2.length) <= 10000000 := by
    have := congrArg List.length hout; rw [List.length_append,List.length_append,List.length_cons] at this; omega
   refine ⟨fun σ' H'' => ∃ m',m' < (c :: cs').length /\ ∃ (n f : Nat) (t : Ay.State) (out : List Int) (cs : List (List (List Int))) (v : Option V),m' = cs.length /\ σ' = [some (.ref a),some (.ref l),some (.ref r),some (.ref d),v] /\ (∀ H3 : Hp,aN d H'' H3 -> ag K H3 a (vi zs)) /\ H'' d = some (.lst (vi out)) /\ (∀ H3 : Hp,aN d H'' H3 -> aB C H3 l t) /\ aP al H'' r a n /\ n <= zs.length /\ PyFlat.calls PyYqlnca.shape f (zs.drop n) = some cs /\ (∀ c ∈ cs,c ∈ raw) /\ out ++ iS t cs = iS Ay.start raw,fun _ _ h => h,?_⟩; have hcr := hsub c (List.mem_cons_self ..); refine ⟨d,.lst (vi out),hd',trivial,fun od => ?_⟩; have kL : aN d H' (upd H' d (.frz od (.lst (vi out)))) := aN.upd; have hdL : (upd H' d (.frz od (.lst (vi out)))) d = some (.frz od (.lst (vi out))) := am; have SL := S' _ kL; have haL := ha' _ kL; have hRL : aP al (upd H' d (.frz od (.lst (vi out)))) r a n := hR'.keepNew hrd; generalize upd H' d (.frz od (.lst (vi out))) = HL at *; obtain ⟨dxL,hrL⟩ := id hRL; refine ⟨_,rfl,_,rfl,l,r,a,t,zs,n,e,c,rfl,SL,hRL,haL,hc,hins c hcr,hask1 c hcr,fun H3 p k3 S3 hR3 hp hp3 => ?_⟩; obtain ⟨dx3,hr3⟩ := id hR3; obtain ⟨wsL,hlL,_⟩ := id SL.ex; have hd3 : H3 d = some (.frz od (.lst (vi out))) := k3 _ _ hdL hld.symm hrd.symm
   have ha3 : ∀ H'' : Hp,aN d H3 H'' -> ag K H'' a (vi zs) := fun H'' kk => by
    rcases had with had | had
    ·rcases haL with (h | ⟨ob,h⟩) | h
     ·exact .inl (.inl (kk _ _ (k3 _ _ h (SL.apart h) (aP.notLst hRL h).symm) had))
     ·exact .inl (.inr ⟨ob,kk _ _ (k3 _ _ h (fun e => by rw [e,hlL] at h; cases h) (fun e => by rw [e,hrL] at h; cases h)) had⟩)
     ·exact .inr h
    ·exact had H''
   have S3' : ∀ H'' : Hp,aN d H3 H'' -> aB C H'' l (cE t c).1 := fun H'' kk => by
    obtain ⟨us,q1,q2,q3,q4⟩ := S3.ex; refine ⟨us,kk _ _ q1 hld,q2,q3,fun i v o e1 e2 => ?_⟩; have q5 := q4 i v o e1 e2
    cases o with
    | none => exact q5
    | some A =>
     obtain ⟨x,ex,⟨dx,a1,b1,g1,g2,g3⟩,q6⟩ := q5
     have nd : ∀ {b : Addr} {ob : HO},H3 b = some ob -> (∀ o u,ob ≠ .frz o u) -> b ≠ d := fun {b ob} h hne z => by
      rw [z,hd3] at h; exact hne _ _ (Option.some.inj h).symm
     exact ⟨x,ex,⟨dx,a1,b1,kk _ _ g1 (nd g1 (by intro _ _ z; cases z)),kk _ _ g2 (nd g2 (by intro _ _ z; cases z)),kk _ _ g3 (nd g3 (by intro _ _ z; cases z))⟩,q6⟩
   refine ⟨hd3,?_⟩; have hpd : p ≠ d := fun z => by rw [z,hdL] at hp; cases hp
   have k4 : aN d H3 (upd H3 d (.lst (vi out))) := aN.upd; have hd4 : (upd H3 d (.lst (vi out))) d = some (.lst (vi out)) := am; generalize upd H3 d (.lst (vi out)) = H4 at *; have hp4 := k4 _ _ hp3 hpd; refine ⟨_,rfl,.inl ⟨rfl,_,ag.of hd4⟩,_,rfl,p,_,rfl,.inl (ag.of hp4),d,_,_,rfl,rfl,hd4,(by rw [aM]; show _ < 2 ^ 24; omega),?_⟩
   have hd5 : (upd H4 d (.lst (vi out ++ [.int ((vi (cE t c).2).length : Nat)]))) d = some (.lst (vi (out ++ [((cE t c).2.length : Int)]))) := by
    rw [am,qB,aM]; rfl
   have k5 : aN d H3 (upd H4 d (.lst (vi out ++ [.int ((vi (cE t c).2).length : Nat)]))) := k4.trans aN.upd; generalize upd H4 d (.lst (vi out ++ [.int ((vi (cE t c).2).length : Nat)])) = H5 at *; have hp5 := k5 _ _ hp3 hpd; refine ⟨_,rfl,.inl ⟨rfl,_,ag.of hd5⟩,_,rfl,d,p,_,_,rfl,rfl,hd5,hp5,(by rw [aM,aM,List.length_append]; show _ <= 2 ^ 24; simp only [List.length_cons,List.length_nil]; omega),?_⟩; have k6 : aN d H3 (upd H5 d (.lst (vi (out ++ [((cE t c).2.length : Int)]) ++ vi (cE t c).2))) := k5.trans aN.upd
   have hd6 : (upd H5 d (.lst (vi (out ++ [((cE t c).2.length : Int)]) ++ vi (cE t c).2))) d = some (.lst (vi (out ++ [((cE t c).2.length : Int)] ++ (cE t c).2))) := by
    rw [am,qB (out ++ _)]
   generalize upd H5 d (.lst (vi (out ++ [((cE t c).2.length : Int)]) ++ vi (cE t c).2)) = H6 at *; refine ⟨cs'.length,by simp,e,f',(cE t c).1,out ++ [((cE t c).2.length : Int)] ++ (cE t c).2,cs',_,rfl,rfl,fun H'' kk => ha3 _ (k6.trans kk),hd6,fun H'' kk => S3' _ (k6.trans kk),⟨dx3,k6 _ _ hr3 hrd⟩,yV hc,hcs',fun c' h' => hsub c' (List.mem_cons_of_mem _ h'),?_⟩; rw [← hout,List.append_assoc,List.append_assoc]; rfl
end
end Go

namespace Go
open PySem PySem.Spec PyProof.Rows L2
theorem yt {r : List Int} (h : ∀ z ∈ r,0 <= z) : vi r = vn (AyNeutral.nats r) := by
 show List.map V.int r = List.map V.int (List.map _ (List.map _ r)); congr 1
 induction r with
 | nil => rfl
 | cons x r ih =>
  rw [List.map_cons,List.map_cons,← ih fun z hz => h z (List.mem_cons_of_mem _ hz)]; have := h x (List.mem_cons_self ..); congr 1; omega
theorem zl {r : List Int} (h : ∀ z ∈ r,z <= 4294967295) : ∀ n ∈ AyNeutral.nats r,n < 2 ^ 63 := fun n hn => by
 obtain ⟨z,hz,e⟩ := List.mem_map.mp hn; have := h z hz; omega
def zy (C : Addr) (H : Hp) (l : Addr) (r : Ay.State × List Int) (Q : VK) : Prop :=
 ∀ (H' : Hp) (p : Addr),aN l H H' -> aB C H' l r.1 -> H p = none -> H' p = some (.lst (vi r.2)) -> Q (.ref p) H'
def dj (C : Addr) (lo hi : Int) : Sp := fun vs H Q _ => ∃ (l wa ra : Addr) (t : Ay.State) (p : Int) (W : List Int) (X : List (List Int)),vs = [.ref l,.int p,.ref wa,.ref ra] /\ aB C H l t /\ H wa = some (.lst (vi W)) /\ qo H ra X /\ lo <= p /\ p <= hi /\ Ma.bT p W X /\ zy C H l (AyNeutral.step t ((p :: W) :: X)) Q
theorem zy.of {C : Addr} {H : Hp} {l : Addr} {t : Ay.State} {c : List (List Int)} {x : Ay.Call} {Q : VK} (k : zy C H l (AyNeutral.step t c) Q) (h : AyNeutral.callOf c = some x) : aQ C H l (Ay.step t x) Q := by
 have e : AyNeutral.step t c = ((Ay.step t x).1,AyNeutral.told (Ay.step t x).2) := by
  unfold AyNeutral.step; rw [h]
 rw [e] at k; exact k
theorem qo.row {H : Hp} {D : Addr} {X : List (List Int)} (h : qo H D X) {i : Nat} {x : List Int} (hx : X[i]? = some x) : ∃ vs q,H D = some (.lst vs) /\ vs[i]? = some (.ref q) /\ H q = some (.lst (vi x)) := by
 obtain ⟨qs,h1,h2,h3⟩ := h; have hi : i < qs.length := by rw [h2]; exact (List.getElem?_eq_some_iff.mp hx).1
 have e : qs[i]? = some qs[i] := List.getElem?_eq_getElem hi; exact ⟨_,qs[i],h1,by rw [List.getElem?_map,e]; rfl,(h3 i _ x e hx).2⟩
section
variable {P : Program} {w : World} {K : Fg} {mg : Str -> Option Value} {base : Heap} {C al : Addr}
theorem ia {H : Hp} {q : Addr} {r : List Int} (h : H q = some (.lst (vi r))) (hn : Ma.pd r) : H q = some (.lst (vn (AyNeutral.nats r))) := by
 rw [h,yt fun z hz => (hn.1 z hz).1]
theorem rl {r : List Int} (hn : Ma.pd r) : ∀ n ∈ AyNeutral.nats r,n < 2 ^ 63 := zl fun z hz => (hn.1 z hz).2
theorem sX : aq ["slots","call","wholes","rows"] ["slots","call","wholes","rows"] (aj fK) := fs
theorem tf (D : Df K mg "making_answer" "making_answer" fK ["slots","call","wholes","rows"]) (T : Txt K mg C) (nE : Ok P w K mg base 3 "call_make" ["slots","k","lengths","cells"] (qX C)) (nQ : Ok P w K mg base 3 "call_fill" ["slots","k","v","lengths"] (qv C)) (md : Ok P w K mg base 3 "call_count" ["slots","k","start","step","lengths"] (pG C)) (mQ : Ok P w K mg base 2 "call_drop" ["slots","k"] (qx C)) : Ok P w K mg base 4 "making_answer" ["slots","call","wholes","rows"] (dj C 1 4) := by
 refine D.ok sX (fun _ _ _ _ h => by obtain ⟨_,_,_,_,_,_,_,rfl,_⟩ := h; rfl) (fun f cdv A outer s H vs Q E hr h => ?_); obtain ⟨l,wa,ra,t,p,W,X,rfl,S,hW,hX,hlo,hhi,hV,k⟩ := h
 refine ⟨_,(ad (aw (aF bC (pv 1) ai) (ae (ah (ap nE hr (ab (pv 0) (ab (au (pv 2) ai) (ab (au (pv 3) ai) (ab (au (pv 3) ai) ac))))))) ao)
  (ad (aw (aF bC (pv 1) ai) (ae (ah (ap nQ hr (ab (pv 0) (ab (au (pv 2) ai) (ab (au (pv 2) ai) (ab (au (pv 3) ai) ac))))))) ao)
  (ad (aw (aF bC (pv 1) ai) (ae (ah (ap md hr (ab (pv 0) (ab (au (pv 2) ai) (ab (au (pv 2) ai) (ab (au (pv 2) ai) (ab (au (pv 3) ai) ac)))))))) ao)
  (ae (ah (ap mQ hr (ab (pv 0) (ab (au (pv 2) ai) ac)))))))),?_⟩
 refine ⟨_,rfl,rfl,_,rfl,ba (fun h => ?_) (fun h => ?_)⟩
 ·cases (V.int.inj (of_decide_eq_true h) : p = 1); obtain ⟨x0,r0,r1,rfl,rfl,hr0,hr1,hc⟩ := Ma.adW hV; obtain ⟨vs0,q0,g0,g0',hq0⟩ := hX.row (i := 0) rfl; obtain ⟨vs1,q1,g1,g1',hq1⟩ := hX.row (i := 1) rfl; exact ⟨_,rfl,_,rfl,wa,_,_,_,rfl,rfl,ag.of hW,rfl,_,rfl,ra,vs0,_,_,rfl,rfl,ag.of g0,d7 (j := 0) rfl g0',_,rfl,ra,vs1,_,_,rfl,rfl,ag.of g1,d7 (j := 1) rfl g1',l,q0,q1,t,x0,AyNeutral.nats r0,r1,rfl,S,ia hq0 hr0,hq1,rl hr0,k.of hc⟩
 refine ⟨_,rfl,rfl,_,rfl,ba (fun h => ?_) (fun h => ?_)⟩
 ·cases (V.int.inj (of_decide_eq_true h) : p = 2); obtain ⟨x0,x1,r0,rfl,rfl,hr0,hc⟩ := Ma.ad2 hV; obtain ⟨vs0,q0,g0,g0',hq0⟩ := hX.row (i := 0) rfl; exact ⟨_,rfl,_,rfl,wa,_,_,_,rfl,rfl,ag.of hW,rfl,_,rfl,wa,_,_,_,rfl,rfl,ag.of hW,rfl,_,rfl,ra,vs0,_,_,rfl,rfl,ag.of g0,d7 (j := 0) rfl g0',l,q0,t,x0,x1,AyNeutral.nats r0,rfl,S,ia hq0 hr0,rl hr0,k.of hc⟩
 refine ⟨_,rfl,rfl,_,rfl,ba (fun h => ?_) (fun h => ?_)⟩
 ·cases (V.int.inj (of_decide_eq_true h) : p = 3); obtain ⟨x0,x1,x2,r0,rfl,rfl,hr0,hc⟩ := Ma.adT hV; obtain ⟨vs0,q0,g0,g0',hq0⟩ := hX.row (i := 0) rfl; exact ⟨_,rfl,_,rfl,wa,_,_,_,rfl,rfl,ag.of hW,rfl,_,rfl,wa,_,_,_,rfl,rfl,ag.of hW,rfl,_,rfl,wa,_,_,_,rfl,rfl,ag.of hW,rfl,_,rfl,ra,vs0,_,_,rfl,rfl,ag.of g0,d7 (j := 0) rfl g0',l,q0,t,x0,x1,x2,AyNeutral.nats r0,rfl,S,ia hq0 hr0,rl hr0,k.of hc⟩
 ·have hp : p = 4 := by
   have h1 : ¬ p = 1 := fun e => by simp_all
   have h2 : ¬ p = 2 := fun e => by simp_all
   have h3 : ¬ p = 3 := fun e => by simp_all
   omega
  subst hp; obtain ⟨x0,rfl,rfl,hc⟩ := Ma.aej hV; exact ⟨_,rfl,_,rfl,wa,_,_,_,rfl,rfl,ag.of hW,rfl,l,t,x0,rfl,S,k.of hc⟩
end
end Go

namespace Go
open PySem PySem.Spec PyProof.Rows L2
theorem adJ {C R dx dy a b c : Addr} {n : Nat} : HO.ins C dx (af a b) ≠ HO.ins R dy (rf c n) := fun e => by
 have e2 : af a b = rf c n := (HO.ins.inj e).2.2; have h1 := aU a b; rw [e2,c6 c n (by decide +kernel) (by decide +kernel)] at h1; cases h1
theorem aB.keepR {C R : Addr} {H H' : Hp} {l r a : Addr} {n : Nat} {t : Ay.State} (S : aB C H l t) (hR : aP R H r a n) (k : aN r H H') : aB C H' l t := by
 obtain ⟨dx,hr⟩ := hR; obtain ⟨vs,h1,h2,h3,h4⟩ := S.ex; refine ⟨vs,k _ _ h1 (mq h1 hr (by intro z; cases z)),h2,h3,fun i v o e1 e2 => ?_⟩; have h5 := h4 i v o e1 e2
 cases o with
 | none => exact h5
 | some A =>
  obtain ⟨x,ex,⟨dy,a1,b1,g1,g2,g3⟩,ho⟩ := h5; exact ⟨x,ex,⟨dy,a1,b1,k _ _ g1 (mq g1 hr adJ),k _ _ g2 (mq g2 hr (by intro z; cases z)),k _ _ g3 (mq g3 hr (by intro z; cases z))⟩,ho⟩
section
variable {P : Program} {w : World} {K : Fg} {mg : Str -> Option Value} {base : Heap} {C al : Addr}
theorem rM : aq ["slots","call","wholes","rows"] ["slots","call","wholes","rows"] (aj ff) := fs
theorem rQ (D : Df K mg "telling_answer" "telling_answer" ff ["slots","call","wholes","rows"]) (T : Txt K mg C) (l_ : Ok P w K mg base 2 "call_shape" ["slots","i"] (pK C)) (lz : Ok P w K mg base 2 "call_cells" ["slots","i"] (pQ C)) (qf : Ok P w K mg base 3 "call_at" ["slots","i","place"] (tX K C)) (oO : Ok P w K mg base 3 "call_set" ["slots","i","v","place"] (su K C)) : Ok P w K mg base 4 "telling_answer" ["slots","call","wholes","rows"] (dj C 5 8) := by
 refine D.ok rM (fun _ _ _ _ h => by obtain ⟨_,_,_,_,_,_,_,rfl,_⟩ := h; rfl) (fun f cdv A outer s H vs Q E hr h => ?_); obtain ⟨l,wa,ra,t,p,W,X,rfl,S,hW,hX,hlo,hhi,hV,k⟩ := h
 refine ⟨_,(ad (aw (aF bC (pv 1) ai) (ae (ah (ap l_ hr (ab (pv 0) (ab (au (pv 2) ai) ac))))) ao)
  (ad (aw (aF bC (pv 1) ai) (ae (ah (ap lz hr (ab (pv 0) (ab (au (pv 2) ai) ac))))) ao)
  (ad (aw (aF bC (pv 1) ai) (ae (ah (ap qf hr (ab (pv 0) (ab (au (pv 2) ai) (ab (au (pv 3) ai) ac)))))) ao)
  (ae (ah (ap oO hr (ab (pv 0) (ab (au (pv 2) ai) (ab (au (pv 2) ai) (ab (au (pv 3) ai) ac)))))))))),?_⟩
 refine ⟨_,rfl,rfl,_,rfl,ba (fun h => ?_) (fun h => ?_)⟩
 ·cases (V.int.inj (of_decide_eq_true h) : p = 5); obtain ⟨x0,rfl,rfl,hc⟩ := Ma.ad9 hV; exact ⟨_,rfl,_,rfl,wa,_,_,_,rfl,rfl,ag.of hW,rfl,l,t,x0,rfl,S,k.of hc⟩
 refine ⟨_,rfl,rfl,_,rfl,ba (fun h => ?_) (fun h => ?_)⟩
 ·cases (V.int.inj (of_decide_eq_true h) : p = 6); obtain ⟨x0,rfl,rfl,hc⟩ := Ma.ad7 hV; exact ⟨_,rfl,_,rfl,wa,_,_,_,rfl,rfl,ag.of hW,rfl,l,t,x0,rfl,S,k.of hc⟩
 refine ⟨_,rfl,rfl,_,rfl,ba (fun h => ?_) (fun h => ?_)⟩
 ·cases (V.int.inj (of_decide_eq_true h) : p = 7); obtain ⟨x0,r0,rfl,rfl,hr0,hc⟩ := Ma.aea hV; obtain ⟨vs0,q0,g0,g0',hq0⟩ := hX.row (i := 0) rfl; exact ⟨_,rfl,_,rfl,wa,_,_,_,rfl,rfl,ag.of hW,rfl,_,rfl,ra,vs0,_,_,rfl,rfl,ag.of g0,d7 (j := 0) rfl g0',l,q0,t,x0,AyNeutral.nats r0,rfl,S,ag.of (ia hq0 hr0),k.of hc⟩
 ·have hp : p = 8 := by
   have h1 : ¬ p = 5 := fun e => by simp_all
   have h2 : ¬ p = 6 := fun e => by simp_all
   have h3 : ¬ p = 7 := fun e => by simp_all
   omega
  subst hp; obtain ⟨x0,x1,r0,rfl,rfl,hr0,hc⟩ := Ma.adM hV; obtain ⟨vs0,q0,g0,g0',hq0⟩ := hX.row (i := 0) rfl; exact ⟨_,rfl,_,rfl,wa,_,_,_,rfl,rfl,ag.of hW,rfl,_,rfl,wa,_,_,_,rfl,rfl,ag.of hW,rfl,_,rfl,ra,vs0,_,_,rfl,rfl,ag.of g0,d7 (j := 0) rfl g0',l,q0,t,x0,x1,AyNeutral.nats r0,rfl,S,ag.of (ia hq0 hr0),k.of hc⟩
theorem rL : aq ["slots","call","wholes","rows"] ["slots","call","wholes","rows"] (aj fj) := fs
theorem rW (D : Df K mg "section_answer" "section_answer" fj ["slots","call","wholes","rows"]) (T : Txt K mg C) (kJ : Ok P w K mg base 4 "call_spread" ["slots","k","i","lengths"] (oE C)) (oS : Ok P w K mg base 4 "call_cut" ["slots","k","i","cuts"] (sw K C)) (px : Ok P w K mg base 4 "call_put" ["slots","i","j","cuts"] (sv K C)) : Ok P w K mg base 5 "section_answer" ["slots","call","wholes","rows"] (dj C 9 11) := by
 refine D.ok rL (fun _ _ _ _ h => by obtain ⟨_,_,_,_,_,_,_,rfl,_⟩ := h; rfl) (fun f cdv A outer s H vs Q E hr h => ?_); obtain ⟨l,wa,ra,t,p,W,X,rfl,S,hW,hX,hlo,hhi,hV,k⟩ := h
 refine ⟨_,(ad (aw (aF bC (pv 1) ai) (ae (ah (ap kJ hr (ab (pv 0) (ab (au (pv 2) ai) (ab (au (pv 2) ai) (ab (au (pv 3) ai) ac))))))) ao)
  (ad (aw (aF bC (pv 1) ai) (ae (ah (ap oS hr (ab (pv 0) (ab (au (pv 2) ai) (ab (au (pv 2) ai) (ab (au (pv 3) ai) ac))))))) ao)
  (ae (ah (ap px hr (ab (pv 0) (ab (au (pv 2) ai) (ab (au (pv 2) ai) (ab (au (pv 3) ai) ac))))))))),?_⟩
 refine ⟨_,rfl,rfl,_,rfl,ba (fun h => ?_) (fun h => ?_)⟩
 ·cases (V.int.inj (of_decide_eq_true h) : p = 9); obtain ⟨x0,x1,r0,rfl,rfl,hr0,hc⟩ := Ma.aen hV; obtain ⟨vs0,q0,g0,g0',hq0⟩ := hX.row (i := 0) rfl; exact ⟨_,rfl,_,rfl,wa,_,_,_,rfl,rfl,ag.of hW,rfl,_,rfl,wa,_,_,_,rfl,rfl,ag.of hW,rfl,_,rfl,ra,vs0,_,_,rfl,rfl,ag.of g0,d7 (j := 0) rfl g0',l,q0,t,x0,x1,AyNeutral.nats r0,rfl,S,ia hq0 hr0,rl hr0,k.of hc⟩
 refine ⟨_,rfl,rfl,_,rfl,ba (fun h => ?_) (fun h => ?_)⟩
 ·cases (V.int.inj (of_decide_eq_true h) : p = 10); obtain ⟨x0,x1,r0,rfl,rfl,hr0,hc⟩ := Ma.adk hV; obtain ⟨vs0,q0,g0,g0',hq0⟩ := hX.row (i := 0) rfl; exact ⟨_,rfl,_,rfl,wa,_,_,_,rfl,rfl,ag.of hW,rfl,_,rfl,wa,_,_,_,rfl,rfl,ag.of hW,rfl,_,rfl,ra,vs0,_,_,rfl,rfl,ag.of g0,d7 (j := 0) rfl g0',l,q0,t,x0,x1,r0,rfl,S,ag.of hq0,k.of hc⟩
 ·have hp : p = 11 := by
   have h1 : ¬ p = 9 := fun e => by simp_all
   have h2 : ¬ p = 10 := fun e => by simp_all
   omega
  subst hp; obtain ⟨x0,x1,r0,rfl,rfl,hr0,hc⟩ := Ma.adE hV; obtain ⟨vs0,q0,g0,g0',hq0⟩ := hX.row (i := 0) rfl; exact ⟨_,rfl,_,rfl,wa,_,_,_,rfl,rfl,ag.of hW,rfl,_,rfl,wa,_,_,_,rfl,rfl,ag.of hW,rfl,_,rfl,ra,vs0,_,_,rfl,rfl,ag.of g0,d7 (j := 0) rfl g0',l,q0,t,x0,x1,r0,rfl,S,ag.of hq0,k.of hc⟩
theorem sc_next_answer : aq ["slots","reader","call","form","wholes","rows"] ["slots","reader"] (aj hZ) := fs
theorem uP (D : Df K mg "next_answer" "next_answer" hZ ["slots","reader"]) (T : Txt K mg C) (aA : iC K al) (TF : wf K mg PyYqlnca.shape) (a6 : gA P w K mg base 1 al "read_whole" ["self"] (fq K al)) (kd : Ok P w K mg base 2 "read_wholes" ["reader","size"] (ol K al)) (mS : Ok P w K mg base 3 "read_rows" ["reader","size"] (qW K al)) (ki : Ok P w K mg base 10 "call_answer" ["slots","call","wholes","rows"] (dj C 1 26)) : Ok P w K mg base 11 "next_answer" ["slots","reader"] (oz K C al) := by
 refine D.ok sc_next_answer (fun _ _ _ _ h => by obtain ⟨_,_,_,_,_,_,_,_,rfl,_⟩ := h; rfl) (fun f cdv A outer s H vs Q E hr h => ?_); obtain ⟨l,r,a,t,zs,n,e,c,rfl,S,hR,ha,hcall,hins,hask,k⟩ := h; obtain ⟨p,kk,m,X,hz,hsh,hle,hrows,rfl⟩ := sn hcall
 refine ⟨_,(ad (aH 2 sc_next_answer.nd (gf aA.cl a6 hr.m (pv 1)))
  (ad (aH 3 sc_next_answer.nd (aaW TF rfl (pv 2) (fun _ _ => rfl)))
  (ad (aH 4 sc_next_answer.nd (ap kd hr (ab (pv 1) (ab (rA t7 (pv 3) ai (fun _ _ => rfl)) ac))))
  (ad (aH 5 sc_next_answer.nd (ap mS hr (ab (pv 1) (ab (rA t7 (pv 3) ai (fun _ _ => rfl)) ac))))
  (ae (ah (ap ki hr (ab (pv 0) (ab (pv 2) (ab (pv 4) (ab (pv 5) ac))))))))))),?_⟩
 obtain ⟨dx,hr0⟩ := id hR; have hWl : ((zs.drop (n + 1)).take kk).length = kk := by rw [List.length_take,List.length_drop]; omega
 have hXl := (kW hrows).1; have hw := Ma.abx hsh hWl hXl; unfold cE at k; rw [hw] at k hask
 have hb : 1 <= p /\ p <= 26 /\ kk <= 4 /\ m <= 2 := by
  have := Ma.mO hsh; omega
 refine ⟨_,rfl,r,dx,_,rfl,hr0,c6 _ _ (by decide +kernel) (by decide +kernel),r,a,n,zs,p,rfl,hR,ha,hz,fun H1 k1 hR1 f1 => ?_⟩; have ha1 := aP.seq k1 hR ha; refine ⟨_,rfl,p,kk,m,rfl,hsh,fun fa hfa => ?_⟩; refine ⟨_,rfl,_,rfl,fa,_,_,_,rfl,rfl,hfa H1,rfl,r,a,n + 1,kk,zs,rfl,hR1,ha1,hle,by omega,fun H2 wa k2 hR2 hwa hW2 => ?_⟩; have ha2 := aP.seq k2 hR1 ha1; refine ⟨_,rfl,_,rfl,fa,_,_,_,rfl,rfl,hfa H2,rfl,r,a,n + 1 + kk,m,e,zs,X,rfl,hR2,ha2,hrows,by omega,fun H3 ra k3 hR3 hra hX3 => ?_⟩; have S3 := aB.keepR (aB.keepR (aB.keepR S hR k1) hR1 k2) hR2 k3; have hW3 := k3 _ _ hW2 (aP.notLst hR2 hW2).symm; obtain ⟨dx3,hr3⟩ := id hR3; refine ⟨_,rfl,_,rfl,_,rfl,_,rfl,l,wa,ra,t,p,_,X,rfl,S3,hW3,hX3,hb.1,hb.2.1,⟨⟨kk,m,hsh,hWl,hXl⟩,hins,hask⟩,fun H4 q k4 S4 hq hq4 => ?_⟩; have k13 := (k1.trans k2).trans k3; obtain ⟨vs3,hl3,_⟩ := id S3.ex; have hrl : r ≠ l := mq hr3 hl3 (by intro z; cases z); exact k H4 q (fun b o eb hbl hbr => k4 b o (k13 b o eb hbr) hbl) S4 ⟨dx3,k4 _ _ hr3 hrl⟩ (aN.free k13 hq ⟨_,hr3⟩) hq4
end
end Go

namespace Go
open PySem PySem.Spec PyProof.Rows L2
theorem dw {c A B : Prop} [Decidable c] (hc : c) (h : A) : if decide c = true then A else B := by
 rw [decide_eq_true hc]; exact ad8 h
theorem dG {c A B : Prop} [Decidable c] (hc : ¬ c) (h : B) : if decide c = true then A else B := by
 rw [decide_eq_false hc]; exact acv h
section
variable {P : Program} {w : World} {K : Fg} {mg : Str -> Option Value} {base : Heap} {C al : Addr}
def mC (K : Fg) : Sp := fun vs H Q _ => ∃ (a b : Addr) (s g : List Nat) (ax : Nat),vs = [.ref a,.ref b,.int ax] /\ ag K H a (vn s) /\ ag K H b (vn g) /\ ax < s.length /\ s.length <= 1000 /\ ∀ H',ak H H' -> Q (.bl (Ad.joinOk ax s g)) H'
theorem ui : aq ["first","second","axis"] ["first","second","axis"] (aj gh) := fs
theorem up (D : Df K mg "lengths_join" "lengths_join" gh ["first","second","axis"]) (T : Txt K mg C) (bd : Ok P w K mg base 1 "without_axis" ["numbers","axis"] (dg K)) : Ok P w K mg base 2 "lengths_join" ["first","second","axis"] (mC K) := by
 refine D.ok ui (fun _ _ _ _ h => by obtain ⟨_,_,_,_,_,rfl,_⟩ := h; rfl) (fun f cdv A outer s H vs Q E hr h => ?_); obtain ⟨a,b,s,g,ax,rfl,ha,hb,hx,hl4,k⟩ := h; refine ⟨_,(ae (ah (pY (lZ bC (bA T.b_len (pv 0)) (bA T.b_len (pv 1))) (tO (lZ (xA hr.units) (ap bd hr (ab (pv 0) (ab (pv 2) ac))) (ap bd hr (ab (pv 1) (ab (pv 2) ac)))))))),?_⟩; refine ⟨_,rfl,a,_,rfl,.inl ha,_,rfl,b,_,rfl,.inl hb,rfl,_,rfl,?_⟩; rw [aI,aI]
 by_cases hl : s.length = g.length
 ·refine dw (by rw [hl]) ?_; refine ⟨_,rfl,_,rfl,a,vn s,ax,rfl,ha,by rw [aI]; omega,fun H1 q s1 hq hq1 => ?_⟩; refine ⟨_,rfl,_,rfl,b,vn g,ax,rfl,s1.seq hb,by rw [aI]; omega,fun H2 r s2 hr2 hr1 => ?_⟩; rw [lr] at hq1 hr1; refine ⟨q,r,_,_,rfl,rfl,ag.of (s2 _ _ hq1),ag.of hr1,?_⟩
  have e : Ad.joinOk ax s g = decide (Ma.nz (s.eraseIdx ax) = Ma.nz (g.eraseIdx ax)) := by
   by_cases q : s.eraseIdx ax = g.eraseIdx ax
   ·rw [q,decide_eq_true rfl]; exact (Ma.k8 hx).mpr ⟨hl,q⟩
   ·rw [decide_eq_false (fun z => q (Ma.ot z))]
    cases e : Ad.joinOk ax s g with
    | false => rfl
    | true => exact absurd ((Ma.k8 hx).mp e).2 q
  rw [e] at k; exact k _ (s1.trans s2)
 ·refine dG (a5 (by omega)) ?_
  have e : Ad.joinOk ax s g = false := by
   cases e : Ad.joinOk ax s g with
   | false => rfl
   | true => exact absurd ((Ma.k8 hx).mp e).1 hl
  rw [e] at k; exact k _ (ak.refl H)
def pP (K : Fg) : Sp := fun vs H Q _ => ∃ (a : Addr) (r : List Int) (z : Int),vs = [.ref a,.int z] /\ ag K H a (vi r) /\ r.length <= 100000 /\ ∀ H' q,ak H H' -> H q = none -> H' q = some (.lst (vi ((List.range r.length).map fun (i : Nat) => r.getD (((i : Int) - z) % (r.length : Int)).toNat 0))) -> Q (.ref q) H'
theorem sc_rolled_row : aq ["row","by","number"] ["row","by"] (aj fU) := fs
theorem v5 (D : Df K mg "rolled_row" "rolled_row" fU ["row","by"]) (T : Txt K mg C) : Ok P w K mg base 1 "rolled_row" ["row","by"] (pP K) := by
 refine D.ok sc_rolled_row (fun _ _ _ _ h => by obtain ⟨_,_,_,rfl,_⟩ := h; rfl) (fun f cdv A outer s H vs Q E hr h => ?_); obtain ⟨a,r,z,rfl,ha,hl,k⟩ := h; refine ⟨_,(ae (ah (dB rfl sc_rolled_row.nd (d9 rfl T.b_range (ab (bA T.b_len (pv 0)) ac)) (a_ (N := ["row","by","number"]) (sc := aj fU) (own := [("number",2)]) (by decide +kernel)) (fun _ _ _ _ _ => (a0 2 sc_rolled_row.nd)) (fun _ _ _ _ _ => bt) (fun _ _ _ _ _ => (oY K (pv 0) (aV wF (aV jS (pv 2) (pv 1)) (bH (wb K rfl) (by rfl) T.b_len PySem.boot_len (ab (pv 0) ac)))))))),?_⟩; have hvl := aM r; refine ⟨_,rfl,a,_,rfl,.inl ha,_,rfl,by omega,by omega,fun D hD => ?_⟩; rw [aM]; refine cF (fX) (fun (i : Nat) => V.int (r.getD (((i : Int) - z) % (r.length : Int)).toNat 0)) hD (by show _ <= 2 ^ 24; omega) ?_ bg ?_
 ·rintro i H1 v H2 hi sm ⟨rfl,rfl⟩ Q' kq; have hi' : i < r.length := by omega
  have hm1 : 0 <= ((i : Int) - z) % (r.length : Int) := Int.emod_nonneg _ (by omega); have hm2 : ((i : Int) - z) % (r.length : Int) < (r.length : Int) := Int.emod_lt_of_pos _ (by omega); have ha1 := sm.seq ha; refine ⟨rfl,_,rfl,_,rfl,_,rfl,_,_,rfl,rfl,_,rfl,a,_,rfl,.inl ha1,_,_,rfl,rfl,(by rw [aM]; show (0 : Int) < _; omega),a,_,_,_,rfl,rfl,ha1,?_,kq _ (ak.refl _)⟩; rw [aM,Int.zero_add]; have e : ((i : Int) - z) % (r.length : Int) = ((((i : Int) - z) % (r.length : Int)).toNat : Int) := by omega
  have h1 : r[(((i : Int) - z) % (r.length : Int)).toNat]? = some (r.getD (((i : Int) - z) % (r.length : Int)).toNat 0) := mh (by omega); rw [e]; exact bE (cB h1)
 ·intro H' sm hd; refine k H' D sm hD ?_; rw [hd]; congr 2; show _ = List.map V.int (List.map _ _); rw [List.map_map]; rfl
end
end Go

namespace Go
open PySem PySem.Spec PyProof.Rows L2
section
variable {P : Program} {w : World} {K : Fg} {mg : Str -> Option Value} {base : Heap} {C al : Addr}
theorem dA.ofF {H : Hp} {D : Addr} {f : Nat -> List V} {n : Nat} {qs : List Addr} (h1 : H D = some (.lst (qs.map V.ref))) (h2 : qs.length = n) (h3 : ∀ (i : Nat) q,qs[i]? = some q -> H q = some (.lst (f i))) : dA H D ((List.range n).map f) := by
 refine dA.of h1 h2 h3 (by rw [List.length_map,List.length_range]) fun i x hx => ?_
 rw [List.getElem?_map] at hx
 by_cases hi : i < n
 ·rw [List.getElem?_range hi] at hx; exact Option.some.inj hx
 ·rw [List.getElem?_eq_none (by rw [List.length_range]; omega)] at hx; cases hx
theorem dY {α : Type} {n i : Nat} (h : i < n) (f : Nat -> α) : ((List.range n).map f)[i]? = some (f i) := by
 rw [List.getElem?_map,List.getElem?_range h]; rfl
theorem bq {α : Type} {l : List α} {i : Nat} {x d : α} (h : l[i]? = some x) : l.getD i d = x := by
 rw [List.getD_eq_getElem?_getD,h]; rfl
theorem ib {A : Ad.Arr} {s p : List Nat} {ax : Nat} (e : Ad.removed A.shape ax = Ad.removed s ax) (hp : Ma.In s p) (hx : ax < s.length) : (Ad.rowsBy ax A)[Ad.cellOf (Ad.removed s ax) (p.eraseIdx ax)]? = some (Ad.rowAt A ax p) := by
 rw [← e]; refine Ma.zO ?_ (by rw [hp.len]; exact hx); rw [e]; exact hp.erase
theorem oQ {A : Ad.Arr} {s p : List Nat} {ax : Nat} (e : Ad.removed A.shape ax = Ad.removed s ax) (hp : Ma.In s p) (hx : ax < s.length) : (dv ax A)[Ad.cellOf (Ad.removed s ax) (p.eraseIdx ax)]? = some (vi (Ad.rowAt A ax p)) := by
 rw [List.getElem?_map,ib e hp hx]; rfl
theorem j9 {H : Hp} {y : Addr} {s : List Nat} {h : List Nat -> Int} (hA : uN C H y s (xF s fun p => V.int (h p))) : b_ C H y (Ad.build s h) := by
 obtain ⟨dx,a,b,h1,h2,h3⟩ := hA; exact ⟨dx,a,b,h1,h2,h3.trans (congrArg (fun z => some (HO.lst z)) (o3 s h))⟩
theorem og {s p : List Nat} {ax : Nat} (hp : Ma.In s p) : Ad.cellOf (Ad.removed s ax) (p.eraseIdx ax) < Ad.product_ (Ad.removed s ax) := (hp.erase (x := ax)).lt
theorem m4 (s : List Nat) (ax n : Nat) : Ad.removed (s.set ax n) ax = Ad.removed s ax := Ma.mL s ax n
def rp (ax : Nat) (A B : Ad.Arr) (p : List Nat) : Int := if p.getD ax 0 < Ad.along A.shape ax then A.at_ p else B.at_ (p.set ax (p.getD ax 0 - Ad.along A.shape ax))
def ac0 (ax : Nat) (A B : Ad.Arr) (p : List Nat) : Prop := p.length = A.shape.length /\ (p.getD ax 0 < Ad.along A.shape ax -> Ma.In A.shape p) /\ (¬ p.getD ax 0 < Ad.along A.shape ax -> Ma.In B.shape (p.set ax (p.getD ax 0 - Ad.along A.shape ax)))
theorem ack {ax : Nat} {A B : Ad.Arr} {p : List Nat} (hx : ax < A.shape.length) (hj : Ad.joinOk ax A.shape B.shape = true) (hp : Ma.In (Ad.joinShape ax A.shape B.shape) p) : ac0 ax A B p := by
 unfold Ad.joinShape at hp; have hl := hp.len; rw [List.length_set] at hl; obtain ⟨h1,h2⟩ := (Ma.xj hx).mp hj; have hg := ll (l := p) (i := ax) (by omega); refine ⟨hl,fun hlt => ?_,fun hge => ?_⟩
 ·have := Ma.In.set hp hx (p.getD ax 0) hlt; rw [Ma.fZ (bv hx),Ma.fZ hg] at this; exact this
 ·have ha := Ma.In.axis hp (by rw [List.length_set]; exact hx); rw [Ma.mx hx] at ha; have := Ma.In.set hp hx (m := Ad.along B.shape ax) (p.getD ax 0 - Ad.along A.shape ax) (by omega); rw [h2] at this; exact this
theorem abb {ax : Nat} {A B : Ad.Arr} {p : List Nat} (hx : ax < A.shape.length) (hp : Ma.In (Ad.joinShape ax A.shape B.shape) p) : (vi (Ad.rowAt A ax p) ++ vi (Ad.rowAt B ax p))[p.getD ax 0]? = some (V.int (rp ax A B p)) := by
 have hl := hp.len; unfold Ad.joinShape at hp hl; rw [List.length_set] at hl; have ha := Ma.In.axis hp (by rw [List.length_set]; exact hx); rw [Ma.mx hx] at ha; unfold rp
 by_cases h : p.getD ax 0 < Ad.along A.shape ax
 ·rw [List.getElem?_append_left (by rw [aM,Ma.di]; exact h),if_pos h,cB (Ma.oA h),Ma.abu (by omega)]
 ·rw [List.getElem?_append_right (by rw [aM,Ma.di]; omega),if_neg h,aM,Ma.di,cB (Ma.oA (by omega))]
def qw (K : Fg) (C : Addr) : Sp := fun vs H Q _ => ∃ (l : Addr) (t : Ay.State) (kk ax i j : Nat),vs = [.ref l,.int kk,.int ax,.int i,.int j] /\ aB C H l t /\ aQ C H l (Ay.step t (.join kk ax i j)) Q
theorem sc_call_join : aq ["slots","k","axis","i","j","refusal","first","second","lengths","rows","row","behind"] ["slots","k","axis","i","j"] (aj gP) := fs
theorem xG (D : Df K mg "call_join" "call_join" gP ["slots","k","axis","i","j"]) (T : Txt K mg C) (a7 : Ok P w K mg base 4 "axis_refusal" ["slots","k","sources","axis"] (cD K C)) (ju : Ok P w K mg base 2 "lengths_join" ["first","second","axis"] (mC K)) (cq : Ok P w K mg base 2 "with_length" ["lengths","axis","length"] (gm K)) (aW : Ok P w K mg base 2 "is_shape" ["lengths"] (cj K)) (bf : Ok P w K mg base 4 "rows_of" ["array","axis"] (dE K C)) (a4 : Ok P w K mg base 3 "array_of_rows" ["lengths","axis","rows"] (cr K C)) (aZ : Ok P w K mg base 1 "keep" ["slots","k","array"] (b6 C)) : Ok P w K mg base 5 "call_join" ["slots","k","axis","i","j"] (qw K C) := by
 refine D.ok sc_call_join (fun _ _ _ _ h => by obtain ⟨_,_,_,_,_,_,rfl,_⟩ := h; rfl) (fun f cdv A outer s H vs Q E hr h => ?_); obtain ⟨l,t,kk,ax,i,j,rfl,S0,k0⟩ := h
 refine ⟨_,(ad (aH 5 sc_call_join.nd (ap a7 hr (ab (pv 0) (ab (pv 1) (ab (az (ab (pv 3) (ab (pv 4) ac))) (ab (pv 2) ac))))))
  (ad (aw (aF bB (pv 5) ai) (ae (ah (az (ab (pv 5) ac)))) ao)
  (ad (aH 6 sc_call_join.nd (au (pv 0) (pv 3)))
  (ad (aH 7 sc_call_join.nd (au (pv 0) (pv 4)))
  (ad (aw (bx (bi (ap ju hr (ab (aD (pv 6) rfl) (ab (aD (pv 7) rfl) (ab (pv 2) ac)))))) (ae (ah (az (ab (aO T.g_UNLIKE) ac)))) ao)
  (ad (aH 8 sc_call_join.nd (ap cq hr (ab (aD (pv 6) rfl) (ab (pv 2) (ab (aV cP (au (aD (pv 6) rfl) (pv 2)) (au (aD (pv 7) rfl) (pv 2))) ac)))))
  (ad (aw (bx (bi (ap aW hr (ab (pv 8) ac)))) (ae (ah (az (ab (aO T.g_BEYOND) ac)))) ao)
  (ad (cU rfl sc_call_join.nd (i := 9) rfl rfl (dN rfl rfl rfl (by decide +kernel)) (fv rfl T.b_zip (ab (ap bf hr (ab (pv 6) (ab (pv 2) ac))) (ab (ap bf hr (ab (pv 7) (ab (pv 2) ac))) ac))) (a_ (N := ["slots","k","axis","i","j","refusal","first","second","lengths","rows","row","behind"]) (sc := aj gP) (own := [("row",10),("behind",11)]) (by decide +kernel)) (fun _ _ _ _ _ => (lj K rfl (n := 2) rfl (be (a0 10 sc_call_join.nd) (be (a0 11 sc_call_join.nd) cX)))) (fun _ _ _ _ _ => bt) (fun _ _ _ _ _ => (aV iR (pv 10) (pv 11))))
  (ae (ah (ap aZ hr (ab (pv 0) (ab (pv 1) (ab (ap a4 hr (ab (pv 8) (ab (pv 2) (ab (pv 9) ac)))) ac)))))))))))))),?_⟩
 refine ⟨_,rfl,_,rfl,_,rfl,_,rfl,lR,fun q hq => ?_⟩; have s0 : ak H (upd H q (.lst [.int i,.int j])) := ak.new hq; have hq1 : (upd H q (.lst [.int i,.int j])) q = some (.lst (vn [i,j])) := am; generalize upd H q (.lst [.int i,.int j]) = H1 at *; have S := S0.keep s0; have k := k0.same s0; refine ⟨_,rfl,l,q,t,kk,i,ax,[j],rfl,S,ag.of hq1,_,rfl,rfl,_,rfl,?_⟩
 by_cases h0 : cA t kk i [j] ax = 0
 ·refine br (congrArg V.int h0) ?_; obtain ⟨hk,hi,hj,A',B',ea,eb,hx,ef⟩ := ye h0; rw [Ay.step,ef] at k; obtain ⟨vs,x,g1,g2,hA,ho⟩ := aB.arr S hi ea; obtain ⟨dx,a1,b1,h1,h2,h3⟩ := id hA; obtain ⟨vs',y,g1',g2',hB,ho'⟩ := aB.arr S hj eb; obtain ⟨dy,a2,b2,h1',h2',h3'⟩ := id hB; obtain ⟨z1,z2,z3⟩ := Ma.aE (aG ho).1; refine ⟨_,rfl,_,rfl,l,vs,_,_,rfl,rfl,ag.of g1,g2,_,rfl,_,rfl,l,vs',_,_,rfl,rfl,ag.of g1',g2',?_⟩; refine ⟨_,rfl,x,C,dx,_,_,rfl,h1,T.cl,T.nL,aU a1 b1,_,rfl,y,C,dy,_,_,rfl,h1',T.cl,T.nL,aU a2 b2,_,rfl,a1,a2,A'.shape,B'.shape,ax,rfl,ag.of h2,ag.of h2',hx,by omega,fun H2 s2 => ⟨_,rfl,?_⟩⟩
  cases e1 : Ad.joinOk ax A'.shape B'.shape with
  | false =>
   rw [if_pos e1] at k; exact ⟨bc,aQ.no S s2 k rfl⟩
  | true =>
   rw [if_neg (by rw [e1]; simp)] at k; obtain ⟨hll,her⟩ := (Ma.k8 hx).mp e1; refine ⟨_,rfl,x,C,dx,_,_,rfl,s2 _ _ h1,T.cl,T.nL,aU a1 b1,_,rfl,_,rfl,x,C,dx,_,_,rfl,s2 _ _ h1,T.cl,T.nL,aU a1 b1,_,rfl,a1,_,_,_,rfl,rfl,ag.of (s2 _ _ h2),bE (dr (bv hx)),_,rfl,y,C,dy,_,_,rfl,s2 _ _ h1',T.cl,T.nL,aU a2 b2,_,rfl,a2,_,_,_,rfl,rfl,ag.of (s2 _ _ h2'),bE (dr (bv (by omega))),_,_,rfl,rfl,a1,vn A'.shape,ax,_,rfl,ag.of (s2 _ _ h2),by rw [aI]; omega,by rw [aI]; exact hx,fun H3 r s3 hr3 hr4 => ?_⟩
   have e2 : (vn A'.shape).set ax (V.int (((Ad.along A'.shape ax : Nat) : Int) + ((Ad.along B'.shape ax : Nat) : Int))) = vn (Ad.joinShape ax A'.shape B'.shape) := by
    unfold Ad.joinShape; rw [← ue]; rfl
   rw [e2] at hr4; have s23 := s2.trans s3
   have hbd : ∀ n ∈ Ad.joinShape ax A'.shape B'.shape,n < 2 ^ 63 := fun n hn => by
    unfold Ad.joinShape at hn
    rcases List.mem_or_eq_of_mem_set hn with hm | hm
    ·exact ci (aG ho).1 n hm
    ·have w1 := Ma.cg z2 _ (List.mem_of_getElem? (bv hx)); obtain ⟨y1,y2,y3⟩ := Ma.aE (aG ho').1; have w2 := Ma.cg y2 _ (List.mem_of_getElem? (bv (s := B'.shape) (ax := ax) (by omega))); omega
   refine ⟨_,rfl,r,Ad.joinShape ax A'.shape B'.shape,rfl,ag.of hr4,hbd,_,rfl,?_⟩
   cases e4 : Ad.shapeOk (Ad.joinShape ax A'.shape B'.shape) with
   | false =>
    rw [if_pos e4] at k; exact ⟨bc,aQ.no S s23 k rfl⟩
   | true =>
    rw [if_neg (by rw [e4]; simp)] at k; obtain ⟨w1,w2,w3⟩ := Ma.aE e4; have hjx : ax < (Ad.joinShape ax A'.shape B'.shape).length := by unfold Ad.joinShape; rw [List.length_set]; exact hx
    have hra : Ad.removed A'.shape ax = Ad.removed (Ad.joinShape ax A'.shape B'.shape) ax := (m4 _ _ _).symm; have hrb : Ad.removed B'.shape ax = Ad.removed (Ad.joinShape ax A'.shape B'.shape) ax := by rw [← hra]; exact her.symm
    obtain ⟨y1,y2,y3⟩ := Ma.aE (Ma.cn e4 ax); refine ⟨_,rfl,_,rfl,x,A',ax,rfl,hA.keep s23,ho,hx,fun H4 u s4 hu hX => ?_⟩; have s24 := s23.trans s4; refine ⟨_,rfl,_,rfl,y,B',ax,rfl,hB.keep s24,ho',by omega,fun H5 u2 s5 hu2 hX2 => ?_⟩; have s25 := s24.trans s5; obtain ⟨xs,q1,q2,q3⟩ := (hX.keep s5).src (K := K); obtain ⟨ys,q1',q2',q3'⟩ := hX2.src (K := K); rw [cw,hra] at q2; rw [cw,hrb] at q2'; refine ⟨u,u2,_,_,rfl,q1,q1',fun D hD => ?_⟩; refine pq (rq q1 q1' (by rw [q2,q2'])) (fun c => (dv ax A').getD c [] ++ (dv ax B').getD c []) hD (by rw [q2]; show _ <= 2 ^ 24; omega) ?_ jZ ?_
    ·rintro c H6 v H7 hci sm ⟨TT,v1,v2,rfl,hT,rfl,hx1,hx2⟩ Q' kq; obtain ⟨p1,r1,rfl,e5,e6⟩ := q3 c _ hx1; obtain ⟨p2,r2,rfl,e7,e8⟩ := q3' c _ hx2; have sT : ak H6 (upd H6 TT (.tup [.ref p1,.ref p2])) := ak.new hT
     have l1 : r1.length <= 10000 := by
      rw [List.getElem?_map] at e5
      cases e9 : (Ad.rowsBy ax A')[c]? with
      | none => rw [e9] at e5; cases e5
      | some w =>
       rw [e9] at e5; cases e5; rw [(Ma.iO e9).2,aM,Ma.di]; have := Ma.cg z2 _ (List.mem_of_getElem? (bv hx)); omega
     have l2 : r2.length <= 10000 := by
      rw [List.getElem?_map] at e7
      cases e9 : (Ad.rowsBy ax B')[c]? with
      | none => rw [e9] at e7; cases e7
      | some w =>
       rw [e9] at e7; cases e7; rw [(Ma.iO e9).2,aM,Ma.di]; obtain ⟨t1,t2,t3⟩ := Ma.aE (aG ho').1; have := Ma.cg t2 _ (List.mem_of_getElem? (bv (s := B'.shape) (ax := ax) (by omega))); omega
     refine ⟨TT,_,rfl,cG.of am,rfl,_,_,rfl,_,_,rfl,rfl,rfl,_,rfl,_,rfl,p1,p2,_,_,rfl,rfl,sT _ _ (sm _ _ e6),sT _ _ (sm _ _ e8),(by show _ <= 2 ^ 24; omega),fun p hp => ?_⟩; refine kq p _ (sT.upd (sT.free hp)) (sT.free hp) ?_; rw [am,bq e5,bq e7]
    ·intro H6 ds sm f1 f2 f3; rw [q2] at f2; have s26 := s25.trans sm; refine ⟨_,rfl,_,rfl,_,rfl,_,rfl,_,rfl,r,D,Ad.joinShape ax A'.shape B'.shape,ax,_,fun p => V.int (rp ax A' B' p),rfl,(s4.trans (s5.trans sm)) _ _ hr4,e4,hjx,dA.ofF f1 f2 f3,?_,fun H7 yy s7 hyy hA7 => ?_⟩
     ·intro p hp; refine ⟨_,dY (og hp) _,?_⟩; rw [bq (oQ hra hp hjx),bq (oQ hrb hp hjx)]; exact abb hx hp
     ·have s27 := s26.trans s7; refine ⟨l,yy,t,kk,Ad.join ax A' B',rfl,hk,S.keep s27,j9 (h := rp ax A' B') hA7,eW e4 fun p hp => ?_,k.same s27⟩; have hin := ack hx e1 hp; show Ad.cellFine (rp ax A' B' p) = true; unfold rp
      split
      ·exact fD ho (hin.2.1 (by assumption))
      ·exact fD ho' (hin.2.2 (by assumption))
 ·obtain ⟨n,h2,ef⟩ := z4 h0; rw [Ay.step,ef] at k; refine bz (a5 h0) ?_; exact ⟨_,rfl,bc,aQ.no S (ak.refl H1) k h2⟩
end
end Go

namespace Go
open PySem PySem.Spec PyProof.Rows L2
section
variable {P : Program} {w : World} {K : Fg} {mg : Str -> Option Value} {base : Heap} {C al : Addr}
theorem dI {A : Ad.Arr} {ax c : Nat} {r : List V} (ho : A.ok = true) (hx : ax < A.shape.length) (h : (dv ax A)[c]? = some r) : ∃ r',r = vi r' /\ (Ad.rowsBy ax A)[c]? = some r' /\ r'.length = Ad.along A.shape ax /\ 1 <= r'.length /\ r'.length <= 1024 /\ ∀ z ∈ r',Ad.cellFine z = true := by
 rw [List.getElem?_map] at h
 cases e : (Ad.rowsBy ax A)[c]? with
 | none => rw [e] at h; cases h
 | some w =>
  rw [e] at h; obtain ⟨z1,z2,z3⟩ := Ma.aE (aG ho).1; obtain ⟨g1,g2⟩ := Ma.iO e; have hm := List.mem_of_getElem? (bv hx); have h1 := Ma.cg z2 _ hm; have h2 := z2 _ hm; have hl : w.length = Ad.along A.shape ax := by rw [g2,Ma.di]
  refine ⟨w,(Option.some.inj h).symm,rfl,hl,by omega,by omega,fun z hz => ?_⟩; rw [g2] at hz; obtain ⟨i,hi,ez⟩ := List.mem_map.mp (show z ∈ (List.range (Ad.along A.shape ax)).map _ from hz); rw [← ez]; refine fD ho ?_; have hin := Ma.cC g1
  rw [Ma.sE _ _ _ (by
   rw [Ma.eV]; unfold Ad.removed; rw [List.length_eraseIdx,if_pos hx]
   omega)]
  exact Ma.In.fill hin hx (List.mem_range.mp hi)
def yY (z : Int) (r : List Int) : List Int := (List.range r.length).map fun (i : Nat) => r.getD (((i : Int) - z) % (r.length : Int)).toNat 0
theorem yu {s p : List Nat} {ax : Nat} (hp : Ma.In s p) (hx : ax < s.length) (z : Int) : (((p.getD ax 0 : Int) - z) % (Ad.along s ax : Int)).toNat < Ad.along s ax := by
 have ha := (Ma.In.axis hp hx).2; have h1 := Int.emod_nonneg ((p.getD ax 0 : Int) - z) (b := (Ad.along s ax : Int)) (by omega); have h2 := Int.emod_lt_of_pos ((p.getD ax 0 : Int) - z) (b := (Ad.along s ax : Int)) (by omega); omega
theorem aaY {A : Ad.Arr} {p : List Nat} {ax : Nat} (hp : Ma.In A.shape p) (hx : ax < A.shape.length) (z : Int) : (vi (yY z (Ad.rowAt A ax p)))[p.getD ax 0]? = some (V.int (A.at_ (p.set ax (((p.getD ax 0 : Int) - z) % (Ad.along A.shape ax : Int)).toNat))) := by
 have ha := (Ma.In.axis hp hx).2; unfold yY; rw [Ma.di]; refine cB ?_; rw [dY ha]; congr 1; exact bq (Ma.oA (yu hp hx z))
def p_ (K : Fg) (C : Addr) : Sp := fun vs H Q _ => ∃ (l : Addr) (t : Ay.State) (kk ax i : Nat) (z : Int),vs = [.ref l,.int kk,.int ax,.int z,.int i] /\ aB C H l t /\ aQ C H l (Ay.step t (.roll kk ax z i)) Q
theorem sc_call_roll : aq ["slots","k","axis","by","i","refusal","rows","row"] ["slots","k","axis","by","i"] (aj gO) := fs
theorem xw (D : Df K mg "call_roll" "call_roll" gO ["slots","k","axis","by","i"]) (T : Txt K mg C) (a7 : Ok P w K mg base 4 "axis_refusal" ["slots","k","sources","axis"] (cD K C)) (lx : Ok P w K mg base 1 "rolled_row" ["row","by"] (pP K)) (bf : Ok P w K mg base 4 "rows_of" ["array","axis"] (dE K C)) (a4 : Ok P w K mg base 3 "array_of_rows" ["lengths","axis","rows"] (cr K C)) (aZ : Ok P w K mg base 1 "keep" ["slots","k","array"] (b6 C)) : Ok P w K mg base 5 "call_roll" ["slots","k","axis","by","i"] (p_ K C) := by
 refine D.ok sc_call_roll (fun _ _ _ _ h => by obtain ⟨_,_,_,_,_,_,rfl,_⟩ := h; rfl) (fun f cdv A outer s H vs Q E hr h => ?_); obtain ⟨l,t,kk,ax,i,z,rfl,S0,k0⟩ := h
 refine ⟨_,(ad (aH 5 sc_call_roll.nd (ap a7 hr (ab (pv 0) (ab (pv 1) (ab (az (ab (pv 4) ac)) (ab (pv 2) ac))))))
  (ad (aw (aF bB (pv 5) ai) (ae (ah (az (ab (pv 5) ac)))) ao)
  (ad (cU rfl sc_call_roll.nd (i := 6) rfl rfl (dN rfl rfl rfl (by decide +kernel)) (bD (ap bf hr (ab (au (pv 0) (pv 4)) (ab (pv 2) ac)))) (a_ (N := ["slots","k","axis","by","i","refusal","rows","row"]) (sc := aj gO) (own := [("row",7)]) (by decide +kernel)) (fun _ _ _ _ _ => (a0 7 sc_call_roll.nd)) (fun _ _ _ _ _ => bt) (fun _ _ _ _ _ => (ap lx hr (ab (pv 7) (ab (pv 3) ac)))))
  (ae (ah (ap aZ hr (ab (pv 0) (ab (pv 1) (ab (ap a4 hr (ab (aD (au (pv 0) (pv 4)) rfl) (ab (pv 2) (ab (pv 6) ac)))) ac))))))))),?_⟩
 refine ⟨_,rfl,_,rfl,_,rfl,bc,fun q hq => ?_⟩; have s0 : ak H (upd H q (.lst [.int i])) := ak.new hq; have hq1 : (upd H q (.lst [.int i])) q = some (.lst (vn [i])) := am; generalize upd H q (.lst [.int i]) = H1 at *; have S := S0.keep s0; have k := k0.same s0; refine ⟨_,rfl,l,q,t,kk,i,ax,[],rfl,S,ag.of hq1,_,rfl,rfl,_,rfl,?_⟩
 by_cases h0 : cA t kk i [] ax = 0
 ·refine br (congrArg V.int h0) ?_; obtain ⟨hk,hi,A',ea,hx,ef⟩ := oB h0; rw [Ay.step,ef] at k; obtain ⟨vs,x,g1,g2,hA,ho⟩ := aB.arr S hi ea; obtain ⟨dx,a1,b1,h1,h2,h3⟩ := id hA; have hs := (aG ho).1; obtain ⟨y1,y2,y3⟩ := Ma.aE (Ma.cn hs ax); refine ⟨_,rfl,_,rfl,l,vs,_,_,rfl,rfl,ag.of g1,g2,_,rfl,x,A',ax,rfl,hA,ho,hx,fun H2 u s2 hu hX => ?_⟩; obtain ⟨xs,q1,q2,q3⟩ := hX.src (K := K); rw [cw] at q2; refine ⟨u,rfl,⟨_,q1⟩,fun D hD => ?_⟩; refine pq (bX q1) (fun c => vi (yY z ((Ad.rowsBy ax A').getD c []))) hD (by rw [q2]; show _ <= 2 ^ 24; omega) ?_ bg ?_
  ·rintro c H3 v H4 hci sm ⟨rfl,hx1⟩ Q' kq; obtain ⟨p1,r0,rfl,e5,e6⟩ := q3 c _ hx1; obtain ⟨r1,rfl,e7,l1,l2,l3,_⟩ := dI ho hx e5; refine ⟨rfl,_,rfl,_,rfl,p1,r1,z,rfl,ag.of (sm _ _ e6),by omega,fun H5 q5 s5 n5 h5 => kq q5 H5 s5 n5 ?_⟩; rw [h5,bq e7]; rfl
  ·intro H3 ds sm f1 f2 f3; rw [q2] at f2; have s3 := s2.trans sm; refine ⟨_,rfl,_,rfl,_,rfl,_,rfl,l,vs,_,_,rfl,rfl,ag.of (s3 _ _ g1),g2,x,C,dx,_,_,rfl,s3 _ _ h1,T.cl,T.nL,aU a1 b1,_,rfl,_,rfl,a1,D,A'.shape,ax,_,fun p => V.int (A'.at_ (p.set ax (((p.getD ax 0 : Int) - z) % (Ad.along A'.shape ax : Int)).toNat)),rfl,s3 _ _ h2,hs,hx,dA.ofF f1 f2 f3,?_,fun H7 yy s7 hyy hA7 => ?_⟩
   ·intro p hp; refine ⟨_,dY (og hp) _,?_⟩; rw [bq (ib rfl hp hx)]; exact aaY hp hx z
   ·have s37 := s3.trans s7; exact ⟨l,yy,t,kk,Ad.rolled ax z A',rfl,hk,S.keep s37,j9 (h := fun p => A'.at_ (p.set ax (((p.getD ax 0 : Int) - z) % (Ad.along A'.shape ax : Int)).toNat)) hA7,eW hs fun p hp => fD ho (hp.put hx (yu hp hx z)),k.same s37⟩
 ·obtain ⟨n,h2,ef⟩ := tL h0; rw [Ay.step,ef] at k; refine bz (a5 h0) ?_; exact ⟨_,rfl,bc,aQ.no S (ak.refl H1) k h2⟩
theorem ab1 {A : Ad.Arr} {p : List Nat} {ax n : Nat} (hp : Ma.In (A.shape.set ax (Ad.along A.shape ax * n)) p) (hx : ax < A.shape.length) : (List.replicate n (vi (Ad.rowAt A ax p))).flatten[p.getD ax 0]? = some (V.int (A.at_ (p.set ax (p.getD ax 0 % Ad.along A.shape ax)))) := by
 have ha := (Ma.In.axis hp (by rw [List.length_set]; exact hx)).2; rw [Ma.mx hx] at ha
 have hpos : 0 < Ad.along A.shape ax := by
  rcases Nat.eq_zero_or_pos (Ad.along A.shape ax) with h | h
  ·rw [h,Nat.zero_mul] at ha; omega
  ·exact h
 rw [Ma.yP _ _ _ (by rw [aM,Ma.di,Nat.mul_comm]; exact ha),aM,Ma.di]; exact cB (Ma.oA (Nat.mod_lt _ hpos))
theorem acI {A : Ad.Arr} {p : List Nat} {ax n : Nat} (ho : A.ok = true) (hp : Ma.In (A.shape.set ax (Ad.along A.shape ax * n)) p) (hx : ax < A.shape.length) : Ma.In A.shape (p.set ax (p.getD ax 0 % Ad.along A.shape ax)) := by
 have h2 := (Ma.aE (aG ho).1).2.1 _ (List.mem_of_getElem? (bv hx)); have := Ma.In.set hp hx (m := Ad.along A.shape ax) (p.getD ax 0 % Ad.along A.shape ax) (Nat.mod_lt _ (by omega)); rw [Ma.fZ (bv hx)] at this; exact this
def ox (K : Fg) (C : Addr) : Sp := fun vs H Q _ => ∃ (l : Addr) (t : Ay.State) (kk ax n i : Nat),vs = [.ref l,.int kk,.int ax,.int n,.int i] /\ aB C H l t /\ aQ C H l (Ay.step t (.repeat_ kk ax n i)) Q
theorem sc_call_repeat : aq ["slots","k","axis","times","i","refusal","array","lengths","rows","row"] ["slots","k","axis","times","i"] (aj fr) := fs
theorem uJ (D : Df K mg "call_repeat" "call_repeat" fr ["slots","k","axis","times","i"]) (T : Txt K mg C) (a7 : Ok P w K mg base 4 "axis_refusal" ["slots","k","sources","axis"] (cD K C)) (cq : Ok P w K mg base 2 "with_length" ["lengths","axis","length"] (gm K)) (aW : Ok P w K mg base 2 "is_shape" ["lengths"] (cj K)) (bf : Ok P w K mg base 4 "rows_of" ["array","axis"] (dE K C)) (a4 : Ok P w K mg base 3 "array_of_rows" ["lengths","axis","rows"] (cr K C)) (aZ : Ok P w K mg base 1 "keep" ["slots","k","array"] (b6 C)) : Ok P w K mg base 5 "call_repeat" ["slots","k","axis","times","i"] (ox K C) := by
 refine D.ok sc_call_repeat (fun _ _ _ _ h => by obtain ⟨_,_,_,_,_,_,rfl,_⟩ := h; rfl) (fun f cdv A outer s H vs Q E hr h => ?_); obtain ⟨l,t,kk,ax,n,i,rfl,S0,k0⟩ := h
 refine ⟨_,(ad (aH 5 sc_call_repeat.nd (ap a7 hr (ab (pv 0) (ab (pv 1) (ab (az (ab (pv 4) ac)) (ab (pv 2) ac))))))
  (ad (aw (aF bB (pv 5) ai) (ae (ah (az (ab (pv 5) ac)))) ao)
  (ad (aw (PW.pt (dD (aF iZ (pv 3) ai) (dn (aF k_ (pv 3) (aO T.g_MOST_TIMES))))) (ae (ah (az (ab (aO T.g_WRONG) ac)))) ao)
  (ad (aH 6 sc_call_repeat.nd (au (pv 0) (pv 4)))
  (ad (aH 7 sc_call_repeat.nd (ap cq hr (ab (aD (pv 6) rfl) (ab (pv 2) (ab (aV dm (au (aD (pv 6) rfl) (pv 2)) (pv 3)) ac)))))
  (ad (aw (bx (bi (ap aW hr (ab (pv 7) ac)))) (ae (ah (az (ab (aO T.g_BEYOND) ac)))) ao)
  (ad (cU rfl sc_call_repeat.nd (i := 8) rfl rfl (dN rfl rfl rfl (by decide +kernel)) (bD (ap bf hr (ab (pv 6) (ab (pv 2) ac)))) (a_ (N := ["slots","k","axis","times","i","refusal","array","lengths","rows","row"]) (sc := aj fr) (own := [("row",9)]) (by decide +kernel)) (fun _ _ _ _ _ => (a0 9 sc_call_repeat.nd)) (fun _ _ _ _ _ => bt) (fun _ _ _ _ _ => (aV act (pv 9) (pv 3))))
  (ae (ah (ap aZ hr (ab (pv 0) (ab (pv 1) (ab (ap a4 hr (ab (pv 7) (ab (pv 2) (ab (pv 8) ac)))) ac))))))))))))),?_⟩
 refine ⟨_,rfl,_,rfl,_,rfl,bc,fun q hq => ?_⟩; have s0 : ak H (upd H q (.lst [.int i])) := ak.new hq; have hq1 : (upd H q (.lst [.int i])) q = some (.lst (vn [i])) := am; generalize upd H q (.lst [.int i]) = H1 at *; have S := S0.keep s0; have k := k0.same s0; refine ⟨_,rfl,l,q,t,kk,i,ax,[],rfl,S,ag.of hq1,_,rfl,rfl,_,rfl,?_⟩
 by_cases h0 : cA t kk i [] ax = 0
 ·refine br (congrArg V.int h0) ?_; obtain ⟨hk,hi,A',ea,hx,ef⟩ := oB h0; rw [Ay.step,ef] at k; obtain ⟨vs,x,g1,g2,hA,ho⟩ := aB.arr S hi ea; obtain ⟨dx,a1,b1,h1,h2,h3⟩ := id hA; have hs := (aG ho).1; obtain ⟨z1,z2,z3⟩ := Ma.aE hs; refine ⟨_,rfl,_,_,rfl,rfl,_,rfl,ba (fun h => ?_) (fun h => ?_)⟩
  ·have h4 := of_decide_eq_true h; rw [if_pos (.inl (by omega))] at k; exact ⟨bc,aQ.no S (ak.refl H1) k rfl⟩
  refine ⟨_,rfl,_,_,rfl,rfl,_,rfl,ba (fun h4 => ?_) (fun h4 => ?_)⟩
  ·have h5 := of_decide_eq_true h4; rw [if_pos (.inr (by show 1024 < n; omega))] at k; exact ⟨bc,aQ.no S (ak.refl H1) k rfl⟩
  simp at h h4; rw [if_neg (by show ¬ (n = 0 \/ 1024 < n); omega)] at k; refine ⟨_,rfl,_,rfl,l,vs,_,_,rfl,rfl,ag.of g1,g2,?_⟩; have hle := Ma.cg z2 _ (List.mem_of_getElem? (bv hx)); refine ⟨_,rfl,x,C,dx,_,_,rfl,h1,T.cl,T.nL,aU a1 b1,_,rfl,_,rfl,x,C,dx,_,_,rfl,h1,T.cl,T.nL,aU a1 b1,_,rfl,a1,_,_,_,rfl,rfl,ag.of h2,bE (dr (bv hx)),_,rfl,_,_,rfl,rfl,.inr ⟨by omega,by omega⟩,a1,vn A'.shape,ax,_,rfl,ag.of h2,by rw [aI]; omega,by rw [aI]; exact hx,fun H3 r s3 hr3 hr4 => ?_⟩
  have e2 : (vn A'.shape).set ax (V.int (((Ad.along A'.shape ax : Nat) : Int) * (n : Int))) = vn (A'.shape.set ax (Ad.along A'.shape ax * n)) := by
   rw [← ue,Int.natCast_mul]
  rw [e2] at hr4
  have hbd : ∀ m ∈ A'.shape.set ax (Ad.along A'.shape ax * n),m < 2 ^ 63 := fun m hm => by
   rcases List.mem_or_eq_of_mem_set hm with hm | hm
   ·exact ci hs m hm
   ·have := Nat.mul_le_mul (Nat.le_trans hle z3) (show n <= 1024 by omega); omega
  refine ⟨_,rfl,r,_,rfl,ag.of hr4,hbd,_,rfl,?_⟩
  cases e4 : Ad.shapeOk (A'.shape.set ax (Ad.along A'.shape ax * n)) with
  | false =>
   rw [if_pos e4] at k; exact ⟨bc,aQ.no S s3 k rfl⟩
  | true =>
   rw [if_neg (by rw [e4]; simp)] at k; have hjx : ax < (A'.shape.set ax (Ad.along A'.shape ax * n)).length := by rw [List.length_set]; exact hx
   have hra : Ad.removed A'.shape ax = Ad.removed (A'.shape.set ax (Ad.along A'.shape ax * n)) ax := (m4 _ _ _).symm; obtain ⟨y1,y2,y3⟩ := Ma.aE (Ma.cn hs ax); refine ⟨_,rfl,_,rfl,x,A',ax,rfl,hA.keep s3,ho,hx,fun H4 u s4 hu hX => ?_⟩; obtain ⟨xs,q1,q2,q3⟩ := hX.src (K := K); rw [cw] at q2; refine ⟨u,rfl,⟨_,q1⟩,fun D hD => ?_⟩; refine pq (bX q1) (fun c => (List.replicate n ((dv ax A').getD c [])).flatten) hD (by rw [q2]; show _ <= 2 ^ 24; omega) ?_ bg ?_
   ·rintro c H5 v H6 hci sm ⟨rfl,hx1⟩ Q' kq; obtain ⟨p1,r0,rfl,e5,e6⟩ := q3 c _ hx1; obtain ⟨r1,rfl,e7,l1,l2,l3,_⟩ := dI ho hx e5; have hmul := Nat.mul_le_mul l3 (show n <= 1024 by omega); refine ⟨rfl,_,rfl,_,rfl,p1,_,_,rfl,rfl,sm _ _ e6,by omega,by omega,?_,fun p hp => kq p _ (ak.new hp) hp ?_⟩
    ·rw [aM,Int.toNat_natCast]; show _ <= 2 ^ 24; omega
    ·rw [am,bq e5,Int.toNat_natCast]
   ·intro H5 ds sm f1 f2 f3; rw [q2,hra] at f2; have s45 := s4.trans sm; have s35 := s3.trans s45; refine ⟨_,rfl,_,rfl,_,rfl,_,rfl,_,rfl,r,D,A'.shape.set ax (Ad.along A'.shape ax * n),ax,_,fun p => V.int (A'.at_ (p.set ax (p.getD ax 0 % Ad.along A'.shape ax))),rfl,s45 _ _ hr4,e4,hjx,dA.ofF f1 f2 f3,?_,fun H7 yy s7 hyy hA7 => ?_⟩
    ·intro p hp; refine ⟨_,dY (og hp) _,?_⟩; rw [bq (oQ hra hp hjx)]; exact ab1 hp hx
    ·have s37 := s35.trans s7; exact ⟨l,yy,t,kk,Ad.repeated ax n A',rfl,hk,S.keep s37,j9 (h := fun p => A'.at_ (p.set ax (p.getD ax 0 % Ad.along A'.shape ax))) hA7,eW e4 fun p hp => fD ho (acI ho hp hx),k.same s37⟩
 ·obtain ⟨n,h2,ef⟩ := tL h0; rw [Ay.step,ef] at k; refine bz (a5 h0) ?_; exact ⟨_,rfl,bc,aQ.no S (ak.refl H1) k h2⟩
end
end Go

namespace Go
open PySem PySem.Spec PyProof.Rows L2
section
variable {P : Program} {w : World} {K : Fg} {mg : Str -> Option Value} {base : Heap} {C al : Addr}
theorem xC {z : Int} (h : Ad.cellFine z = true) : -1000000000000000 <= z /\ z <= 1000000000000000 := Ma.iz.mp h
def sj : Sp := fun vs H Q _ => ∃ (op : Nat) (x y : Int),vs = [.int op,.int x,.int y] /\ Ad.cellFine x = true /\ Ad.cellFine y = true /\ Q (ov (Ma.w_ op x y)) H
theorem xH : aq ["op","x","y"] ["op","x","y"] (aj kX) := fs
theorem xR (D : Df K mg "op_value" "op_value" kX ["op","x","y"]) (T : Txt K mg C) : Ok P w K mg base 1 "op_value" ["op","x","y"] (sj) := by
 refine D.ok xH (fun _ _ _ _ h => by obtain ⟨_,_,_,rfl,_⟩ := h; rfl) (fun f cdv A outer s H vs Q E hr h => ?_); obtain ⟨op,x,y,rfl,hx,hy,k⟩ := h
 refine ⟨_,(ad (aw (aF bC (pv 0) (aO T.g_SUM)) (ae (ah (aV cP (pv 1) (pv 2)))) ao)
  (ad (aw (aF bC (pv 0) (aO T.g_DIFFERENCE)) (ae (ah (aV jS (pv 1) (pv 2)))) ao)
  (ad (aw (aF bC (pv 0) (aO T.g_PRODUCT)) (ae (ah (aV dm (pv 1) (pv 2)))) ao)
  (ad (aw (aF bC (pv 0) (aO T.g_LEAST)) (ae (ah (bH (vj rfl) (by rfl) T.b_min zT (ab (pv 1) (ab (pv 2) ac))))) ao)
  (ad (aw (aF bC (pv 0) (aO T.g_MOST)) (ae (ah (bH (mF rfl) (by rfl) T.b_max tR (ab (pv 1) (ab (pv 2) ac))))) ao)
  (ad (aw (aF bC (pv 0) (aO T.g_QUOTIENT)) (ae (ah (fV (aF bC (pv 2) ai) cQ (aV wp (pv 1) (pv 2))))) ao)
  (ad (aw (aF bC (pv 0) (aO T.g_REST)) (ae (ah (fV (aF bC (pv 2) ai) cQ (aV jS (pv 1) (aV dm (pv 2) (aV wp (pv 1) (pv 2))))))) ao)
  (ad (aw (aF bC (pv 0) (aO T.g_BELOW)) (ae (ah (fV (aF iZ (pv 1) (pv 2)) ai ai))) ao)
  (ae (ah (fV (aF bC (pv 1) (pv 2)) ai ai))))))))))),?_⟩
 have hx := xC hx; have hy := xC hy; have no : ∀ {m : Nat},¬ decide (V.int (op : Int) = V.int (m : Int)) = true -> op ≠ m := fun {m} h e => h (by rw [e]; exact decide_eq_true rfl)
 have is : ∀ {m : Nat},decide (V.int (op : Int) = V.int (m : Int)) = true -> op = m := fun {m} h => by
  have := V.int.inj (of_decide_eq_true h); omega
 refine ⟨_,rfl,rfl,_,rfl,ba (fun h => ?_) (fun n0 => ?_)⟩
 ·cases is (m := 0) h; exact ⟨_,rfl,_,rfl,_,_,rfl,rfl,k⟩
 refine ⟨_,rfl,rfl,_,rfl,ba (fun h => ?_) (fun n1 => ?_)⟩
 ·cases is (m := 1) h; exact ⟨_,rfl,_,rfl,_,_,rfl,rfl,k⟩
 refine ⟨_,rfl,rfl,_,rfl,ba (fun h => ?_) (fun n2 => ?_)⟩
 ·cases is (m := 2) h; exact ⟨_,rfl,_,rfl,_,_,rfl,rfl,.inl ⟨by omega,by omega⟩,k⟩
 refine ⟨_,rfl,rfl,_,rfl,ba (fun h => ?_) (fun n3 => ?_)⟩
 ·cases is (m := 3) h; exact ⟨_,rfl,_,rfl,_,_,rfl,k⟩
 refine ⟨_,rfl,rfl,_,rfl,ba (fun h => ?_) (fun n4 => ?_)⟩
 ·cases is (m := 4) h; exact ⟨_,rfl,_,rfl,_,_,rfl,k⟩
 refine ⟨_,rfl,rfl,_,rfl,ba (fun h => ?_) (fun n5 => ?_)⟩
 ·cases is (m := 5) h; have e : Ma.w_ 5 x y = if y = 0 then none else some (Int.fdiv x y) := rfl
  rw [e] at k; refine ⟨_,rfl,rfl,_,rfl,ba (fun h => ?_) (fun h => ?_)⟩
  ·rw [if_pos (V.int.inj (of_decide_eq_true h))] at k; exact k
  ·have hy0 : ¬ y = 0 := fun e => h (by rw [e]; exact decide_eq_true rfl)
   rw [if_neg hy0] at k; exact ⟨_,rfl,_,rfl,_,_,rfl,rfl,⟨hy0,by omega⟩,k⟩
 refine ⟨_,rfl,rfl,_,rfl,ba (fun h => ?_) (fun n6 => ?_)⟩
 ·cases is (m := 6) h; have e : Ma.w_ 6 x y = if y = 0 then none else some (Int.fmod x y) := rfl
  rw [e] at k; refine ⟨_,rfl,rfl,_,rfl,ba (fun h => ?_) (fun h => ?_)⟩
  ·rw [if_pos (V.int.inj (of_decide_eq_true h))] at k; exact k
  ·have hy0 : ¬ y = 0 := fun e => h (by rw [e]; exact decide_eq_true rfl)
   rw [if_neg hy0] at k; have e2 : Int.fmod x y = x - y * Int.fdiv x y := Int.fmod_def x y; rw [e2] at k; exact ⟨_,rfl,_,rfl,_,rfl,_,rfl,_,_,rfl,rfl,⟨hy0,by omega⟩,_,_,rfl,rfl,.inl ⟨by omega,by omega⟩,_,_,rfl,rfl,k⟩
 refine ⟨_,rfl,rfl,_,rfl,ba (fun h => ?_) (fun n7 => ?_)⟩
 ·cases is (m := 7) h; have e : Ma.w_ 7 x y = some (if x < y then 1 else 0) := rfl; rw [e] at k; refine ⟨_,rfl,_,rfl,_,_,rfl,rfl,_,rfl,ba (fun h => ?_) (fun h => ?_)⟩
  ·rw [if_pos (of_decide_eq_true h)] at k; exact k
  ·rw [if_neg (fun z => h (decide_eq_true z))] at k; exact k
 have e : Ma.w_ op x y = some (if x = y then 1 else 0) := by
  have g0 := no (m := 0) n0; have g1 := no (m := 1) n1; have g2 := no (m := 2) n2; have g3 := no (m := 3) n3; have g4 := no (m := 4) n4; have g5 := no (m := 5) n5; have g6 := no (m := 6) n6; have g7 := no (m := 7) n7
  match op,g0,g1,g2,g3,g4,g5,g6,g7 with
  | 0,g,_,_,_,_,_,_,_ => exact absurd rfl g
  | 1,_,g,_,_,_,_,_,_ => exact absurd rfl g
  | 2,_,_,g,_,_,_,_,_ => exact absurd rfl g
  | 3,_,_,_,g,_,_,_,_ => exact absurd rfl g
  | 4,_,_,_,_,g,_,_,_ => exact absurd rfl g
  | 5,_,_,_,_,_,g,_,_ => exact absurd rfl g
  | 6,_,_,_,_,_,_,g,_ => exact absurd rfl g
  | 7,_,_,_,_,_,_,_,g => exact absurd rfl g
  | n + 8,_,_,_,_,_,_,_,_ => rfl
 rw [e] at k; refine ⟨_,rfl,_,rfl,rfl,_,rfl,ba (fun h => ?_) (fun h => ?_)⟩
 ·rw [if_pos (V.int.inj (of_decide_eq_true h))] at k; exact k
 ·rw [if_neg (fun z => h (by rw [z]; exact decide_eq_true rfl))] at k; exact k
def uh (o : Option Int) : Prop := ∀ z,o = some z -> Ad.cellFine z = true
def i0 : Sp := fun vs H Q _ => ∃ (op : Nat) (x y : Option Int),vs = [.int op,ov x,ov y] /\ uh x /\ uh y /\ Q (ov (Ma.fu op x y)) H
theorem sc_op_cell : aq ["op","x","y","value"] ["op","x","y"] (aj mK) := fs
theorem zn (D : Df K mg "op_cell" "op_cell" mK ["op","x","y"]) (T : Txt K mg C) (oK : Ok P w K mg base 1 "op_value" ["op","x","y"] (sj)) (bY : Ok P w K mg base 1 "is_cell" ["number"] (gz)) : Ok P w K mg base 2 "op_cell" ["op","x","y"] (i0) := by
 refine D.ok sc_op_cell (fun _ _ _ _ h => by obtain ⟨_,_,_,rfl,_⟩ := h; rfl) (fun f cdv A outer s H vs Q E hr h => ?_); obtain ⟨op,x,y,rfl,hx,hy,k⟩ := h
 refine ⟨_,(ad (aw (PW.pt (dD (d8 (eT (pv 1))) (dn (d8 (eT (pv 2)))))) (ae (ah cQ)) ao)
  (ad (aH 3 sc_op_cell.nd (ap oK hr (ab (pv 0) (ab (pv 1) (ab (pv 2) ac)))))
  (ad (aw (PW.pt (dD (d8 (eT (pv 3))) (dn (bx (bi (ap bY hr (ab (pv 3) ac))))))) (ae (ah cQ)) ao)
  (ae (ah (pv 3)))))),?_⟩
 cases x with
 | none => exact ⟨_,rfl,_,rfl,k⟩
 | some x =>
  cases y with
  | none => exact ⟨_,rfl,_,rfl,_,rfl,_,rfl,k⟩
  | some y =>
   refine ⟨_,rfl,_,rfl,_,rfl,_,rfl,?_⟩; refine ⟨_,rfl,_,rfl,_,rfl,op,x,y,rfl,hx x rfl,hy y rfl,?_⟩; have e : Ma.fu op (some x) (some y) = (Ma.w_ op x y).bind fun (r : Int) => if Ad.cellFine r = true then some r else none := rfl
   rw [e] at k
   cases ez : Ma.w_ op x y with
   | none =>
    rw [ez] at k; exact ⟨_,rfl,_,rfl,k⟩
   | some z =>
    rw [ez] at k; refine ⟨_,rfl,_,rfl,_,rfl,z,rfl,_,rfl,?_⟩; have k : Q (ov (if Ad.cellFine z = true then some z else none)) H := k
    cases ef : Ad.cellFine z with
    | true =>
     rw [if_pos ef] at k; exact ⟨_,rfl,k⟩
    | false =>
     rw [if_neg (by rw [ef]; simp)] at k; exact k
def jn (K : Fg) : Sp := fun vs H Q _ => ∃ (f : Nat) (a : Addr) (r : List Int),vs = [.int f,.ref a] /\ f <= 3 /\ ag K H a (vi r) /\ r ≠ [] /\ r.length <= 100000 /\ (∀ z ∈ r,Ad.cellFine z = true) /\ ∀ H' q,ak H H' -> H q = none -> H' q = some (.lst (vo (Ma.eI f r))) -> Q (.ref q) H'
theorem sc_scanned_row : aq ["f","row","folds","cell"] ["f","row"] (aj g_) := fs
theorem u5 (D : Df K mg "scanned_row" "scanned_row" g_ ["f","row"]) (T : Txt K mg C) (cv : Ok P w K mg base 2 "op_cell" ["op","x","y"] (i0)) : Ok P w K mg base 3 "scanned_row" ["f","row"] (jn K) := by
 refine D.ok sc_scanned_row (fun _ _ _ _ h => by obtain ⟨_,_,_,rfl,_⟩ := h; rfl) (fun f cdv A outer s H vs Q E hr h => ?_); obtain ⟨fo,a,r,rfl,hf,ha,hne,hl,hfine,k⟩ := h
 refine ⟨_,(ad (aH 2 sc_scanned_row.nd (az (ab (au (pv 1) ai) ac)))
  (ad (bS PassesOwn.never rfl (bD (fg gi (pv 1) (eP ai) ji)) (a0 3 sc_scanned_row.nd) (ae (cI (gw PySem.F.plainAttrs_list PySem.F.slot_list_append PySem.F.type_list_append dc (pv 2) (ab (ap cv hr (ab (rA t7 (abL T.t_FOLD_OPS rfl) (pv 0) (fun _ _ => rfl)) (ab (au (pv 2) (rG on ai)) (ab (pv 3) ac)))) ac)))))
  (ae (ah (pv 2))))),?_⟩
 have hpos : 0 < r.length := List.length_pos_iff.mpr hne; have h0 : r[0]? = some (r.getD 0 0) := mh hpos; refine ⟨_,rfl,a,_,_,_,rfl,rfl,ha,(bE (j := 0) (cB h0) : fm (vi r) 0 = _),bc,fun d hd => ?_⟩; have s1 : ak H (upd H d (.lst [.int (r.getD 0 0)])) := ak.new hd
 have hd1 : (upd H d (.lst [.int (r.getD 0 0)])) d = some (.lst (vo ((List.range (0 + 1)).map fun i => Ad.foldRow fo (r.take (i + 1))))) := by
  rw [am]
  have e : r.take 1 = [r.getD 0 0] := by
   rw [bU h0]; rfl
  show _ = some (HO.lst [ov (Ad.foldRow fo (r.take 1))]); rw [e]; rfl
 generalize upd H d (.lst [.int (r.getD 0 0)]) = H1 at *; refine ⟨_,rfl,_,rfl,a,_,rfl,s1.seq ha,fun q hq => ?_⟩
 have e : eJ (vi r) (some (1 : Int)) none = vi (r.drop 1) := by
  have := j2 (vi r) 1; rw [← ux]; exact this
 rw [e]; have s2 : ak H1 (upd H1 q (.lst (vi (r.drop 1)))) := ak.new hq; have hq2 : (upd H1 q (.lst (vi (r.drop 1)))) q = some (.lst (vi (r.drop 1))) := am; have hqd : q ≠ d := fun e => by rw [e,hd1] at hq; cases hq
 generalize upd H1 q (.lst (vi (r.drop 1))) = H2 at *
 refine ⟨q,rfl,⟨_,ag.of hq2⟩,d_ (K := K) (a := q) (xs := vi (r.drop 1)) (fun i σ H' => ∃ (v : Option V),σ = [some (.int fo),some (.ref a),some (.ref d),v] /\ H' d = some (.lst (vo ((List.range (i + 1)).map fun i => Ad.foldRow fo (r.take (i + 1))))) /\ H' q = some (.lst (vi (r.drop 1))) /\ ak H H')
  ⟨none,rfl,s2 _ _ hd1,hq2,s1.trans s2⟩ (fun i σ H' _ ⟨_,_,_,e,_⟩ => ag.of e) ?_ ?_⟩
 ·rintro i x σ H' hi ⟨v,rfl,hd',hq',sm⟩; obtain ⟨z,hz,rfl⟩ := dQ hi; rw [List.getElem?_drop] at hz; have hz2 : r[i + 1]? = some z := by rw [Nat.add_comm]; exact hz
  have hlt := (List.getElem?_eq_some_iff.mp hz2).1
  have hlast : fm (vo ((List.range (i + 1)).map fun i => Ad.foldRow fo (r.take (i + 1)))) (-1) = some (ov (Ad.foldRow fo (r.take (i + 1)))) := by
   rw [List.range_succ,List.map_append]; show fm (List.map ov (_ ++ _)) (-1) = _; rw [List.map_append]; exact aaX _ _
  refine ⟨_,rfl,.inl ⟨rfl,_,ag.of hd'⟩,fun fa hfa => ⟨_,rfl,fa,_,_,_,rfl,rfl,hfa H',bE (dr (l := [0,2,3,4]) (Ma.zj hf)),_,rfl,_,rfl,d,_,_,_,rfl,rfl,ag.of hd',hlast,_,rfl,Ad.foldOp fo,Ad.foldRow fo (r.take (i + 1)),some z,rfl,?_,?_,?_⟩⟩
  ·intro y hy; exact Ma.qe (fun u hu => hfine u (List.mem_of_mem_take hu)) hy
  ·intro y hy; cases hy; exact hfine z (List.mem_of_getElem? hz2)
  ·refine ⟨d,_,_,rfl,rfl,hd',(by rw [List.length_map,List.length_map,List.length_range]; show _ < 2 ^ 24; omega),_,rfl,?_,?_,sm.upd hd⟩
   ·rw [am,List.range_succ (n := i + 1),List.map_append]; show _ = some (HO.lst (List.map ov (_ ++ [Ad.foldRow fo (r.take (i + 1 + 1))]))); rw [List.map_append,bU hz2,Ma.aaz]
    ·rfl
    ·intro e; have := congrArg List.length e; rw [List.length_take,List.length_nil] at this; omega
   ·rw [aK hqd]; exact hq'
 ·rintro σ H' ⟨v,rfl,hd',hq',sm⟩; rw [aM,List.length_drop,show r.length - 1 + 1 = r.length by omega] at hd'; exact ⟨_,rfl,k H' d sm hd hd'⟩
def pD (K : Fg) : Sp := fun vs H Q _ => ∃ (f : Nat) (a : Addr) (r : List Int),vs = [.int f,.ref a] /\ f <= 3 /\ ag K H a (vi r) /\ r ≠ [] /\ r.length <= 100000 /\ (∀ z ∈ r,Ad.cellFine z = true) /\ ∀ H',ak H H' -> Q (ov (Ad.foldRow f r)) H'
theorem wd : aq ["f","row"] ["f","row"] (aj i4) := fs
theorem vS (D : Df K mg "folded_row" "folded_row" i4 ["f","row"]) (T : Txt K mg C) (dU : Ok P w K mg base 3 "scanned_row" ["f","row"] (jn K)) : Ok P w K mg base 4 "folded_row" ["f","row"] (pD K) := by
 refine D.ok wd (fun _ _ _ _ h => by obtain ⟨_,_,_,rfl,_⟩ := h; rfl) (fun f cdv A outer s H vs Q E hr h => ?_); obtain ⟨fo,a,r,rfl,hf,ha,hne,hl,hfine,k⟩ := h; refine ⟨_,(ae (ah (au (ap dU hr (ab (pv 0) (ab (pv 1) ac))) (rG on ai)))),?_⟩; have hpos : 0 < r.length := List.length_pos_iff.mpr hne; refine ⟨_,rfl,_,rfl,fo,a,r,rfl,hf,ha,hne,hl,hfine,fun H1 q s1 hq hq1 => ?_⟩; refine ⟨_,rfl,q,_,_,_,rfl,rfl,ag.of hq1,?_,k H1 s1⟩; unfold fm fT; rw [List.length_map,Ma.oJ,if_neg (by omega),if_pos (by omega)]; show (vo _)[((-1 : Int) + (r.length : Nat)).toNat]? = _; rw [show ((-1 : Int) + (r.length : Nat)).toNat = r.length - 1 by omega]; exact xy (Ma.aaE hne)
end
end Go

namespace Go
open PySem PySem.Spec PyProof.Rows L2
section
variable {P : Program} {w : World} {K : Fg} {mg : Str -> Option Value} {base : Heap} {C al : Addr}
def bW (C : Addr) : Sp := fun vs H Q _ => ∃ (l x : Addr) (t : Ay.State) (kk : Nat) (s : List Nat) (os : List (Option Int)),vs = [.ref l,.int kk,.ref x] /\ kk < 8 /\ aB C H l t /\ uN C H x s (vo os) /\ Ad.shapeOk s = true /\ os.length = Ad.product_ s /\ (∀ z,some z ∈ os -> Ad.cellFine z = true) /\ aQ C H l (Ay.came t kk ((Ad.allOf os).map fun (r : List Int) => (⟨s,r⟩ : Ad.Arr))) Q
theorem sI : aq ["slots","k","array"] ["slots","k","array"] (aj fJ) := fs
theorem tj (D : Df K mg "keep_reckoned" "keep_reckoned" fJ ["slots","k","array"]) (T : Txt K mg C) (aZ : Ok P w K mg base 1 "keep" ["slots","k","array"] (b6 C)) : Ok P w K mg base 2 "keep_reckoned" ["slots","k","array"] (bW C) := by
 refine D.ok sI (fun _ _ _ _ h => by obtain ⟨_,_,_,_,_,_,rfl,_⟩ := h; rfl) (fun f cdv A outer s H vs Q E hr h => ?_); obtain ⟨l,x,t,kk,sh,os,rfl,hk,S,⟨dx,a,b,h1,h2,h3⟩,hs,hl,hf,k⟩ := h
 refine ⟨_,(ad (aw (yr aaI cQ (aD (pv 2) rfl) rfl) (ae (ah (az (ab (aO T.g_BEYOND) ac)))) ao)
  (ae (ah (ap aZ hr (ab (pv 0) (ab (pv 1) (ab (pv 2) ac))))))),?_⟩
 refine ⟨_,rfl,x,C,dx,_,_,rfl,h1,T.cl,T.nC,cy a b,b,_,rfl,.inl (ag.of h3),rfl,acf os,_,rfl,?_⟩
 show if (yz .non (vo os)) = true then _ else _
 rw [ady]
 by_cases hn : none ∈ os
 ·refine dw hn ?_; rw [Ma.gx hn] at k; exact ⟨bc,aQ.no S (ak.refl H) k rfl⟩
 ·refine dG hn ?_; obtain ⟨r,hr2⟩ := Ma.mt hn; have e := Ma.allOf_map.mp hr2; rw [hr2] at k; have k : aQ C H l (if Ad.shapeOk sh = true then Ay.put t kk ⟨sh,r⟩ else (t,Ay.no 6)) Q := k; rw [if_pos hs] at k; rw [e,yB] at h3; refine ⟨_,rfl,_,rfl,_,rfl,l,x,t,kk,⟨sh,r⟩,rfl,hk,S,⟨dx,a,b,h1,h2,h3⟩,iH hs ?_ ?_,k⟩
  ·show r.length = _; rw [← hl,e,List.length_map]
  ·intro z hz; exact hf z (by rw [e]; exact List.mem_map.mpr ⟨z,hz,rfl⟩)
def j4 (K : Fg) : Sp := fun vs H Q _ => ∃ (a : Addr) (s : List Nat) (r : Nat),vs = [.ref a,.int r] /\ H a = some (.lst (vn s)) /\ s.length <= r /\ r <= 1000 /\ ∀ H' q,ak H H' -> H q = none -> H' q = some (.lst (vn (Ad.padded r s))) -> Q (.ref q) H'
theorem sc_with_ones_ahead : aq ["lengths","rank","axis"] ["lengths","rank"] (aj du) := fs
theorem re (D : Df K mg "with_ones_ahead" "with_ones_ahead" du ["lengths","rank"]) (T : Txt K mg C) : Ok P w K mg base 1 "with_ones_ahead" ["lengths","rank"] (j4 K) := by
 refine D.ok sc_with_ones_ahead (fun _ _ _ _ h => by obtain ⟨_,_,_,rfl,_⟩ := h; rfl) (fun f cdv A outer s H vs Q E hr h => ?_); obtain ⟨a,ns,r,rfl,ha,hl,hr1,k⟩ := h; refine ⟨_,(ae (ah (aV iR (dB rfl sc_with_ones_ahead.nd (d9 rfl T.b_range (ab (aV jS (pv 1) (bA T.b_len (pv 0))) ac)) (a_ (N := ["lengths","rank","axis"]) (sc := aj du) (own := [("axis",2)]) (by decide +kernel)) (fun _ _ _ _ _ => (a0 2 sc_with_ones_ahead.nd)) (fun _ _ _ _ _ => bt) (fun _ _ _ _ _ => ai)) (pv 0)))),?_⟩; have hvl := aI ns; refine ⟨_,rfl,_,rfl,a,_,rfl,.inl (ag.of ha),_,_,rfl,rfl,_,rfl,by omega,by omega,fun D hD => ?_⟩; refine cF (fX) (fun i => V.int 1) hD (by show _ <= 2 ^ 24; omega) ?_ bg ?_
 ·rintro i H1 v H2 hi sm ⟨rfl,rfl⟩ Q' kq; exact ⟨rfl,kq _ (ak.refl _)⟩
 ·intro H1 sm hd; refine ⟨_,rfl,D,a,_,_,rfl,rfl,hd,sm _ _ ha,(by rw [List.length_map,List.length_range]; show _ <= 2 ^ 24; omega),fun p hp => ?_⟩; refine k _ p (sm.upd (sm.free hp)) (sm.free hp) ?_; rw [am]; congr 2; unfold Ad.padded; rw [qT]; congr 1; rw [hvl,show ((r : Int) - (ns.length : Int)).toNat = r - ns.length by omega]; apply List.ext_getElem?; intro i
  by_cases hi : i < r - ns.length
  ·rw [dY hi]; refine (dr ?_).symm; rw [List.getElem?_replicate,if_pos hi]
  ·rw [List.getElem?_eq_none (by simp; omega),List.getElem?_eq_none (by simp; omega)]
def j1 (K : Fg) : Sp := fun vs H Q _ => ∃ (a b : Addr) (s g : List Nat),vs = [.ref a,.ref b] /\ H a = some (.lst (vn s)) /\ H b = some (.lst (vn g)) /\ Ad.shapeOk s = true /\ Ad.shapeOk g = true ∧
 (∀ H',ak H H' -> Ad.meet s g = none -> Q .non H') /\ ∀ H' q m,ak H H' -> H q = none -> Ad.meet s g = some m -> H' q = some (.lst (vn m)) -> Q (.ref q) H'
theorem sc_meeting_lengths : aq ["first","second","rank","met","one","other"] ["first","second"] (aj et) := fs
theorem qV (D : Df K mg "meeting_lengths" "meeting_lengths" et ["first","second"]) (T : Txt K mg C) (eu : Ok P w K mg base 1 "with_ones_ahead" ["lengths","rank"] (j4 K)) : Ok P w K mg base 2 "meeting_lengths" ["first","second"] (j1 K) := by
 refine D.ok sc_meeting_lengths (fun _ _ _ _ h => by obtain ⟨_,_,_,_,rfl,_⟩ := h; rfl) (fun f cdv A outer s H vs Q E hr h => ?_); obtain ⟨a,b,s1,g1,rfl,ha,hb,hs,hg,kn,ky⟩ := h
 refine ⟨_,(ad (aH 2 sc_meeting_lengths.nd (bH (mF rfl) (by rfl) T.b_max tR (ab (bA T.b_len (pv 0)) (ab (bA T.b_len (pv 1)) ac))))
  (ad (aH 3 sc_meeting_lengths.nd (az ac))
  (ad (bS PassesOwn.never rfl (fv rfl T.b_zip (ab (ap eu hr (ab (pv 0) (ab (pv 2) ac))) (ab (ap eu hr (ab (pv 1) (ab (pv 2) ac))) ac))) (gQ rfl (be (a0 4 sc_meeting_lengths.nd) (be (a0 5 sc_meeting_lengths.nd) cX))) (ad (aw (PW.pt (oq (aF bB (pv 4) (pv 5)) (oq (aF bB (pv 4) ai) (rD (aF bB (pv 5) ai))))) (ae (ah cQ)) ao)
  (ae (cI (gw PySem.F.plainAttrs_list PySem.F.slot_list_append PySem.F.type_list_append dc (pv 3) (ab (bH (mF rfl) (by rfl) T.b_max tR (ab (pv 4) (ab (pv 5) ac))) ac))))))
  (ae (ah (pv 3)))))),?_⟩
 obtain ⟨z1,z2,z3⟩ := Ma.aE hs; obtain ⟨y1,y2,y3⟩ := Ma.aE hg; refine ⟨_,rfl,a,_,rfl,.inl (ag.of ha),_,rfl,b,_,rfl,.inl (ag.of hb),_,_,rfl,?_⟩; rw [aI,aI]
 have er : (if (g1.length : Int) > (s1.length : Int) then (g1.length : Int) else (s1.length : Int)) = ((max s1.length g1.length : Nat) : Int) := by
  split <;> omega
 rw [er]; have hr4 : max s1.length g1.length <= 4 := by omega
 have l1 : s1.length <= max s1.length g1.length := Nat.le_max_left ..; have l2 : g1.length <= max s1.length g1.length := Nat.le_max_right ..; have em : Ad.meet s1 g1 = Ad.meetEach ((Ad.padded (max s1.length g1.length) s1).zip (Ad.padded (max s1.length g1.length) g1)) := rfl; rw [em] at kn ky; generalize max s1.length g1.length = r at *; have pl1 := Ma.d6 l1; have pl2 := Ma.d6 l2; have pp1 := Ma.tx (r := r) z2; have pp2 := Ma.tx (r := r) y2; refine ⟨Nat.zero_le _,fun d hd => ?_⟩; have t1 : ak H (upd H d (.lst [])) := ak.new hd; have hd1 : (upd H d (.lst [])) d = some (.lst []) := am; generalize upd H d (.lst []) = H1 at *; refine ⟨_,rfl,_,rfl,a,s1,r,rfl,t1 _ _ ha,l1,by omega,fun H2 u t2 hu hu2 => ?_⟩; refine ⟨_,rfl,_,rfl,b,g1,r,rfl,(t1.trans t2) _ _ hb,l2,by omega,fun H3 v t3 hv hv2 => ?_⟩; have t23 := t2.trans t3; have t13 := t1.trans t23; have hu3 := t3 _ _ hu2; have hd3 := t23 _ _ hd1; have hud : u ≠ d := fun e => by rw [e,hd1] at hu; cases hu
 have hvd : v ≠ d := fun e => by rw [e,t2 _ _ hd1] at hv; cases hv
 generalize Ad.padded r s1 = X1 at *; generalize Ad.padded r g1 = X2 at *; have hzl : (X1.zip X2).length = r := by rw [List.length_zip,pl1,pl2,Nat.min_self]
 refine ⟨u,v,_,_,rfl,ag.of hu3,ag.of hv2,iu (K := K) (a := u) (b := v) (xs := vn X1) (ys := vn X2)
  (fun i σ H' => ∃ (v1 v2 : Option V),σ = [some (.ref a),some (.ref b),some (.int (r : Int)),some (.ref d),v1,v2] /\ H' d = some (.lst (vn (((X1.zip X2).take i).map fun p => max p.1 p.2))) /\ (∀ p ∈ (X1.zip X2).take i,p.1 = p.2 \/ p.1 = 1 \/ p.2 = 1) /\ H' u = some (.lst (vn X1)) /\ H' v = some (.lst (vn X2)) /\ ak H H')
  ⟨none,none,rfl,hd3,(fun p hp => by simp at hp),hu3,hv2,t13⟩ (by rw [aI,aI,pl1,pl2]) (fun i σ H' _ ⟨_,_,_,_,_,e1,e2,_⟩ => ⟨ag.of e1,ag.of e2⟩) ?_ ?_⟩
 ·rintro i x y σ H' TT hx0 hy0 hT ⟨v1,v2,rfl,hd',hok,hu',hv',sm⟩; obtain ⟨x,hx,rfl⟩ := cO hx0; obtain ⟨y,hy,rfl⟩ := cO hy0; have hz : (X1.zip X2)[i]? = some (x,y) := List.getElem?_zip_eq_some.mpr ⟨hx,hy⟩; have hi : i < r := by rw [← hzl]; exact (List.getElem?_eq_some_iff.mp hz).1
  have sT : ak H' (upd H' TT (.tup [.int x,.int y])) := ak.new hT; have hx1 := pp1 x (List.mem_of_getElem? hx); have hy1 := pp2 y (List.mem_of_getElem? hy)
  have nxt : (x = y \/ x = 1 \/ y = 1) -> ∀ p ∈ (X1.zip X2).take (i + 1),p.1 = p.2 \/ p.1 = 1 \/ p.2 = 1 := fun hxy p hp => by
   rw [bU hz] at hp
   rcases List.mem_append.mp hp with q | q
   ·exact hok p q
   ·have e : p = (x,y) := by simpa using q
    rw [e]; exact hxy
  have fin : (x = y \/ x = 1 \/ y = 1) -> ∀ D : kG,(∀ (H2 : Hp) (v1 v2 : Option V),H2 d = some (.lst (vn (((X1.zip X2).take (i + 1)).map fun p => max p.1 p.2))) -> H2 u = some (.lst (vn X1)) -> H2 v = some (.lst (vn X2)) -> ak H H2 -> D.nx [some (.ref a),some (.ref b),some (.int (r : Int)),some (.ref d),v1,v2] H2) →
    D.nx [some (.ref a),some (.ref b),some (.int (r : Int)),some (.ref d),some (.int x),some (.int y)] (upd (upd H' TT (.tup [.int x,.int y])) d (.lst (vn (((X1.zip X2).take i).map fun p => max p.1 p.2) ++ [.int (if (y : Int) > (x : Int) then (y : Int) else (x : Int))]))) := fun hxy D hD => by
   refine hD _ _ _ ?_ ?_ ?_ ((sm.trans sT).upd hd)
   ·rw [am,bU hz,List.map_append,qT]; congr 3; show [V.int _] = [V.int ((max x y : Nat) : Int)]; congr 2
    split <;> omega
   ·rw [aK hud]; exact sT _ _ hu'
   ·rw [aK hvd]; exact sT _ _ hv'
  have hlen : (vn (((X1.zip X2).take i).map fun p => max p.1 p.2)).length < 2 ^ 24 := by
   rw [aI,List.length_map,List.length_take]; omega
  refine ⟨TT,_,rfl,cG.of am,rfl,_,_,rfl,_,_,rfl,rfl,_,rfl,_,rfl,rfl,_,rfl,?_⟩
  by_cases hxy : x = y
  ·refine br (by rw [hxy]) ?_; refine ⟨_,rfl,.inl ⟨rfl,_,ag.of (sT _ _ hd')⟩,_,rfl,_,rfl,_,_,rfl,d,_,_,rfl,rfl,sT _ _ hd',hlen,fin (.inl hxy) _ fun H2 v1 v2 w1 w2 w3 w4 => ⟨v1,v2,rfl,w1,nxt (.inl hxy),w2,w3,w4⟩⟩
  refine bz (a5 (by omega)) ?_; refine ⟨_,rfl,rfl,_,rfl,?_⟩
  by_cases hx1' : x = 1
  ·refine br (by rw [hx1']; rfl) ?_; refine ⟨_,rfl,.inl ⟨rfl,_,ag.of (sT _ _ hd')⟩,_,rfl,_,rfl,_,_,rfl,d,_,_,rfl,rfl,sT _ _ hd',hlen,fin (.inr (.inl hx1')) _ fun H2 v1 v2 w1 w2 w3 w4 => ⟨v1,v2,rfl,w1,nxt (.inr (.inl hx1')),w2,w3,w4⟩⟩
  refine bz (a5 (by omega)) ?_; refine ⟨_,rfl,rfl,_,rfl,?_⟩
  by_cases hy1' : y = 1
  ·refine br (by rw [hy1']; rfl) ?_; refine ⟨_,rfl,.inl ⟨rfl,_,ag.of (sT _ _ hd')⟩,_,rfl,_,rfl,_,_,rfl,d,_,_,rfl,rfl,sT _ _ hd',hlen,fin (.inr (.inr hy1')) _ fun H2 v1 v2 w1 w2 w3 w4 => ⟨v1,v2,rfl,w1,nxt (.inr (.inr hy1')),w2,w3,w4⟩⟩
  refine bz (a5 (by omega)) ?_; exact kn _ (sm.trans sT) (Ma.pJ (List.mem_of_getElem? hz) hxy hx1' hy1')
 ·rintro σ H' ⟨v1,v2,rfl,hd',hok,hu',hv',sm⟩; rw [aI,pl1,← hzl,List.take_length] at hd' hok; refine ⟨_,rfl,ky H' d _ sm hd (Ma.sx (fun p hp => ?_) hok) hd'⟩; exact ⟨pp1 _ (List.of_mem_zip hp).1,pp2 _ (List.of_mem_zip hp).2⟩
end
end Go

namespace Go
open PySem PySem.Spec PyProof.Rows L2
section
variable {P : Program} {w : World} {K : Fg} {mg : Str -> Option Value} {base : Heap} {C al : Addr}
theorem mw {A : Ad.Arr} {s : List Nat} (ho : A.ok = true) (hs : Ad.shapeOk s = true) (hsp : Ad.spreads A.shape s = true) : (Ad.spreadTo A s).ok = true := eW hs fun p hp => fD ho (Ma.nZ hsp hp)
def wl (op : Nat) (s : List Nat) (A B : Ad.Arr) : List (Option Int) := ((Ad.spreadTo A s).cells.zip (Ad.spreadTo B s).cells).map fun (z : Int × Int) => Ad.opOf op z.1 z.2
theorem mz {l : List Int} (h : ∀ z ∈ l,Ad.cellFine z = true) {i : Nat} {z : Int} (e : l[i]? = some z) : uh (some z) := fun y hy => by
 cases hy; exact h z (List.mem_of_getElem? e)
def kR (K : Fg) (C : Addr) : Sp := fun vs H Q _ => ∃ (op : Nat) (x y b : Addr) (A B : Ad.Arr) (s : List Nat),vs = [.int op,.ref x,.ref y,.ref b] /\ b_ C H x A /\ b_ C H y B /\ A.ok = true /\ B.ok = true /\ H b = some (.lst (vn s)) /\ Ad.shapeOk s = true /\ Ad.spreads A.shape s = true /\ Ad.spreads B.shape s = true ∧
 ∀ H' z,ak H H' -> H z = none -> uN C H' z s (vo (wl op s A B)) -> Q (.ref z) H'
theorem sc_reckoned_array : aq ["op","first","second","lengths","ahead","behind","x","y"] ["op","first","second","lengths"] (aj dO) := fs
theorem rY (D : Df K mg "reckoned_array" "reckoned_array" dO ["op","first","second","lengths"]) (T : Txt K mg C) (cV : Ok P w K mg base 3 "spread_array" ["array","lengths"] (iU K C)) (cv : Ok P w K mg base 2 "op_cell" ["op","x","y"] (i0)) (aS : dS P w K mg base 1 "Array" C ["self","lengths","cells"] (bP C)) : Ok P w K mg base 4 "reckoned_array" ["op","first","second","lengths"] (kR K C) := by
 refine D.ok sc_reckoned_array (fun _ _ _ _ h => by obtain ⟨_,_,_,_,_,_,_,rfl,_⟩ := h; rfl) (fun f cdv A outer s H vs Q E hr h => ?_); obtain ⟨op,x,y,b,A',B',s1,rfl,hA,hB,ho,ho',hb,hs,hsp,hsp',k⟩ := h
 refine ⟨_,(ad (aH 4 sc_reckoned_array.nd (aD (ap cV hr (ab (pv 1) (ab (pv 3) ac))) rfl))
  (ad (aH 5 sc_reckoned_array.nd (aD (ap cV hr (ab (pv 2) (ab (pv 3) ac))) rfl))
  (ae (ah (d5 aS hr (ab (pv 3) (ab (dB rfl sc_reckoned_array.nd (fv rfl T.b_zip (ab (pv 4) (ab (pv 5) ac))) (a_ (N := ["op","first","second","lengths","ahead","behind","x","y"]) (sc := aj dO) (own := [("x",6),("y",7)]) (by decide +kernel)) (fun _ _ _ _ _ => (lj K rfl (n := 2) rfl (be (a0 6 sc_reckoned_array.nd) (be (a0 7 sc_reckoned_array.nd) cX)))) (fun _ _ _ _ _ => bt) (fun _ _ _ _ _ => (ap cv hr (ab (pv 0) (ab (pv 6) (ab (pv 7) ac)))))) ac))))))),?_⟩
 obtain ⟨z1,z2,z3⟩ := Ma.aE hs; refine ⟨_,rfl,_,rfl,x,b,A',s1,rfl,hA,ho,hb,hs,hsp,fun H1 u t1 hu hA1 => ?_⟩; obtain ⟨dx,a1,b1,h1,h2,h3⟩ := id hA1; refine ⟨u,C,dx,_,_,rfl,h1,T.cl,T.nC,cy a1 b1,?_⟩; refine ⟨_,rfl,_,rfl,y,b,B',s1,rfl,hB.keep t1,ho',t1 _ _ hb,hs,hsp',fun H2 v t2 hv hA2 => ?_⟩; obtain ⟨dy,a2,b2,h1',h2',h3'⟩ := id hA2; refine ⟨v,C,dy,_,_,rfl,h1',T.cl,T.nC,cy a2 b2,?_⟩; have hx3 := t2 _ _ h3; have o1 := mw ho hs hsp; have o2 := mw ho' hs hsp'; have l1 : (Ad.spreadTo A' s1).cells.length = Ad.product_ s1 := (aG o1).2.1; have l2 : (Ad.spreadTo B' s1).cells.length = Ad.product_ s1 := (aG o2).2.1; have f1 := (aG o1).2.2; have f2 := (aG o2).2.2; have ebo : wl op s1 A' B' = ((Ad.spreadTo A' s1).cells.zip (Ad.spreadTo B' s1).cells).map fun (z : Int × Int) => Ad.opOf op z.1 z.2 := rfl
 rw [ebo] at k; generalize (Ad.spreadTo A' s1).cells = xs at *; generalize (Ad.spreadTo B' s1).cells = ys at *; have t12 := t1.trans t2; refine ⟨_,rfl,_,rfl,_,rfl,b1,b2,_,_,rfl,ag.of hx3,ag.of h3',fun D hD => ?_⟩; refine cF (rq (ag.of hx3) (ag.of h3') (by rw [aM,aM,l1,l2])) (fun i => ov (Ad.opOf op (xs.getD i 0) (ys.getD i 0))) hD (by rw [aM]; show _ <= 2 ^ 24; omega) ?_ jZ ?_
 ·rintro i H3 v H4 hi sm ⟨TT,x0,y0,rfl,hT,rfl,hx0,hy0⟩ Q' kq; obtain ⟨x1,hx1,rfl⟩ := dQ hx0; obtain ⟨y1,hy1,rfl⟩ := dQ hy0; refine ⟨TT,_,rfl,cG.of am,rfl,_,_,rfl,_,_,rfl,rfl,rfl,_,rfl,_,rfl,_,rfl,op,some x1,some y1,rfl,mz f1 hx1,mz f2 hy1,?_⟩; have kq2 := kq (upd H3 TT (.tup [.int x1,.int y1])) (ak.new hT); rw [bq hx1,bq hy1] at kq2; exact kq2
 ·intro H3 sm hd
  have e : (List.range (vi xs).length).map (fun i => ov (Ad.opOf op (xs.getD i 0) (ys.getD i 0))) = vo ((xs.zip ys).map fun (z : Int × Int) => Ad.opOf op z.1 z.2) := by
   rw [aM]; show _ = List.map ov (List.map _ _); rw [List.map_map]; exact Ma.wV (fun a b => ov (Ad.opOf op a b)) 0 0 (by rw [l1,l2])
  rw [e] at hd; have t13 := t12.trans sm; exact jX (Q := Q) (t13 _ _ hb) hd fun z H4 hz t4 hA4 => k H4 z (t13.trans t4) (t13.free hz) hA4
def jJ (t : Ay.State) (k f ax i : Nat) : Int := if cA t k i [] ax = 0 then (if 4 <= f then -1 else 0) else cA t k i [] ax
def iN (C : Addr) : Sp := fun vs H Q _ => ∃ (l : Addr) (t : Ay.State) (kk f ax i : Nat),vs = [.ref l,.int kk,.int f,.int ax,.int i] /\ aB C H l t /\ ∀ H',ak H H' -> Q (.int (jJ t kk f ax i)) H'
theorem sc_fold_refusal : aq ["slots","k","f","axis","i","refusal"] ["slots","k","f","axis","i"] (aj gn) := fs
theorem tE (D : Df K mg "fold_refusal" "fold_refusal" gn ["slots","k","f","axis","i"]) (T : Txt K mg C) (a7 : Ok P w K mg base 4 "axis_refusal" ["slots","k","sources","axis"] (cD K C)) : Ok P w K mg base 5 "fold_refusal" ["slots","k","f","axis","i"] (iN C) := by
 refine D.ok sc_fold_refusal (fun _ _ _ _ h => by obtain ⟨_,_,_,_,_,_,rfl,_⟩ := h; rfl) (fun f cdv A outer s H vs Q E hr h => ?_); obtain ⟨l,t,kk,fo,ax,i,rfl,S0,k⟩ := h
 refine ⟨_,(ad (aH 5 sc_fold_refusal.nd (ap a7 hr (ab (pv 0) (ab (pv 1) (ab (az (ab (pv 4) ac)) (ab (pv 3) ac))))))
  (ad (aw (aF bB (pv 5) ai) (ae (ah (pv 5))) ao)
  (ad (aw (aF mE (pv 2) (bA T.b_len (abL T.t_FOLD_OPS rfl))) (ae (ah (aO T.g_WRONG))) ao)
  (ae (ah ai))))),?_⟩
 refine ⟨_,rfl,_,rfl,_,rfl,bc,fun q hq => ?_⟩; have s0 : ak H (upd H q (.lst [.int i])) := ak.new hq; have hq1 : (upd H q (.lst [.int i])) q = some (.lst (vn [i])) := am; generalize upd H q (.lst [.int i]) = H1 at *; refine ⟨_,rfl,l,q,t,kk,i,ax,[],rfl,S0.keep s0,ag.of hq1,_,rfl,rfl,_,rfl,?_⟩; have k := k _ s0
 by_cases h0 : cA t kk i [] ax = 0
 ·refine br (congrArg V.int h0) ?_; rw [jJ,if_pos h0] at k; refine ⟨_,rfl,fun fa hfa => ⟨fa,_,rfl,.inr (hfa H1),_,_,rfl,rfl,_,rfl,ba (fun h => ?_) (fun h => ?_)⟩⟩
  ·have h4 : (4 : Int) <= (fo : Int) := of_decide_eq_true h; rw [if_pos (by omega)] at k; exact k
  ·have h4 : ¬ (4 : Int) <= (fo : Int) := fun z => h (decide_eq_true z)
   rw [if_neg (by omega)] at k; exact k
 ·rw [jJ,if_neg h0] at k; refine bz (a5 h0) ?_; exact ⟨_,rfl,k⟩
theorem aaA {t : Ay.State} {k fo i ax : Nat} (h : jJ t k fo ax i = 0) : fo <= 3 /\ k < 8 /\ i < 8 /\ ∃ A,t.getD i none = some A /\ ax < A.shape.length /\ ∀ f : Ad.Arr -> Ay.State × Ay.Answer,Ay.into t k (Ay.ofSlot t i fun a => Ay.ofAxis t ax a (if 3 < fo then (t,Ay.no 1) else f a)) = f A := by
 unfold jJ at h
 by_cases h0 : cA t k i [] ax = 0
 ·rw [if_pos h0] at h; obtain ⟨hk,hi,A,ea,hx,ef⟩ := oB h0
  by_cases hf : 4 <= fo
  ·rw [if_pos hf] at h; cases h
  ·refine ⟨by omega,hk,hi,A,ea,hx,fun f => ?_⟩; rw [ef,if_neg (by omega)]
 ·rw [if_neg h0] at h; exact absurd h h0
theorem abK {t : Ay.State} {k fo i ax : Nat} (h : ¬ jJ t k fo ax i = 0) : ∃ n : Nat,jJ t k fo ax i = -(n : Int) /\ ∀ f : Ad.Arr -> Ay.State × Ay.Answer,Ay.into t k (Ay.ofSlot t i fun a => Ay.ofAxis t ax a (if 3 < fo then (t,Ay.no 1) else f a)) = (t,Ay.no n) := by
 unfold jJ at h ⊢
 by_cases h0 : cA t k i [] ax = 0
 ·rw [if_pos h0] at h ⊢; obtain ⟨hk,hi,A,ea,hx,ef⟩ := oB h0
  by_cases hf : 4 <= fo
  ·rw [if_pos hf]; refine ⟨1,rfl,fun f => ?_⟩; rw [ef,if_pos (by omega)]
  ·rw [if_neg hf] at h; exact absurd rfl h
 ·rw [if_neg h0]; obtain ⟨n,e,ef⟩ := tL h0; exact ⟨n,e,fun f => ef _⟩
def qk (K : Fg) (C : Addr) : Sp := fun vs H Q _ => ∃ (l : Addr) (t : Ay.State) (kk op i j : Nat),vs = [.ref l,.int kk,.int op,.int i,.int j] /\ aB C H l t /\ aQ C H l (Ay.step t (.both kk op i j)) Q
theorem sc_call_both : aq ["slots","k","op","i","j","refusal","lengths"] ["slots","k","op","i","j"] (aj jG) := fs
theorem xm (D : Df K mg "call_both" "call_both" jG ["slots","k","op","i","j"]) (T : Txt K mg C) (aR : Ok P w K mg base 3 "slots_refusal" ["slots","k","sources"] (bV K C)) (gD : Ok P w K mg base 2 "meeting_lengths" ["first","second"] (j1 K)) (aW : Ok P w K mg base 2 "is_shape" ["lengths"] (cj K)) (ii : Ok P w K mg base 4 "reckoned_array" ["op","first","second","lengths"] (kR K C)) (bh : Ok P w K mg base 2 "keep_reckoned" ["slots","k","array"] (bW C)) : Ok P w K mg base 5 "call_both" ["slots","k","op","i","j"] (qk K C) := by
 refine D.ok sc_call_both (fun _ _ _ _ h => by obtain ⟨_,_,_,_,_,_,rfl,_⟩ := h; rfl) (fun f cdv A outer s H vs Q E hr h => ?_); obtain ⟨l,t,kk,op,i,j,rfl,S0,k0⟩ := h
 refine ⟨_,(ad (aH 5 sc_call_both.nd (ap aR hr (ab (pv 0) (ab (pv 1) (ab (az (ab (pv 3) (ab (pv 4) ac))) ac)))))
  (ad (aw (aF bB (pv 5) ai) (ae (ah (az (ab (pv 5) ac)))) ao)
  (ad (aw (aF k_ (pv 2) (aO T.g_GREATEST_OP)) (ae (ah (az (ab (aO T.g_WRONG) ac)))) ao)
  (ad (aH 6 sc_call_both.nd (ap gD hr (ab (aD (au (pv 0) (pv 3)) rfl) (ab (aD (au (pv 0) (pv 4)) rfl) ac))))
  (ad (aw (d8 (eT (pv 6))) (ae (ah (az (ab (aO T.g_UNLIKE) ac)))) ao)
  (ad (aw (bx (bi (ap aW hr (ab (pv 6) ac)))) (ae (ah (az (ab (aO T.g_BEYOND) ac)))) ao)
  (ae (ah (ap bh hr (ab (pv 0) (ab (pv 1) (ab (ap ii hr (ab (pv 2) (ab (au (pv 0) (pv 3)) (ab (au (pv 0) (pv 4)) (ab (pv 6) ac))))) ac)))))))))))),?_⟩
 refine ⟨_,rfl,_,rfl,_,rfl,_,rfl,lR,fun q hq => ?_⟩; have s0 : ak H (upd H q (.lst [.int i,.int j])) := ak.new hq; have hq1 : (upd H q (.lst [.int i,.int j])) q = some (.lst (vn [i,j])) := am; generalize upd H q (.lst [.int i,.int j]) = H1 at *; have S := S0.keep s0; have k := k0.same s0; refine ⟨l,q,t,kk,[i,j],rfl,S,ag.of hq1,_,rfl,rfl,_,rfl,?_⟩
 by_cases h0 : bK t kk [i,j] = 0
 ·refine br (congrArg V.int h0) ?_; obtain ⟨hk,hi,hj,A',B',ea,eb,ef⟩ := ow h0; rw [Ay.step,ef] at k; obtain ⟨vs,x,g1,g2,hA,ho⟩ := aB.arr S hi ea; obtain ⟨dx,a1,b1,h1,h2,h3⟩ := id hA; obtain ⟨vs',y,g1',g2',hB,ho'⟩ := aB.arr S hj eb; obtain ⟨dy,a2,b2,h1',h2',h3'⟩ := id hB; refine ⟨_,rfl,_,_,rfl,rfl,_,rfl,ba (fun h => ?_) (fun h => ?_)⟩
  ·have h4 : (8 : Int) < (op : Int) := of_decide_eq_true h; rw [if_pos (by omega)] at k; exact ⟨bc,aQ.no S (ak.refl H1) k rfl⟩
  have h4 : ¬ (8 : Int) < (op : Int) := fun z => h (decide_eq_true z)
  rw [if_neg (by omega)] at k; refine ⟨_,rfl,_,rfl,l,vs,_,_,rfl,rfl,ag.of g1,g2,x,C,dx,_,_,rfl,h1,T.cl,T.nL,aU a1 b1,_,rfl,_,rfl,l,vs',_,_,rfl,rfl,ag.of g1',g2',y,C,dy,_,_,rfl,h1',T.cl,T.nL,aU a2 b2,a1,a2,A'.shape,B'.shape,rfl,h2,h2',(aG ho).1,(aG ho').1,?_,?_⟩
  ·intro H2 t2 em; rw [em] at k; exact ⟨_,rfl,_,rfl,bc,aQ.no S t2 k rfl⟩
  ·intro H2 u m t2 hu em hum; rw [em] at k; have k : aQ C H1 l (if Ad.shapeOk m = false then (t,Ay.no 6) else Ay.came t kk (Ad.both op m A' B')) Q := k; obtain ⟨p1,p2⟩ := Ma.wz em
   have hbd : ∀ n ∈ m,n < 2 ^ 63 := fun n hn => by
    obtain ⟨c,hc,e⟩ := List.getElem_of_mem hn; have hlm := Ma.l8 em; have hz : ((Ad.padded (max A'.shape.length B'.shape.length) A'.shape).zip (Ad.padded (max A'.shape.length B'.shape.length) B'.shape))[c]? = some _ := List.getElem?_eq_getElem (by omega); have h5 := Ma.iG em (i := c) (x := _) (y := _) (z := n) hz (by rw [List.getElem?_eq_getElem hc,e]); have hmem := List.mem_of_getElem? hz; have m1 := (List.of_mem_zip hmem).1; have m2 := (List.of_mem_zip hmem).2
    have small : ∀ {s : List Nat} {r z : Nat},Ad.shapeOk s = true -> z ∈ Ad.padded r s -> z < 2 ^ 63 := fun {s r z} hs hz => by
     unfold Ad.padded at hz
     rcases List.mem_append.mp hz with q | q
     ·rw [(List.mem_replicate.mp q).2]; decide
     ·exact ci hs z q
    rcases h5.2.2 with e | e
    ·rw [e]; exact small (aG ho).1 m1
    ·rw [e]; exact small (aG ho').1 m2
   refine ⟨_,rfl,_,rfl,_,rfl,u,m,rfl,ag.of hum,hbd,_,rfl,?_⟩
   cases e4 : Ad.shapeOk m with
   | false =>
    rw [if_pos e4] at k; exact ⟨bc,aQ.no S t2 k rfl⟩
   | true =>
    rw [if_neg (by rw [e4]; simp)] at k; refine ⟨_,rfl,_,rfl,_,rfl,_,rfl,_,rfl,l,vs,_,_,rfl,rfl,ag.of (t2 _ _ g1),g2,_,rfl,_,rfl,l,vs',_,_,rfl,rfl,ag.of (t2 _ _ g1'),g2',_,rfl,op,x,y,u,A',B',m,rfl,hA.keep t2,hB.keep t2,ho,ho',hum,e4,p1,p2,fun H3 z t3 hz hA3 => ?_⟩; have t13 := t2.trans t3; refine ⟨l,z,t,kk,m,wl op m A' B',rfl,hk,S.keep t13,hA3,e4,?_,?_,k.same t13⟩
    ·unfold wl; rw [List.length_map,List.length_zip,(aG (mw ho e4 p1)).2.1,(aG (mw ho' e4 p2)).2.1]; exact Nat.min_self _
    ·intro w hw; obtain ⟨zz,_,e⟩ := List.mem_map.mp hw; exact Ma.uM e
 ·obtain ⟨n,h2,ef⟩ := tU h0; rw [Ay.step,ef] at k; refine bz (a5 h0) ?_; exact ⟨_,rfl,bc,aQ.no S (ak.refl H1) k h2⟩
def qH (K : Fg) (C : Addr) : Sp := fun vs H Q _ => ∃ (l : Addr) (t : Ay.State) (kk fo ax i : Nat),vs = [.ref l,.int kk,.int fo,.int ax,.int i] /\ aB C H l t /\ aQ C H l (Ay.step t (.fold kk fo ax i)) Q
theorem sc_call_fold : aq ["slots","k","f","axis","i","refusal","folds","row"] ["slots","k","f","axis","i"] (aj gL) := fs
theorem xD (D : Df K mg "call_fold" "call_fold" gL ["slots","k","f","axis","i"]) (T : Txt K mg C) (dJ : Ok P w K mg base 5 "fold_refusal" ["slots","k","f","axis","i"] (iN C)) (bf : Ok P w K mg base 4 "rows_of" ["array","axis"] (dE K C)) (mi : Ok P w K mg base 4 "folded_row" ["f","row"] (pD K)) (bd : Ok P w K mg base 1 "without_axis" ["numbers","axis"] (dg K)) (bh : Ok P w K mg base 2 "keep_reckoned" ["slots","k","array"] (bW C)) (aS : dS P w K mg base 1 "Array" C ["self","lengths","cells"] (bP C)) : Ok P w K mg base 6 "call_fold" ["slots","k","f","axis","i"] (qH K C) := by
 refine D.ok sc_call_fold (fun _ _ _ _ h => by obtain ⟨_,_,_,_,_,_,rfl,_⟩ := h; rfl) (fun f cdv A outer s H vs Q E hr h => ?_); obtain ⟨l,t,kk,fo,ax,i,rfl,S0,k0⟩ := h
 refine ⟨_,(ad (aH 5 sc_call_fold.nd (ap dJ hr (ab (pv 0) (ab (pv 1) (ab (pv 2) (ab (pv 3) (ab (pv 4) ac)))))))
  (ad (aw (aF bB (pv 5) ai) (ae (ah (az (ab (pv 5) ac)))) ao)
  (ad (cU rfl sc_call_fold.nd (i := 6) rfl rfl (dN rfl rfl rfl (by decide +kernel)) (bD (ap bf hr (ab (au (pv 0) (pv 4)) (ab (pv 3) ac)))) (a_ (N := ["slots","k","f","axis","i","refusal","folds","row"]) (sc := aj gL) (own := [("row",7)]) (by decide +kernel)) (fun _ _ _ _ _ => (a0 7 sc_call_fold.nd)) (fun _ _ _ _ _ => bt) (fun _ _ _ _ _ => (ap mi hr (ab (pv 2) (ab (pv 7) ac)))))
  (ae (ah (ap bh hr (ab (pv 0) (ab (pv 1) (ab (d5 aS hr (ab (ap bd hr (ab (aD (au (pv 0) (pv 4)) rfl) (ab (pv 3) ac))) (ab (pv 6) ac))) ac))))))))),?_⟩
 refine ⟨_,rfl,_,rfl,_,rfl,_,rfl,_,rfl,l,t,kk,fo,ax,i,rfl,S0,fun H1 s0 => ?_⟩; have S := S0.keep s0; have k := k0.same s0; refine ⟨_,rfl,rfl,_,rfl,?_⟩
 by_cases h0 : jJ t kk fo ax i = 0
 ·refine br (congrArg V.int h0) ?_; obtain ⟨hf,hk,hi,A',ea,hx,ef⟩ := aaA h0; rw [Ay.step,ef] at k; obtain ⟨vs,x,g1,g2,hA,ho⟩ := aB.arr S hi ea; obtain ⟨dx,a1,b1,h1,h2,h3⟩ := id hA; have hs := (aG ho).1; have hrs := Ma.cn hs ax; obtain ⟨y1,y2,y3⟩ := Ma.aE hrs; obtain ⟨z1,z2,z3⟩ := Ma.aE hs; refine ⟨_,rfl,_,rfl,l,vs,_,_,rfl,rfl,ag.of g1,g2,_,rfl,x,A',ax,rfl,hA,ho,hx,fun H2 u s2 hu hX => ?_⟩; obtain ⟨xs,q1,q2,q3⟩ := hX.src (K := K); rw [cw] at q2; refine ⟨u,rfl,⟨_,q1⟩,fun D hD => ?_⟩; refine cF (bX q1) (fun c => ov (Ad.foldRow fo ((Ad.rowsBy ax A').getD c []))) hD (by rw [q2]; show _ <= 2 ^ 24; omega) ?_ bg ?_
  ·rintro c H3 v H4 hci sm ⟨rfl,hx1⟩ Q' kq; obtain ⟨p1,r0,rfl,e5,e6⟩ := q3 c _ hx1; obtain ⟨r1,rfl,e7,l1,l2,l3,l4⟩ := dI ho hx e5; refine ⟨rfl,_,rfl,_,rfl,fo,p1,r1,rfl,hf,ag.of (sm _ _ e6),(fun e => by rw [e] at l2; simp at l2),by omega,l4,fun H5 s5 => ?_⟩; have kq2 := kq H5 s5; rw [bq e7] at kq2; exact kq2
  ·intro H3 sm hd; have s3 := s2.trans sm
   have hos : (List.range xs.length).map (fun c => ov (Ad.foldRow fo ((Ad.rowsBy ax A').getD c []))) = vo ((Ad.rowsBy ax A').map (Ad.foldRow fo)) := by
    rw [q2,← Ma.ld]; show _ = List.map ov (List.map _ _); rw [List.map_map]; exact Ma.gv (fun r => ov (Ad.foldRow fo r)) [] (Ad.rowsBy ax A')
   rw [hos] at hd; refine ⟨_,rfl,_,rfl,_,rfl,_,rfl,l,vs,_,_,rfl,rfl,ag.of (s3 _ _ g1),g2,x,C,dx,_,_,rfl,s3 _ _ h1,T.cl,T.nL,aU a1 b1,_,rfl,a1,_,ax,rfl,ag.of (s3 _ _ h2),by rw [aI]; omega,fun H4 q4 s4 hq4 h4 => ⟨_,rfl,?_⟩⟩; rw [lr] at h4; have s34 := s3.trans s4; refine jX (Q := fun v H5 => bW C ([.ref l,.int kk,v] ++ []) H5 Q E0) (s := Ad.removed A'.shape ax) h4 (s4 _ _ hd) fun y H5 hy s5 hA5 => ?_
   have s35 := s34.trans s5; refine ⟨l,y,t,kk,_,_,rfl,hk,S.keep s35,hA5,hrs,?_,?_,k.same s35⟩
   ·rw [List.length_map,Ma.ld]
   ·intro w hw; obtain ⟨r,hr1,e⟩ := List.mem_map.mp hw; obtain ⟨c,hc,ec⟩ := List.getElem_of_mem hr1; have e8 : (dv ax A')[c]? = some (vi r) := by rw [List.getElem?_map,List.getElem?_eq_getElem hc,ec]; rfl
    obtain ⟨r1,er,e7,_,_,_,l4⟩ := dI ho hx e8; rw [List.getElem?_eq_getElem hc,ec] at e7; cases e7; exact Ma.qe l4 e
 ·obtain ⟨n,h2,ef⟩ := abK h0; rw [Ay.step,ef] at k; refine bz (a5 h0) ?_; exact ⟨_,rfl,bc,aQ.no S (ak.refl H1) k h2⟩
def qF (K : Fg) (C : Addr) : Sp := fun vs H Q _ => ∃ (l : Addr) (t : Ay.State) (kk fo ax i : Nat),vs = [.ref l,.int kk,.int fo,.int ax,.int i] /\ aB C H l t /\ aQ C H l (Ay.step t (.scan kk fo ax i)) Q
theorem sc_call_scan : aq ["slots","k","f","axis","i","refusal","rows","row"] ["slots","k","f","axis","i"] (aj gK) := fs
theorem wo (D : Df K mg "call_scan" "call_scan" gK ["slots","k","f","axis","i"]) (T : Txt K mg C) (dJ : Ok P w K mg base 5 "fold_refusal" ["slots","k","f","axis","i"] (iN C)) (bf : Ok P w K mg base 4 "rows_of" ["array","axis"] (dE K C)) (dU : Ok P w K mg base 3 "scanned_row" ["f","row"] (jn K)) (a4 : Ok P w K mg base 3 "array_of_rows" ["lengths","axis","rows"] (cr K C)) (bh : Ok P w K mg base 2 "keep_reckoned" ["slots","k","array"] (bW C)) : Ok P w K mg base 6 "call_scan" ["slots","k","f","axis","i"] (qF K C) := by
 refine D.ok sc_call_scan (fun _ _ _ _ h => by obtain ⟨_,_,_,_,_,_,rfl,_⟩ := h; rfl) (fun f cdv A outer s H vs Q E hr h => ?_); obtain ⟨l,t,kk,fo,ax,i,rfl,S0,k0⟩ := h
 refine ⟨_,(ad (aH 5 sc_call_scan.nd (ap dJ hr (ab (pv 0) (ab (pv 1) (ab (pv 2) (ab (pv 3) (ab (pv 4) ac)))))))
  (ad (aw (aF bB (pv 5) ai) (ae (ah (az (ab (pv 5) ac)))) ao)
  (ad (cU rfl sc_call_scan.nd (i := 6) rfl rfl (dN rfl rfl rfl (by decide +kernel)) (bD (ap bf hr (ab (au (pv 0) (pv 4)) (ab (pv 3) ac)))) (a_ (N := ["slots","k","f","axis","i","refusal","rows","row"]) (sc := aj gK) (own := [("row",7)]) (by decide +kernel)) (fun _ _ _ _ _ => (a0 7 sc_call_scan.nd)) (fun _ _ _ _ _ => bt) (fun _ _ _ _ _ => (ap dU hr (ab (pv 2) (ab (pv 7) ac)))))
  (ae (ah (ap bh hr (ab (pv 0) (ab (pv 1) (ab (ap a4 hr (ab (aD (au (pv 0) (pv 4)) rfl) (ab (pv 3) (ab (pv 6) ac)))) ac))))))))),?_⟩
 refine ⟨_,rfl,_,rfl,_,rfl,_,rfl,_,rfl,l,t,kk,fo,ax,i,rfl,S0,fun H1 s0 => ?_⟩; have S := S0.keep s0; have k := k0.same s0; refine ⟨_,rfl,rfl,_,rfl,?_⟩
 by_cases h0 : jJ t kk fo ax i = 0
 ·refine br (congrArg V.int h0) ?_; obtain ⟨hf,hk,hi,A',ea,hx,ef⟩ := aaA h0; rw [Ay.step,ef] at k; obtain ⟨vs,x,g1,g2,hA,ho⟩ := aB.arr S hi ea; obtain ⟨dx,a1,b1,h1,h2,h3⟩ := id hA; have hs := (aG ho).1; obtain ⟨y1,y2,y3⟩ := Ma.aE (Ma.cn hs ax); refine ⟨_,rfl,_,rfl,l,vs,_,_,rfl,rfl,ag.of g1,g2,_,rfl,x,A',ax,rfl,hA,ho,hx,fun H2 u s2 hu hX => ?_⟩; obtain ⟨xs,q1,q2,q3⟩ := hX.src (K := K); rw [cw] at q2; refine ⟨u,rfl,⟨_,q1⟩,fun D hD => ?_⟩; refine pq (bX q1) (fun c => vo (Ma.eI fo ((Ad.rowsBy ax A').getD c []))) hD (by rw [q2]; show _ <= 2 ^ 24; omega) ?_ bg ?_
  ·rintro c H3 v H4 hci sm ⟨rfl,hx1⟩ Q' kq; obtain ⟨p1,r0,rfl,e5,e6⟩ := q3 c _ hx1; obtain ⟨r1,rfl,e7,l1,l2,l3,l4⟩ := dI ho hx e5; refine ⟨rfl,_,rfl,_,rfl,fo,p1,r1,rfl,hf,ag.of (sm _ _ e6),(fun e => by rw [e] at l2; simp at l2),by omega,l4,fun H5 q5 s5 n5 h5 => kq q5 H5 s5 n5 ?_⟩; rw [h5,bq e7]
  ·intro H3 ds sm f1 f2 f3; rw [q2] at f2; have s3 := s2.trans sm; refine ⟨_,rfl,_,rfl,_,rfl,_,rfl,l,vs,_,_,rfl,rfl,ag.of (s3 _ _ g1),g2,x,C,dx,_,_,rfl,s3 _ _ h1,T.cl,T.nL,aU a1 b1,_,rfl,_,rfl,a1,D,A'.shape,ax,_,fun p => ov (Ma.oX fo ax A' p),rfl,s3 _ _ h2,hs,hx,dA.ofF f1 f2 f3,?_,fun H7 yy s7 hyy hA7 => ?_⟩
   ·intro p hp; refine ⟨_,dY (og hp) _,?_⟩; rw [bq (ib rfl hp hx)]; exact xy (Ma.j6 hp hx)
   ·have s37 := s3.trans s7; rw [← Ma.zG hx] at k
    have ecv : xF A'.shape (fun p => ov (Ma.oX fo ax A' p)) = vo (Ma.eU fo ax A') := by
     unfold Ma.eU; show _ = List.map ov (List.map _ _); rw [List.map_map]; rfl
    rw [ecv] at hA7; refine ⟨l,yy,t,kk,_,_,rfl,hk,S.keep s37,hA7,hs,?_,?_,k.same s37⟩
    ·unfold Ma.eU; rw [List.length_map,List.length_range]
    ·intro w hw; obtain ⟨c,hc,e⟩ := List.mem_map.mp hw; have hin := Ma.cC (List.mem_range.mp hc); have e9 := List.mem_of_getElem? (Ma.j6 (f := fo) hin hx); rw [e] at e9; have e8 := oQ rfl hin hx; obtain ⟨r1,er,e7,_,_,_,l4⟩ := dI ho hx e8; rw [ib rfl hin hx] at e7; cases e7; exact Ma.ya l4 e9
 ·obtain ⟨n,h2,ef⟩ := abK h0; rw [Ay.step,ef] at k; refine bz (a5 h0) ?_; exact ⟨_,rfl,bc,aQ.no S (ak.refl H1) k h2⟩
end
end Go

namespace Go
open PySem PySem.Spec PyProof.Rows L2
section
variable {P : Program} {w : World} {K : Fg} {mg : Str -> Option Value} {base : Heap} {C al : Addr}
theorem acP {H : Hp} {p : Addr} {a b : Int} (h : H p = some (.tup [.int a,.int b])) : dR H p = (a,b) := by
 unfold dR; rw [h]
def om (K : Fg) : Sp := fun vs H Q _ => ∃ (a : Addr) (r : List Int),vs = [.ref a] /\ ag K H a (vi r) /\ r.length <= 100000 /\ ∀ H' q,ak H H' -> H q = none -> H' q = some (.lst (vn (Ad.orderOf r))) -> Q (.ref q) H'
theorem sc_ordered_row : aq ["row","pairs","pair","number","cell"] ["row"] (aj dX) := fs
theorem va (D : Df K mg "ordered_row" "ordered_row" dX ["row"]) (T : Txt K mg C) : Ok P w K mg base 1 "ordered_row" ["row"] (om K) := by
 refine D.ok sc_ordered_row (fun _ _ _ _ h => by obtain ⟨_,_,rfl,_⟩ := h; rfl) (fun f cdv A outer s H vs Q E hr h => ?_); obtain ⟨a,r,rfl,ha,hl,k⟩ := h
 refine ⟨_,(ad (aH 1 sc_ordered_row.nd (bH zI (by rfl) T.b_sorted vC (ab (dB rfl sc_ordered_row.nd (uL rfl T.b_enumerate (ab (pv 0) ac)) (a_ (N := ["row","pairs","pair","number","cell"]) (sc := aj dX) (own := [("number",3),("cell",4)]) (by decide +kernel)) (fun _ _ _ _ _ => (lj K rfl (n := 2) rfl (be (a0 3 sc_ordered_row.nd) (be (a0 4 sc_ordered_row.nd) cX)))) (fun _ _ _ _ _ => bt) (fun _ _ _ _ _ => (acs (ab (pv 4) (ab (pv 3) ac))))) ac)))
  (ae (ah (dB rfl sc_ordered_row.nd (bD (pv 1)) (a_ (N := ["row","pairs","pair","number","cell"]) (sc := aj dX) (own := [("pair",2)]) (by decide +kernel)) (fun _ _ _ _ _ => (a0 2 sc_ordered_row.nd)) (fun _ _ _ _ _ => bt) (fun _ _ _ _ _ => (rA (ab2 K rfl) (pv 2) ai (fun _ _ => rfl))))))),?_⟩
 refine ⟨_,rfl,a,_,rfl,ha,fun D hD => ?_⟩; refine adA (wR ha) (fun i => [.int (r.getD i 0),.int (i : Int)]) hD (by rw [aM]; show _ <= 2 ^ 24; omega) ?_ jZ ?_
 ·rintro i H1 v H2 hi sm ⟨TT,x,rfl,hT,rfl,hx0⟩ Q' kq; obtain ⟨x,hx,rfl⟩ := dQ hx0; have sT : ak H1 (upd H1 TT (.tup [.int (i : Int),.int x])) := ak.new hT; refine ⟨TT,_,rfl,cG.of am,rfl,_,_,rfl,_,_,rfl,rfl,rfl,_,rfl,_,rfl,lR,fun p hp => ?_⟩; refine kq p _ (sT.upd (sT.free hp)) (sT.free hp) ?_; rw [am,bq hx]
 ·intro H1 ps t1 p1 p2 p3; rw [aM] at p2; have key : ∀ (i : Nat) p,ps[i]? = some p -> dR H1 p = (r.getD i 0,(i : Int)) := fun i p hp => acP (p3 i p hp)
  refine ⟨D,ps,rfl,p1,fun p hp => ?_,fun qs u hperm hpw hu => ?_⟩
  ·obtain ⟨i,hi,e⟩ := List.getElem_of_mem hp; have e2 : ps[i]? = some p := by rw [List.getElem?_eq_getElem hi,e]
   rw [key i p e2]; exact p3 i p e2
  ·have eo := Ma.aa3 (g := dR H1) hperm hpw p2 key; have t2 : ak H1 (upd H1 u (.lst (qs.map V.ref))) := ak.new hu; have hu2 : (upd H1 u (.lst (qs.map V.ref))) u = some (.lst (qs.map V.ref)) := am; generalize upd H1 u (.lst (qs.map V.ref)) = H2 at *; have hql : qs.length = r.length := by rw [hperm.length_eq,p2]
   have key2 : ∀ q ∈ qs,∃ z : Int,H1 q = some (.tup [.int z,.int (((dR H1 q).2.toNat : Nat) : Int)]) := fun q hq => by
    obtain ⟨i,hi,e⟩ := List.getElem_of_mem (hperm.mem_iff.mp hq); have e2 : ps[i]? = some q := by rw [List.getElem?_eq_getElem hi,e]
    refine ⟨r.getD i 0,?_⟩; rw [key i q e2]; exact p3 i q e2
   refine ⟨_,rfl,u,rfl,⟨_,ag.of hu2⟩,fun D2 hD2 => ?_⟩; refine cF (bX (ag.of hu2)) (fun j => V.int (((Ad.orderOf r).getD j 0 : Nat) : Int)) hD2 (by rw [List.length_map,hql]; show _ <= 2 ^ 24; omega) ?_ bg ?_
   ·rintro j H3 v H4 hj sm ⟨rfl,hx⟩ Q' kq; rw [List.getElem?_map] at hx
    cases e : qs[j]? with
    | none => rw [e] at hx; cases hx
    | some q =>
     rw [e] at hx; have e2 : V.ref q = v := Option.some.inj hx; subst e2; obtain ⟨z,hz⟩ := key2 q (List.mem_of_getElem? e); have e3 : (Ad.orderOf r).getD j 0 = (dR H1 q).2.toNat := bq (by rw [← eo,List.getElem?_map,e]; rfl); have kq2 := kq _ (ak.refl _); rw [e3] at kq2; exact ⟨rfl,_,rfl,q,_,_,_,rfl,rfl,cG.of ((t2.trans sm) _ _ hz),(bE (j := 1) rfl : fm _ 1 = _),kq2⟩
   ·intro H3 sm hd; have t13 := (t1.trans t2).trans sm; refine k H3 D2 t13 ((t1.trans t2).free hD2) ?_; rw [hd]; congr 2; rw [List.length_map,hql,← Ma.qD r]; show _ = List.map V.int (List.map _ _); rw [List.map_map]; exact Ma.gv (fun n : Nat => V.int (n : Int)) 0 (Ad.orderOf r)
def lD (K : Fg) : Sp := fun vs H Q _ => ∃ (a : Addr) (zs : List Int) (n : Nat),vs = [.ref a,.int n] /\ ag K H a (vi zs) /\ Q (.bl (Ay.numbersIn n zs)) H
theorem sc_are_below : aq ["numbers","bound","number"] ["numbers","bound"] (aj jA) := fs
theorem wC (D : Df K mg "are_below" "are_below" jA ["numbers","bound"]) (T : Txt K mg C) : Ok P w K mg base 1 "are_below" ["numbers","bound"] (lD K) := by
 refine D.ok sc_are_below (fun _ _ _ _ h => by obtain ⟨_,_,_,rfl,_⟩ := h; rfl) (fun f cdv A outer s H vs Q E hr h => ?_); obtain ⟨a,zs,n,rfl,ha,k⟩ := h
 refine ⟨_,(ad (bS PassesOwn.never rfl (bD (pv 0)) (a0 2 sc_are_below.nd) (ae (aw (PW.pt (dD (aF iZ (pv 2) ai) (dn (aF mE (pv 2) (pv 1))))) (ae (ah dC)) ao)))
  (ae (ah dC))),?_⟩
 refine ⟨_,rfl,a,rfl,⟨_,ha⟩,d_ (K := K) (a := a) (xs := vi zs) (fun i σ H' => ∃ (u : Option V),σ = [some (.ref a),some (.int n),u] /\ (∀ z ∈ zs.take i,0 <= z /\ z < n) /\ H' = H)
  ⟨none,rfl,by simp,rfl⟩ (fun i σ H' _ ⟨_,_,_,e⟩ => e ▸ ha) ?_ ?_⟩
 ·rintro i x σ H' hi ⟨u,rfl,hc,rfl⟩; obtain ⟨z,hz,rfl⟩ := dQ hi; have hm := List.mem_of_getElem? hz; refine ⟨_,rfl,_,_,rfl,rfl,_,rfl,ba (fun h => ?_) (fun h => ?_)⟩
  ·have h1 := of_decide_eq_true h; rw [Ma.ut hm (by omega)] at k; exact k
  refine ⟨_,rfl,_,rfl,_,_,rfl,rfl,_,rfl,ba (fun h2 => ?_) (fun h2 => ?_)⟩
  ·have h1 := of_decide_eq_true h2; rw [Ma.ut hm (by omega)] at k; exact k
  ·refine ⟨_,rfl,fun y hy => ?_,rfl⟩; rw [bU hz] at hy
   rcases List.mem_append.mp hy with q | q
   ·exact hc y q
   ·have e : y = z := by simpa using q
    simp at h h2; omega
 ·rintro σ H' ⟨u,rfl,hc,rfl⟩; rw [aM,List.take_length] at hc; rw [Ma.xM hc] at k; exact k
def mI (K : Fg) (C : Addr) : Sp := fun vs H Q _ => ∃ (x y : Addr) (A B : Ad.Arr),vs = [.ref x,.ref y] /\ b_ C H x A /\ b_ C H y B /\ A.cells.length = B.cells.length /\ A.cells.length <= 100000 /\ ∀ H' q,ak H H' -> H q = none -> H' q = some (.lst (vi (Ad.packed A B))) -> Q (.ref q) H'
theorem sc_packed_cells : aq ["array","mask","cell","kept"] ["array","mask"] (aj eF) := fs
theorem tM (D : Df K mg "packed_cells" "packed_cells" eF ["array","mask"]) (T : Txt K mg C) : Ok P w K mg base 1 "packed_cells" ["array","mask"] (mI K C) := by
 refine D.ok sc_packed_cells (fun _ _ _ _ h => by obtain ⟨_,_,_,_,rfl,_⟩ := h; rfl) (fun f cdv A outer s H vs Q E hr h => ?_); obtain ⟨x,y,A',B',rfl,⟨dx,a1,b1,h1,h2,h3⟩,⟨dy,a2,b2,h1',h2',h3'⟩,hl,hl2,k⟩ := h; refine ⟨_,(ae (ah (dB rfl sc_packed_cells.nd (fv rfl T.b_zip (ab (aD (pv 0) rfl) (ab (aD (pv 1) rfl) ac))) (a_ (N := ["array","mask","cell","kept"]) (sc := aj eF) (own := [("cell",2),("kept",3)]) (by decide +kernel)) (fun _ _ _ _ _ => (lj K rfl (n := 2) rfl (be (a0 2 sc_packed_cells.nd) (be (a0 3 sc_packed_cells.nd) cX)))) (fun _ _ _ _ _ => (abR (aF bB (pv 3) ai))) (fun _ _ _ _ _ => (pv 2))))),?_⟩; refine ⟨_,rfl,x,C,dx,_,_,rfl,h1,T.cl,T.nC,cy a1 b1,_,rfl,y,C,dy,_,_,rfl,h1',T.cl,T.nC,cy a2 b2,b1,b2,_,_,rfl,ag.of h3,ag.of h3',fun D hD => ?_⟩; refine acB (rq (ag.of h3) (ag.of h3') (by rw [aM,aM,hl])) (fun i => V.int (A'.cells.getD i 0)) (fun i => B'.cells.getD i 0 != 0) hD (by rw [aM]; show _ <= 2 ^ 24; omega) ?_ ?_
 ·rintro i H1 v H2 hi sm ⟨TT,x0,y0,rfl,hT,rfl,hx0,hy0⟩ Q' Q2 kq kq2; obtain ⟨x1,hx1,rfl⟩ := dQ hx0; obtain ⟨y1,hy1,rfl⟩ := dQ hy0; have sT : ak H1 (upd H1 TT (.tup [.int x1,.int y1])) := ak.new hT; simp only [bq hx1,bq hy1] at kq kq2; refine ⟨TT,_,rfl,cG.of am,rfl,_,_,rfl,_,_,rfl,rfl,rfl,_,rfl,rfl,_,rfl,?_⟩
  by_cases hy : y1 = 0
  ·refine br (by rw [hy]) ?_; exact kq2 (by rw [hy]; rfl) _ sT
  ·refine bz (a5 hy) ?_; exact ⟨_,rfl,kq (by simp [hy]) _ sT⟩
 ·intro H' sm hd; refine k H' D sm hD ?_; rw [hd,Ma.z5 A' B' hl,aM]; show _ = some (HO.lst (List.map V.int (List.map _ _))); rw [List.map_map]; rfl
def oG : Sp := fun vs H Q _ => ∃ (mode : Nat) (o : Option Int) (x : Int),vs = [.int mode,ov o,.int x] /\ mode <= 3 /\ uh o /\ Ad.cellFine x = true /\ Q (ov (Ma.jF mode o x)) H
theorem uZ : aq ["mode","standing","cell"] ["mode","standing","cell"] (aj gU) := fs
theorem uE (D : Df K mg "landed_cell" "landed_cell" gU ["mode","standing","cell"]) (T : Txt K mg C) (cv : Ok P w K mg base 2 "op_cell" ["op","x","y"] (i0)) : Ok P w K mg base 3 "landed_cell" ["mode","standing","cell"] (oG) := by
 refine D.ok uZ (fun _ _ _ _ h => by obtain ⟨_,_,_,rfl,_⟩ := h; rfl) (fun f cdv A outer s H vs Q E hr h => ?_); obtain ⟨mode,o,x,rfl,hm,ho,hx,k⟩ := h
 refine ⟨_,(ad (aw (aF bC (pv 0) ai) (ae (ah (pv 2))) ao)
  (ae (ah (ap cv hr (ab (acJ T.d_LANDING_OPS rfl (pv 0) (fun _ _ => rfl)) (ab (pv 1) (ab (pv 2) ac))))))),?_⟩
 have hfx : uh (some x) := fun z hz => by cases hz; exact hx
 refine ⟨_,rfl,rfl,_,rfl,?_⟩
 match mode,hm with
 | 0,_ => exact ⟨_,rfl,k⟩
 | 1,_ => exact ⟨_,rfl,_,_,rfl,rfl,_,rfl,_,rfl,0,o,some x,rfl,ho,hfx,k⟩
 | 2,_ => exact ⟨_,rfl,_,_,rfl,rfl,_,rfl,_,rfl,3,o,some x,rfl,ho,hfx,k⟩
 | 3,_ => exact ⟨_,rfl,_,_,rfl,rfl,_,rfl,_,rfl,4,o,some x,rfl,ho,hfx,k⟩
def my (K : Fg) (C : Addr) : Sp := fun vs H Q _ => ∃ (x n c : Addr) (A : Ad.Arr) (mode : Nat) (ns cs : List Int),vs = [.ref x,.int mode,.ref n,.ref c] /\ b_ C H x A /\ A.ok = true /\ mode <= 3 /\ ag K H n (vi ns) /\ ag K H c (vi cs) /\ ns.length = cs.length /\ (∀ z ∈ ns,0 <= z /\ z < (A.cells.length : Int)) /\ (∀ z ∈ cs,Ad.cellFine z = true) ∧
 ∀ H' y,ak H H' -> H y = none -> uN C H' y A.shape (vo (Ma.cY mode (A.cells.map some) (ns.zip cs))) -> Q (.ref y) H'
theorem sc_landed_array : aq ["array","mode","numbers","landing","cells","number","cell"] ["array","mode","numbers","landing"] (aj gt) := fs
theorem ub (D : Df K mg "landed_array" "landed_array" gt ["array","mode","numbers","landing"]) (T : Txt K mg C) (kN : Ok P w K mg base 3 "landed_cell" ["mode","standing","cell"] (oG)) (aS : dS P w K mg base 1 "Array" C ["self","lengths","cells"] (bP C)) : Ok P w K mg base 4 "landed_array" ["array","mode","numbers","landing"] (my K C) := by
 refine D.ok sc_landed_array (fun _ _ _ _ h => by obtain ⟨_,_,_,_,_,_,_,rfl,_⟩ := h; rfl) (fun f cdv A outer s H vs Q E hr h => ?_); obtain ⟨x,n,c,A',mode,ns,cs,rfl,hA,ho,hm,hn,hc,hl,hns,hcs,k⟩ := h
 refine ⟨_,(ad (aH 4 sc_landed_array.nd (f7 mj (by rfl) T.b_list rm (ab (aD (pv 0) rfl) ac)))
  (ad (bS PassesOwn.never rfl (fv rfl T.b_zip (ab (pv 2) (ab (pv 3) ac))) (gQ rfl (be (a0 5 sc_landed_array.nd) (be (a0 6 sc_landed_array.nd) cX))) (ae (ou (ap kN hr (ab (pv 1) (ab (au (pv 4) (pv 5)) (ab (pv 6) ac)))) (oe (pv 4) (pv 5) jt))))
  (ae (ah (d5 aS hr (ab (aD (pv 0) rfl) (ab (pv 4) ac))))))),?_⟩
 obtain ⟨dx,a1,b1,h1,h2,h3⟩ := id hA; have hfa := (aG ho).2.2; refine ⟨_,rfl,x,C,dx,_,_,rfl,h1,T.cl,T.nC,cy a1 b1,b1,_,rfl,.inl (ag.of h3),fun d hd => ?_⟩; have t1 : ak H (upd H d (.lst (vi A'.cells))) := ak.new hd
 have hd1 : (upd H d (.lst (vi A'.cells))) d = some (.lst (vo (Ma.cY mode (A'.cells.map some) ((ns.zip cs).take 0)))) := by
  rw [am,List.take_zero,Ma.aax,yB]
 generalize upd H d (.lst (vi A'.cells)) = H1 at *
 refine ⟨_,rfl,_,rfl,n,c,_,_,rfl,t1.seq hn,t1.seq hc,iu (K := K) (a := n) (b := c) (xs := vi ns) (ys := vi cs)
  (fun i σ H' => ∃ (v1 v2 : Option V),σ = [some (.ref x),some (.int mode),some (.ref n),some (.ref c),some (.ref d),v1,v2] /\ H' d = some (.lst (vo (Ma.cY mode (A'.cells.map some) ((ns.zip cs).take i)))) /\ ak H H')
  ⟨none,none,rfl,hd1,t1⟩ (by rw [aM,aM,hl]) (fun i σ H' _ ⟨_,_,_,_,e⟩ => ⟨e.seq hn,e.seq hc⟩) ?_ ?_⟩
 ·rintro i z1 z2 σ H' TT hy1 hy2 hT ⟨v1,v2,rfl,hd',sm⟩; obtain ⟨z1,hz1,rfl⟩ := dQ hy1; obtain ⟨z2,hz2,rfl⟩ := dQ hy2; have hz : (ns.zip cs)[i]? = some (z1,z2) := List.getElem?_zip_eq_some.mpr ⟨hz1,hz2⟩; obtain ⟨b1',b2'⟩ := hns z1 (List.mem_of_getElem? hz1); have sT : ak H' (upd H' TT (.tup [.int z1,.int z2])) := ak.new hT; have hdT := sT _ _ hd'
  have fo : ∀ z,some z ∈ Ma.cY mode (A'.cells.map some) ((ns.zip cs).take i) -> Ad.cellFine z = true := Ma.oP _ _ (fun z hz => by
    obtain ⟨y,hy,e⟩ := List.mem_map.mp hz; cases e
    exact hfa _ hy) (fun z hz => hcs _ (List.of_mem_zip (List.mem_of_mem_take hz)).2)
  have e0 : Ma.cY mode (A'.cells.map some) ((ns.zip cs).take (i + 1)) = (Ma.cY mode (A'.cells.map some) ((ns.zip cs).take i)).set z1.toNat (Ma.jF mode ((Ma.cY mode (A'.cells.map some) ((ns.zip cs).take i)).getD z1.toNat none) z2) := by
   rw [bU hz,Ma.zQ]
  have hlen : (Ma.cY mode (A'.cells.map some) ((ns.zip cs).take i)).length = A'.cells.length := by rw [Ma.qL,List.length_map]
  rw [e0]; generalize Ma.cY mode (A'.cells.map some) ((ns.zip cs).take i) = M at *
  have e1 : M[z1.toNat]? = some (M.getD z1.toNat none) := by
   rw [List.getD_eq_getElem?_getD,List.getElem?_eq_getElem (by omega)]; rfl
  have e2 : (z1.toNat : Int) = z1 := by omega
  have hat : fm (vo M) z1 = some (ov (M.getD z1.toNat none)) := by
   rw [← e2]; exact bE (xy e1)
  have hix : fT (vo M).length z1 = some z1.toNat := by
   have := yc (n := (vo M).length) (i := z1.toNat) (by rw [List.length_map]; omega); rw [e2] at this; exact this
  refine ⟨TT,_,rfl,cG.of am,rfl,_,_,rfl,_,_,rfl,rfl,?_⟩; refine ⟨_,rfl,_,rfl,_,rfl,d,_,_,_,rfl,rfl,ag.of hdT,hat,_,rfl,mode,M.getD z1.toNat none,z2,rfl,hm,fun z hz => fo z (by rw [← hz]; exact List.mem_of_getElem? e1),hcs z2 (List.mem_of_getElem? hz2),?_⟩; refine ⟨_,rfl,_,rfl,d,_,_,z1.toNat,rfl,rfl,hdT,hix,_,_,rfl,?_,(sm.trans sT).upd hd⟩; rw [am]; show _ = some (HO.lst (List.map ov _)); rw [List.map_set]
 ·rintro σ H' ⟨v1,v2,rfl,hd',sm⟩; rw [aM,show ns.length = (ns.zip cs).length by rw [List.length_zip,← hl,Nat.min_self],List.take_length] at hd'; refine ⟨_,rfl,x,C,dx,_,_,rfl,sm _ _ h1,T.cl,T.nL,aU a1 b1,_,rfl,jX (Q := Q) (sm _ _ h2) hd' fun y H2 hy t2 hA2 => ?_⟩; exact k H2 y (sm.trans t2) (sm.free hy) hA2
end
end Go

namespace Go
open PySem PySem.Spec PyProof.Rows L2
section
variable {P : Program} {w : World} {K : Fg} {mg : Str -> Option Value} {base : Heap} {C al : Addr}
def sO (ax : Nat) (A : Ad.Arr) (p : List Nat) : Int := ((((Ad.rowsBy ax A).map fun (r : List Int) => (Ad.orderOf r).map fun (n : Nat) => (n : Int)).getD (Ad.cellOf (Ad.removed A.shape ax) (p.eraseIdx ax)) []).getD (p.getD ax 0) 0)
theorem wY {ax : Nat} {A : Ad.Arr} {p : List Nat} (hp : Ma.In A.shape p) (hx : ax < A.shape.length) : sO ax A p = (((Ad.orderOf (Ad.rowAt A ax p)).getD (p.getD ax 0) 0 : Nat) : Int) /\ (vn (Ad.orderOf (Ad.rowAt A ax p)))[p.getD ax 0]? = some (V.int (sO ax A p)) := by
 have ha := (Ma.In.axis hp hx).2; have hl : p.getD ax 0 < (Ad.orderOf (Ad.rowAt A ax p)).length := by rw [Ma.qD,Ma.di]; exact ha
 have e1 : sO ax A p = (((Ad.orderOf (Ad.rowAt A ax p)).getD (p.getD ax 0) 0 : Nat) : Int) := by
  unfold sO
  have e : ((Ad.rowsBy ax A).map fun (r : List Int) => (Ad.orderOf r).map fun (n : Nat) => (n : Int))[Ad.cellOf (Ad.removed A.shape ax) (p.eraseIdx ax)]? = some ((Ad.orderOf (Ad.rowAt A ax p)).map fun (n : Nat) => (n : Int)) := by
   rw [List.getElem?_map,ib rfl hp hx]; rfl
  rw [bq e]; generalize p.getD ax 0 = i at hl; refine bq ?_; rw [List.getElem?_map,ll hl]; rfl
 refine ⟨e1,?_⟩; rw [e1]; generalize p.getD ax 0 = i at hl; exact dr (ll hl)
def pO (K : Fg) (C : Addr) : Sp := fun vs H Q _ => ∃ (l : Addr) (t : Ay.State) (kk ax i : Nat),vs = [.ref l,.int kk,.int ax,.int i] /\ aB C H l t /\ aQ C H l (Ay.step t (.order kk ax i)) Q
theorem sc_call_order : aq ["slots","k","axis","i","refusal","rows","row"] ["slots","k","axis","i"] (aj gd) := fs
theorem v0 (D : Df K mg "call_order" "call_order" gd ["slots","k","axis","i"]) (T : Txt K mg C) (a7 : Ok P w K mg base 4 "axis_refusal" ["slots","k","sources","axis"] (cD K C)) (kE : Ok P w K mg base 1 "ordered_row" ["row"] (om K)) (bf : Ok P w K mg base 4 "rows_of" ["array","axis"] (dE K C)) (a4 : Ok P w K mg base 3 "array_of_rows" ["lengths","axis","rows"] (cr K C)) (aZ : Ok P w K mg base 1 "keep" ["slots","k","array"] (b6 C)) : Ok P w K mg base 5 "call_order" ["slots","k","axis","i"] (pO K C) := by
 refine D.ok sc_call_order (fun _ _ _ _ h => by obtain ⟨_,_,_,_,_,rfl,_⟩ := h; rfl) (fun f cdv A outer s H vs Q E hr h => ?_); obtain ⟨l,t,kk,ax,i,rfl,S0,k0⟩ := h
 refine ⟨_,(ad (aH 4 sc_call_order.nd (ap a7 hr (ab (pv 0) (ab (pv 1) (ab (az (ab (pv 3) ac)) (ab (pv 2) ac))))))
  (ad (aw (aF bB (pv 4) ai) (ae (ah (az (ab (pv 4) ac)))) ao)
  (ad (cU rfl sc_call_order.nd (i := 5) rfl rfl (dN rfl rfl rfl (by decide +kernel)) (bD (ap bf hr (ab (au (pv 0) (pv 3)) (ab (pv 2) ac)))) (a_ (N := ["slots","k","axis","i","refusal","rows","row"]) (sc := aj gd) (own := [("row",6)]) (by decide +kernel)) (fun _ _ _ _ _ => (a0 6 sc_call_order.nd)) (fun _ _ _ _ _ => bt) (fun _ _ _ _ _ => (ap kE hr (ab (pv 6) ac))))
  (ae (ah (ap aZ hr (ab (pv 0) (ab (pv 1) (ab (ap a4 hr (ab (aD (au (pv 0) (pv 3)) rfl) (ab (pv 2) (ab (pv 5) ac)))) ac))))))))),?_⟩
 refine ⟨_,rfl,_,rfl,_,rfl,bc,fun q hq => ?_⟩; have s0 : ak H (upd H q (.lst [.int i])) := ak.new hq; have hq1 : (upd H q (.lst [.int i])) q = some (.lst (vn [i])) := am; generalize upd H q (.lst [.int i]) = H1 at *; have S := S0.keep s0; have k := k0.same s0; refine ⟨_,rfl,l,q,t,kk,i,ax,[],rfl,S,ag.of hq1,_,rfl,rfl,_,rfl,?_⟩
 by_cases h0 : cA t kk i [] ax = 0
 ·refine br (congrArg V.int h0) ?_; obtain ⟨hk,hi,A',ea,hx,ef⟩ := oB h0; rw [Ay.step,ef] at k; obtain ⟨vs,x,g1,g2,hA,ho⟩ := aB.arr S hi ea; obtain ⟨dx,a1,b1,h1,h2,h3⟩ := id hA; have hs := (aG ho).1; obtain ⟨z1,z2,z3⟩ := Ma.aE hs; obtain ⟨y1,y2,y3⟩ := Ma.aE (Ma.cn hs ax); refine ⟨_,rfl,_,rfl,l,vs,_,_,rfl,rfl,ag.of g1,g2,_,rfl,x,A',ax,rfl,hA,ho,hx,fun H2 u s2 hu hX => ?_⟩; obtain ⟨xs,q1,q2,q3⟩ := hX.src (K := K); rw [cw] at q2; refine ⟨u,rfl,⟨_,q1⟩,fun D hD => ?_⟩; refine pq (bX q1) (fun c => vn (Ad.orderOf ((Ad.rowsBy ax A').getD c []))) hD (by rw [q2]; show _ <= 2 ^ 24; omega) ?_ bg ?_
  ·rintro c H3 v H4 hci sm ⟨rfl,hx1⟩ Q' kq; obtain ⟨p1,r0,rfl,e5,e6⟩ := q3 c _ hx1; obtain ⟨r1,rfl,e7,l1,l2,l3,_⟩ := dI ho hx e5; refine ⟨rfl,_,rfl,p1,r1,rfl,ag.of (sm _ _ e6),by omega,fun H5 q5 s5 n5 h5 => kq q5 H5 s5 n5 ?_⟩; rw [h5,bq e7]
  ·intro H3 ds sm f1 f2 f3; rw [q2] at f2; have s3 := s2.trans sm; refine ⟨_,rfl,_,rfl,_,rfl,_,rfl,l,vs,_,_,rfl,rfl,ag.of (s3 _ _ g1),g2,x,C,dx,_,_,rfl,s3 _ _ h1,T.cl,T.nL,aU a1 b1,_,rfl,_,rfl,a1,D,A'.shape,ax,_,fun p => V.int (sO ax A' p),rfl,s3 _ _ h2,hs,hx,dA.ofF f1 f2 f3,?_,fun H7 yy s7 hyy hA7 => ?_⟩
   ·intro p hp; refine ⟨_,dY (og hp) _,?_⟩; rw [bq (ib rfl hp hx)]; exact (wY hp hx).2
   ·have s37 := s3.trans s7; refine ⟨l,yy,t,kk,Ad.ordered ax A',rfl,hk,S.keep s37,j9 (h := sO ax A') hA7,eW hs fun p hp => ?_,k.same s37⟩; show Ad.cellFine (sO ax A' p) = true; rw [(wY hp hx).1]; have ha := (Ma.In.axis hp hx).2; have hl : p.getD ax 0 < (Ad.orderOf (Ad.rowAt A' ax p)).length := by rw [Ma.qD,Ma.di]; exact ha
    generalize p.getD ax 0 = i at hl; have hlt := Ma.abB _ (List.mem_of_getElem? (ll hl)); rw [Ma.di] at hlt; have := Ma.cg z2 _ (List.mem_of_getElem? (bv hx)); exact Ma.iz.mpr ⟨by omega,by omega⟩
 ·obtain ⟨n,h2,ef⟩ := tL h0; rw [Ay.step,ef] at k; refine bz (a5 h0) ?_; exact ⟨_,rfl,bc,aQ.no S (ak.refl H1) k h2⟩
def p4 (K : Fg) (C : Addr) : Sp := fun vs H Q _ => ∃ (l : Addr) (t : Ay.State) (kk i j : Nat),vs = [.ref l,.int kk,.int i,.int j] /\ aB C H l t /\ aQ C H l (Ay.step t (.pack kk i j)) Q
theorem sc_call_pack : aq ["slots","k","i","j","refusal","cells"] ["slots","k","i","j"] (aj jB) := fs
theorem xr (D : Df K mg "call_pack" "call_pack" jB ["slots","k","i","j"]) (T : Txt K mg C) (aR : Ok P w K mg base 3 "slots_refusal" ["slots","k","sources"] (bV K C)) (jg : Ok P w K mg base 1 "packed_cells" ["array","mask"] (mI K C)) (aZ : Ok P w K mg base 1 "keep" ["slots","k","array"] (b6 C)) (aS : dS P w K mg base 1 "Array" C ["self","lengths","cells"] (bP C)) : Ok P w K mg base 4 "call_pack" ["slots","k","i","j"] (p4 K C) := by
 refine D.ok sc_call_pack (fun _ _ _ _ h => by obtain ⟨_,_,_,_,_,rfl,_⟩ := h; rfl) (fun f cdv A outer s H vs Q E hr h => ?_); obtain ⟨l,t,kk,i,j,rfl,S0,k0⟩ := h
 refine ⟨_,(ad (aH 4 sc_call_pack.nd (ap aR hr (ab (pv 0) (ab (pv 1) (ab (az (ab (pv 2) (ab (pv 3) ac))) ac)))))
  (ad (aw (aF bB (pv 4) ai) (ae (ah (az (ab (pv 4) ac)))) ao)
  (ad (aw (aF (ul hr.units) (aD (au (pv 0) (pv 2)) rfl) (aD (au (pv 0) (pv 3)) rfl)) (ae (ah (az (ab (aO T.g_UNLIKE) ac)))) ao)
  (ad (aH 5 sc_call_pack.nd (ap jg hr (ab (au (pv 0) (pv 2)) (ab (au (pv 0) (pv 3)) ac))))
  (ad (aw (aF bC (bA T.b_len (pv 5)) ai) (ae (ah (az (ab (aO T.g_NOTHING) ac)))) ao)
  (ae (ah (ap aZ hr (ab (pv 0) (ab (pv 1) (ab (d5 aS hr (ab (az (ab (bA T.b_len (pv 5)) ac)) (ab (pv 5) ac))) ac))))))))))),?_⟩
 refine ⟨_,rfl,_,rfl,_,rfl,_,rfl,lR,fun q hq => ?_⟩; have s0 : ak H (upd H q (.lst [.int i,.int j])) := ak.new hq; have hq1 : (upd H q (.lst [.int i,.int j])) q = some (.lst (vn [i,j])) := am; generalize upd H q (.lst [.int i,.int j]) = H1 at *; have S := S0.keep s0; have k := k0.same s0; refine ⟨l,q,t,kk,[i,j],rfl,S,ag.of hq1,_,rfl,rfl,_,rfl,?_⟩
 by_cases h0 : bK t kk [i,j] = 0
 ·refine br (congrArg V.int h0) ?_; obtain ⟨hk,hi,hj,A',B',ea,eb,ef⟩ := ow h0; rw [Ay.step,ef] at k; obtain ⟨vs,x,g1,g2,hA,ho⟩ := aB.arr S hi ea; obtain ⟨dx,a1,b1,h1,h2,h3⟩ := id hA; obtain ⟨vs',y,g1',g2',hB,ho'⟩ := aB.arr S hj eb; obtain ⟨dy,a2,b2,h1',h2',h3'⟩ := id hB; obtain ⟨z1,z2,z3⟩ := Ma.aE (aG ho).1; refine ⟨_,rfl,_,rfl,l,vs,_,_,rfl,rfl,ag.of g1,g2,x,C,dx,_,_,rfl,h1,T.cl,T.nL,aU a1 b1,_,rfl,_,rfl,l,vs',_,_,rfl,rfl,ag.of g1',g2',y,C,dy,_,_,rfl,h1',T.cl,T.nL,aU a2 b2,a1,a2,Ma.nz A'.shape,Ma.nz B'.shape,rfl,rfl,ag.of h2,ag.of h2',_,rfl,?_⟩
  by_cases e1 : A'.shape = B'.shape
  ·refine br (by rw [e1]) ?_; rw [if_neg (by rw [e1]; simp)] at k; have hlen : A'.cells.length = B'.cells.length := by rw [(aG ho).2.1,(aG ho').2.1,e1]
   have hla := (aG ho).2.1; refine ⟨_,rfl,_,rfl,l,vs,_,_,rfl,rfl,ag.of g1,g2,_,rfl,_,rfl,l,vs',_,_,rfl,rfl,ag.of g1',g2',x,y,A',B',rfl,hA,hB,hlen,by omega,fun H2 d t2 hd hd2 => ?_⟩; have k : aQ C H1 l (if Ad.packed A' B' = [] then (t,Ay.no 5) else Ay.put t kk ⟨[(Ad.packed A' B').length],Ad.packed A' B'⟩) Q := k
   have hpl : (Ad.packed A' B').length <= Ad.product_ A'.shape := by
    rw [← hla]; unfold Ad.packed; rw [List.length_map]; have := List.length_filter_le (fun x : Int × Int => x.2 != 0) (A'.cells.zip B'.cells); rw [List.length_zip] at this; omega
   have hpf : ∀ z ∈ Ad.packed A' B',Ad.cellFine z = true := fun z hz => by
    unfold Ad.packed at hz; obtain ⟨y,hy,e⟩ := List.mem_map.mp hz; rw [← e]; exact (aG ho).2.2 _ (List.of_mem_zip (List.mem_filter.mp hy).1).1
   refine ⟨_,rfl,d,_,rfl,.inl (ag.of hd2),rfl,_,rfl,?_⟩; rw [aM]; generalize Ad.packed A' B' = pk at *
   by_cases e2 : pk = []
   ·refine dw (by rw [e2]; rfl) ?_; rw [if_pos e2] at k; exact ⟨bc,aQ.no S t2 k rfl⟩
   ·have hpos : 0 < pk.length := List.length_pos_iff.mpr e2; refine dG (a5 (by omega)) ?_; rw [if_neg e2] at k; refine ⟨_,rfl,_,rfl,_,rfl,d,_,rfl,.inl (ag.of hd2),bc,fun u hu => ⟨_,rfl,?_⟩⟩; rw [aM]; have t3 : ak H2 (upd H2 u (.lst [.int (pk.length : Int)])) := ak.new hu; have hu3 : (upd H2 u (.lst [.int (pk.length : Int)])) u = some (.lst (vn [pk.length])) := am; generalize upd H2 u (.lst [.int (pk.length : Int)]) = H3 at *; have t13 := t2.trans t3; refine jp (A := ⟨[pk.length],pk⟩) hk (S.keep t13) hu3 (t3 _ _ hd2) (iH (Ma.shape_iff.mpr ⟨?_,?_,?_⟩) ?_ hpf) (k.same t13)
    ·show 1 <= 4
     decide
    ·intro n hn; have : n = pk.length := by simpa using hn
     omega
    ·show pk.length * 1 <= 1024; omega
    ·show pk.length = pk.length * 1; omega
  ·refine bz (fun z => e1 (Ma.ot z)) ?_; rw [if_pos e1] at k; exact ⟨bc,aQ.no S (ak.refl H1) k rfl⟩
 ·obtain ⟨n,h2,ef⟩ := tU h0; rw [Ay.step,ef] at k; refine bz (a5 h0) ?_; exact ⟨_,rfl,bc,aQ.no S (ak.refl H1) k h2⟩
end
end Go

namespace Go
open PySem PySem.Spec PyProof.Rows L2
section
variable {P : Program} {w : World} {K : Fg} {mg : Str -> Option Value} {base : Heap} {C al : Addr}
def rz (ax : Nat) (A : Ad.Arr) (zs : List Int) (p : List Nat) : Int := A.at_ (p.set ax ((zs.map Int.toNat).getD (p.getD ax 0) 0))
def wg (zs : List Int) (r : List Int) : List Int := (List.range zs.length).map fun j => r.getD (zs.getD j 0).toNat 0
theorem ab4 {zs : List Int} {n i : Nat} (hz : ∀ z ∈ zs,0 <= z /\ z < (n : Int)) (hi : i < zs.length) : (zs.getD i 0).toNat < n /\ (zs.map Int.toNat).getD i 0 = (zs.getD i 0).toNat := by
 have e := mh hi; have := hz _ (List.mem_of_getElem? e); refine ⟨by omega,?_⟩; refine bq ?_; rw [List.getElem?_map,e]; rfl
theorem wA {A : Ad.Arr} {p : List Nat} {ax : Nat} {zs : List Int} (hp : Ma.In (A.shape.set ax zs.length) p) (hx : ax < A.shape.length) (hz : ∀ z ∈ zs,0 <= z /\ z < (Ad.along A.shape ax : Int)) : (vi (wg zs (Ad.rowAt A ax p)))[p.getD ax 0]? = some (V.int (rz ax A zs p)) /\ Ma.In A.shape (p.set ax ((zs.map Int.toNat).getD (p.getD ax 0) 0)) := by
 have ha := (Ma.In.axis hp (by rw [List.length_set]; exact hx)).2; rw [Ma.mx hx] at ha; obtain ⟨h1,h2⟩ := ab4 hz ha
 constructor
 ·refine cB ?_; unfold wg; rw [dY ha]; congr 1; unfold rz; rw [h2]; exact bq (Ma.oA h1)
 ·rw [h2]; have := Ma.In.set hp hx (m := Ad.along A.shape ax) _ h1; rw [Ma.fZ (bv hx)] at this; exact this
def pW (K : Fg) (C : Addr) : Sp := fun vs H Q _ => ∃ (l : Addr) (t : Ay.State) (kk ax i j : Nat),vs = [.ref l,.int kk,.int ax,.int i,.int j] /\ aB C H l t /\ aQ C H l (Ay.step t (.take kk ax i j)) Q
theorem sc_call_take : aq ["slots","k","axis","i","j","refusal","array","numbers","lengths","rows","row","number"] ["slots","k","axis","i","j"] (aj gN) := fs
theorem ww (D : Df K mg "call_take" "call_take" gN ["slots","k","axis","i","j"]) (T : Txt K mg C) (a7 : Ok P w K mg base 4 "axis_refusal" ["slots","k","sources","axis"] (cD K C)) (fC : Ok P w K mg base 1 "are_below" ["numbers","bound"] (lD K)) (cq : Ok P w K mg base 2 "with_length" ["lengths","axis","length"] (gm K)) (aW : Ok P w K mg base 2 "is_shape" ["lengths"] (cj K)) (bf : Ok P w K mg base 4 "rows_of" ["array","axis"] (dE K C)) (a4 : Ok P w K mg base 3 "array_of_rows" ["lengths","axis","rows"] (cr K C)) (aZ : Ok P w K mg base 1 "keep" ["slots","k","array"] (b6 C)) : Ok P w K mg base 5 "call_take" ["slots","k","axis","i","j"] (pW K C) := by
 refine D.ok sc_call_take (fun _ _ _ _ h => by obtain ⟨_,_,_,_,_,_,rfl,_⟩ := h; rfl) (fun f cdv A outer s H vs Q E hr h => ?_); obtain ⟨l,t,kk,ax,i,j,rfl,S0,k0⟩ := h
 refine ⟨_,(ad (aH 5 sc_call_take.nd (ap a7 hr (ab (pv 0) (ab (pv 1) (ab (az (ab (pv 3) (ab (pv 4) ac))) (ab (pv 2) ac))))))
  (ad (aw (aF bB (pv 5) ai) (ae (ah (az (ab (pv 5) ac)))) ao)
  (ad (aH 6 sc_call_take.nd (au (pv 0) (pv 3)))
  (ad (aH 7 sc_call_take.nd (aD (au (pv 0) (pv 4)) rfl))
  (ad (aw (aF bB (bA T.b_len (aD (au (pv 0) (pv 4)) rfl)) ai) (ae (ah (az (ab (aO T.g_UNLIKE) ac)))) ao)
  (ad (aw (bx (bi (ap fC hr (ab (pv 7) (ab (au (aD (pv 6) rfl) (pv 2)) ac))))) (ae (ah (az (ab (aO T.g_NOWHERE) ac)))) ao)
  (ad (aH 8 sc_call_take.nd (ap cq hr (ab (aD (pv 6) rfl) (ab (pv 2) (ab (bA T.b_len (pv 7)) ac)))))
  (ad (aw (bx (bi (ap aW hr (ab (pv 8) ac)))) (ae (ah (az (ab (aO T.g_BEYOND) ac)))) ao)
  (ad (aH 9 sc_call_take.nd (az ac))
  (ad (bS PassesOwn.never rfl (bD (ap bf hr (ab (pv 6) (ab (pv 2) ac)))) (a0 10 sc_call_take.nd) (ae (cI (gw PySem.F.plainAttrs_list PySem.F.slot_list_append PySem.F.type_list_append dc (pv 9) (ab (dB rfl sc_call_take.nd (bD (pv 7)) (a_ (N := ["slots","k","axis","i","j","refusal","array","numbers","lengths","rows","row","number"]) (sc := aj gN) (own := [("number",11)]) (by decide +kernel)) (fun _ _ _ _ _ => (a0 11 sc_call_take.nd)) (fun _ _ _ _ _ => bt) (fun _ _ _ _ _ => (oY K (pv 10) (pv 11)))) ac)))))
  (ae (ah (ap aZ hr (ab (pv 0) (ab (pv 1) (ab (ap a4 hr (ab (pv 8) (ab (pv 2) (ab (pv 9) ac)))) ac)))))))))))))))),?_⟩
 refine ⟨_,rfl,_,rfl,_,rfl,_,rfl,lR,fun q hq => ?_⟩; have s0 : ak H (upd H q (.lst [.int i,.int j])) := ak.new hq; have hq1 : (upd H q (.lst [.int i,.int j])) q = some (.lst (vn [i,j])) := am; generalize upd H q (.lst [.int i,.int j]) = H1 at *; have S := S0.keep s0; have k := k0.same s0; refine ⟨_,rfl,l,q,t,kk,i,ax,[j],rfl,S,ag.of hq1,_,rfl,rfl,_,rfl,?_⟩
 by_cases h0 : cA t kk i [j] ax = 0
 ·refine br (congrArg V.int h0) ?_; obtain ⟨hk,hi,hj,A',B',ea,eb,hx,ef⟩ := ye h0; rw [Ay.step,ef] at k; obtain ⟨vs,x,g1,g2,hA,ho⟩ := aB.arr S hi ea; obtain ⟨dx,a1,b1,h1,h2,h3⟩ := id hA; obtain ⟨vs',y,g1',g2',hB,ho'⟩ := aB.arr S hj eb; obtain ⟨dy,a2,b2,h1',h2',h3'⟩ := id hB; have hs := (aG ho).1; obtain ⟨z1,z2,z3⟩ := Ma.aE hs; obtain ⟨w1,w2,w3⟩ := Ma.aE (aG ho').1; have hbl := (aG ho').2.1; refine ⟨_,rfl,_,rfl,l,vs,_,_,rfl,rfl,ag.of g1,g2,?_⟩; refine ⟨_,rfl,_,rfl,l,vs',_,_,rfl,rfl,ag.of g1',g2',y,C,dy,_,_,rfl,h1',T.cl,T.nC,cy a2 b2,?_⟩; refine ⟨_,rfl,_,rfl,l,vs',_,_,rfl,rfl,ag.of g1',g2',y,C,dy,_,_,rfl,h1',T.cl,T.nL,aU a2 b2,a2,_,rfl,.inl (ag.of h2'),rfl,_,rfl,?_⟩; rw [aI]
  by_cases e1 : B'.shape.length = 1
  ·refine br (by rw [e1]; rfl) ?_; rw [if_neg (by rw [e1]; simp)] at k; refine ⟨_,rfl,_,rfl,x,C,dx,_,_,rfl,h1,T.cl,T.nL,aU a1 b1,_,rfl,a1,_,_,_,rfl,rfl,ag.of h2,bE (dr (bv hx)),b2,B'.cells,Ad.along A'.shape ax,rfl,ag.of h3',_,rfl,?_⟩
   cases e2 : Ay.numbersIn (Ad.along A'.shape ax) B'.cells with
   | false =>
    rw [if_pos e2] at k; exact ⟨bc,aQ.no S (ak.refl H1) k rfl⟩
   | true =>
    rw [if_neg (by rw [e2]; simp)] at k; have hz := Ma.nT e2; refine ⟨_,rfl,x,C,dx,_,_,rfl,h1,T.cl,T.nL,aU a1 b1,_,rfl,_,rfl,b2,_,rfl,.inl (ag.of h3'),a1,vn A'.shape,ax,_,rfl,ag.of h2,by rw [aI]; omega,by rw [aI]; exact hx,fun H3 r s3 hr3 hr4 => ?_⟩; rw [aM] at hr4; have e3 : (vn A'.shape).set ax (V.int (B'.cells.length : Int)) = vn (A'.shape.set ax B'.cells.length) := ue _ _ _; rw [e3] at hr4
    have hbd : ∀ m ∈ A'.shape.set ax B'.cells.length,m < 2 ^ 63 := fun m hm => by
     rcases List.mem_or_eq_of_mem_set hm with hm | hm
     ·exact ci hs m hm
     ·omega
    refine ⟨_,rfl,r,_,rfl,ag.of hr4,hbd,_,rfl,?_⟩
    cases e4 : Ad.shapeOk (A'.shape.set ax B'.cells.length) with
    | false =>
     rw [if_pos e4] at k; exact ⟨bc,aQ.no S s3 k rfl⟩
    | true =>
     rw [if_neg (by rw [e4]; simp)] at k; have hjx : ax < (A'.shape.set ax B'.cells.length).length := by rw [List.length_set]; exact hx
     have hra : Ad.removed A'.shape ax = Ad.removed (A'.shape.set ax B'.cells.length) ax := (m4 _ _ _).symm; obtain ⟨y1,y2,y3⟩ := Ma.aE (Ma.cn hs ax); have hbf := (aG ho').2.2; have hat : ∀ {H' : Hp},ak H1 H' -> H' b2 = some (.lst (vi B'.cells)) := fun sm => sm _ _ h3'
     have hk5 : aQ C H1 l (Ay.put t kk (Ad.build (A'.shape.set ax B'.cells.length) (rz ax A' B'.cells))) Q := by
      have e5 : Ad.taken ax A' (B'.cells.map Int.toNat) = Ad.build (A'.shape.set ax B'.cells.length) (rz ax A' B'.cells) := by
       unfold Ad.taken; rw [List.length_map]; rfl
      rw [e5] at k; exact k
     clear k; generalize B'.cells = zs at *; refine ⟨Nat.zero_le _,fun d hd => ?_⟩; have s4 : ak H3 (upd H3 d (.lst [])) := ak.new hd; have hd4 : (upd H3 d (.lst [])) d = some (.lst []) := am; generalize upd H3 d (.lst []) = H4 at *; have s34 := s3.trans s4; refine ⟨_,rfl,_,rfl,x,A',ax,rfl,hA.keep s34,ho,hx,fun H5 u s5 hu hX => ?_⟩; have s35 := s34.trans s5; obtain ⟨us,hu5,hul,hus⟩ := id hX; rw [cw] at hul; have hd1 : H1 d = none := s3.free hd; have hd5 := s5 _ _ hd4; have hud : u ≠ d := fun e => by rw [e,hd4] at hu; cases hu
     refine ⟨u,rfl,⟨_,ag.of hu5⟩,d_ (K := K) (a := u) (xs := us.map V.ref) (fun n σ H' => ∃ (v1 : Option V) (qs : List Addr),σ = [some (.ref l),some (.int kk),some (.int ax),some (.int i),some (.int j),some (.int (cA t kk i [j] ax)),some (.ref x),some (.ref b2),some (.ref r),some (.ref d),v1,none] /\ H' d = some (.lst (qs.map V.ref)) /\ qs.length = n /\ (∀ (c : Nat) q,qs[c]? = some q -> q ≠ d /\ H' q = some (.lst (vi (wg zs ((Ad.rowsBy ax A').getD c []))))) /\ aN d H5 H')
      ⟨none,[],rfl,hd5,rfl,(fun c q e => by simp at e),(ak.refl H5).keep⟩ (fun n σ H' _ ⟨_,_,_,_,_,_,e⟩ => ag.of (e _ _ hu5 hud)) ?_ ?_⟩
     ·rintro n v σ H' hv ⟨v1,qs,rfl,hd',hql,hqs,kp⟩; rw [List.getElem?_map] at hv
      cases e5 : us[n]? with
      | none => rw [e5] at hv; cases hv
      | some p1 =>
       rw [e5] at hv; have e6 : V.ref p1 = v := Option.some.inj hv; subst e6; have hn : n < us.length := (List.getElem?_eq_some_iff.mp e5).1; have e7 : (dv ax A')[n]? = some ((dv ax A')[n]'(by rw [cw]; omega)) := List.getElem?_eq_getElem _; have e8 := hus n p1 _ e5 e7; generalize (dv ax A')[n]'(by rw [cw]; omega) = r0 at e7 e8; obtain ⟨r1,rfl,e9,l1,l2,l3,_⟩ := dI ho hx e7
       have hpd : p1 ≠ d := fun z => by
        rw [z,hd5] at e8; have h9 : ([] : List V) = vi r1 := HO.lst.inj (Option.some.inj e8); have := congrArg List.length h9; rw [aM,List.length_nil] at this; omega
       have hb2d : b2 ≠ d := aJ h3' hd1; have hp' : H' p1 = some (.lst (vi r1)) := kp _ _ e8 hpd; have hb' : H' b2 = some (.lst (vi zs)) := kp _ _ (s35 _ _ h3') hb2d; refine ⟨_,rfl,.inl ⟨rfl,_,ag.of hd'⟩,_,rfl,b2,rfl,⟨_,ag.of hb'⟩,fun D hD => ?_⟩; refine cF (bX (ag.of hb')) (fun m => V.int (r1.getD (zs.getD m 0).toNat 0)) hD (by rw [aM]; show _ <= 2 ^ 24; omega) ?_ bg ?_
       ·rintro m H6 v H7 hm sm ⟨rfl,hv0⟩ Q' kq; obtain ⟨z,hz0,rfl⟩ := dQ hv0; obtain ⟨b3,b4⟩ := hz z (List.mem_of_getElem? hz0); have kq2 := kq _ (ak.refl _); rw [bq hz0] at kq2; have e10 : (z.toNat : Int) = z := by omega
        have e11 : fm (vi r1) z = some (.int (r1.getD z.toNat 0)) := by
         have h12 := bE (cB (mh (l := r1) (i := z.toNat) (by omega))); rw [e10] at h12; exact h12
        exact ⟨rfl,_,rfl,_,rfl,p1,_,_,_,rfl,rfl,ag.of (sm _ _ hp'),e11,kq2⟩
       ·intro H6 sm hd6; have hDd : D ≠ d := fun z => by rw [z,hd'] at hD; cases hD
        refine ⟨d,_,_,rfl,rfl,sm _ _ hd',(by rw [List.length_map,hql]; show _ < 2 ^ 24; omega),_,qs ++ [D],rfl,?_,by simp [hql],?_,(kp.trans sm.keep).trans aN.upd⟩
        ·rw [am,List.map_append]; rfl
        ·intro c q hc
         by_cases hcl : c < qs.length
         ·rw [List.getElem?_append_left hcl] at hc; obtain ⟨g3,g4⟩ := hqs c q hc; exact ⟨g3,by rw [aK g3]; exact sm _ _ g4⟩
         ·have hc2 : c = n := by
           have := (List.getElem?_eq_some_iff.mp hc).1; simp at this; omega
          subst hc2; rw [← hql,List.getElem?_append_right (Nat.le_refl _),Nat.sub_self] at hc; cases hc; refine ⟨hDd,?_⟩; rw [aK hDd,hd6,bq e9,aM]; unfold wg; show _ = some (HO.lst (List.map V.int (List.map _ _))); rw [List.map_map]; rfl
     ·rintro σ H' ⟨v1,qs,rfl,hd',hql,hqs,kp⟩; rw [List.length_map,hul,hra] at hql; have s15 : ak H1 H' := fun b o e => kp _ _ (s35 _ _ e) (aJ e hd1)
      have hrd : r ≠ d := aJ hr4 hd; refine ⟨_,rfl,_,rfl,_,rfl,_,rfl,_,rfl,r,d,A'.shape.set ax zs.length,ax,_,fun p => V.int (rz ax A' zs p),rfl,kp _ _ ((s4.trans s5) _ _ hr4) hrd,e4,hjx,dA.ofF hd' hql (fun c q e => (hqs c q e).2),?_,fun H7 yy s7 hyy hA7 => ?_⟩
      ·intro p hp; refine ⟨_,dY (og hp) _,?_⟩; rw [bq (ib hra hp hjx)]; exact (wA hp hx hz).1
      ·have s17 := s15.trans s7; exact ⟨l,yy,t,kk,_,rfl,hk,S.keep s17,j9 (h := rz ax A' zs) hA7,eW e4 fun p hp => fD ho (wA hp hx hz).2,hk5.same s17⟩
  ·refine bz (a5 (by omega)) ?_; rw [if_pos e1] at k; exact ⟨bc,aQ.no S (ak.refl H1) k rfl⟩
 ·obtain ⟨n,h2,ef⟩ := z4 h0; rw [Ay.step,ef] at k; refine bz (a5 h0) ?_; exact ⟨_,rfl,bc,aQ.no S (ak.refl H1) k h2⟩
end
end Go

namespace Go
open PySem PySem.Spec PyProof.Rows L2
section
variable {P : Program} {w : World} {K : Fg} {mg : Str -> Option Value} {base : Heap} {C al : Addr}
theorem sz3 : 3 <= sizeLine := by decide
def qA (K : Fg) (C : Addr) : Sp := fun vs H Q _ => ∃ (l : Addr) (t : Ay.State) (i m j n : Nat),vs = [.ref l,.int i,.int m,.int j,.int n] /\ aB C H l t /\ aQ C H l (Ay.step t (.land i m j n)) Q
theorem sc_call_land : aq ["slots","i","mode","j","l","refusal","numbers"] ["slots","i","mode","j","l"] (aj jM) := fs
theorem wI (D : Df K mg "call_land" "call_land" jM ["slots","i","mode","j","l"]) (T : Txt K mg C) (bu : Ok P w K mg base 2 "sources_refusal" ["slots","sources"] (c_ K C)) (fC : Ok P w K mg base 1 "are_below" ["numbers","bound"] (lD K)) (jk : Ok P w K mg base 4 "landed_array" ["array","mode","numbers","landing"] (my K C)) (bh : Ok P w K mg base 2 "keep_reckoned" ["slots","k","array"] (bW C)) : Ok P w K mg base 5 "call_land" ["slots","i","mode","j","l"] (qA K C) := by
 refine D.ok sc_call_land (fun _ _ _ _ h => by obtain ⟨_,_,_,_,_,_,rfl,_⟩ := h; rfl) (fun f cdv A outer s H vs Q E hr h => ?_); obtain ⟨l,t,i,m,j,n,rfl,S0,k0⟩ := h
 refine ⟨_,(ad (aH 5 sc_call_land.nd (ap bu hr (ab (pv 0) (ab (az (ab (pv 1) (ab (pv 3) (ab (pv 4) ac)))) ac))))
  (ad (aw (aF bB (pv 5) ai) (ae (ah (az (ab (pv 5) ac)))) ao)
  (ad (aw (aF k_ (pv 2) (aO T.g_GREATEST_MODE)) (ae (ah (az (ab (aO T.g_WRONG) ac)))) ao)
  (ad (aw (aF (ul hr.units) (aD (au (pv 0) (pv 3)) rfl) (aD (au (pv 0) (pv 4)) rfl)) (ae (ah (az (ab (aO T.g_UNLIKE) ac)))) ao)
  (ad (aH 6 sc_call_land.nd (aD (au (pv 0) (pv 3)) rfl))
  (ad (aw (bx (bi (ap fC hr (ab (pv 6) (ab (bA T.b_len (aD (au (pv 0) (pv 1)) rfl)) ac))))) (ae (ah (az (ab (aO T.g_NOWHERE) ac)))) ao)
  (ae (ah (ap bh hr (ab (pv 0) (ab (pv 1) (ab (ap jk hr (ab (au (pv 0) (pv 1)) (ab (pv 2) (ab (pv 6) (ab (aD (au (pv 0) (pv 4)) rfl) ac))))) ac)))))))))))),?_⟩
 refine ⟨_,rfl,_,rfl,_,rfl,_,rfl,sz3,fun q hq => ?_⟩; have s0 : ak H (upd H q (.lst [.int i,.int j,.int n])) := ak.new hq; have hq1 : (upd H q (.lst [.int i,.int j,.int n])) q = some (.lst (vn [i,j,n])) := am; generalize upd H q (.lst [.int i,.int j,.int n]) = H1 at *; have S := S0.keep s0; have k := k0.same s0; refine ⟨l,q,t,[i,j,n],rfl,S,ag.of hq1,_,rfl,rfl,_,rfl,?_⟩
 by_cases h0 : cp t [i,j,n] = 0
 ·refine br (congrArg V.int h0) ?_; obtain ⟨hi,hj,hn,A',B',D',ea,eb,ed,ef⟩ := abV h0; rw [Ay.step,ef] at k; obtain ⟨vs,x,g1,g2,hA,ho⟩ := aB.arr S hi ea; obtain ⟨dx,a1,b1,h1,h2,h3⟩ := id hA; obtain ⟨vs',y,g1',g2',hB,ho'⟩ := aB.arr S hj eb; obtain ⟨dy,a2,b2,h1',h2',h3'⟩ := id hB; obtain ⟨ws,z,f1,f2,hD,od⟩ := aB.arr S hn ed; obtain ⟨dz,a3,b3,e1,e2,e3⟩ := id hD; refine ⟨_,rfl,_,_,rfl,rfl,_,rfl,ba (fun h => ?_) (fun h => ?_)⟩
  ·have h4 : (3 : Int) < (m : Int) := of_decide_eq_true h; rw [if_pos (by omega)] at k; exact ⟨bc,aQ.no S (ak.refl H1) k rfl⟩
  have h4 : ¬ (3 : Int) < (m : Int) := fun z => h (decide_eq_true z)
  rw [if_neg (by omega)] at k; refine ⟨_,rfl,_,rfl,l,vs',_,_,rfl,rfl,ag.of g1',g2',y,C,dy,_,_,rfl,h1',T.cl,T.nL,aU a2 b2,_,rfl,_,rfl,l,ws,_,_,rfl,rfl,ag.of f1,f2,z,C,dz,_,_,rfl,e1,T.cl,T.nL,aU a3 b3,a2,a3,Ma.nz B'.shape,Ma.nz D'.shape,rfl,rfl,ag.of h2',ag.of e2,_,rfl,?_⟩
  by_cases es : B'.shape = D'.shape
  ·refine br (by rw [es]) ?_; rw [if_neg (by rw [es]; simp)] at k; have hla := (aG ho).2.1; refine ⟨_,rfl,_,rfl,l,vs',_,_,rfl,rfl,ag.of g1',g2',y,C,dy,_,_,rfl,h1',T.cl,T.nC,cy a2 b2,?_⟩; refine ⟨_,rfl,_,rfl,_,rfl,l,vs,_,_,rfl,rfl,ag.of g1,g2,x,C,dx,_,_,rfl,h1,T.cl,T.nC,cy a1 b1,b1,_,rfl,.inl (ag.of h3),b2,B'.cells,A'.cells.length,by rw [aM]; rfl,ag.of h3',_,rfl,?_⟩; rw [hla]
   cases e2 : Ay.numbersIn (Ad.product_ A'.shape) B'.cells with
   | false =>
    rw [if_pos e2] at k; exact ⟨bc,aQ.no S (ak.refl H1) k rfl⟩
   | true =>
    rw [if_neg (by rw [e2]; simp)] at k; have hz := Ma.nT e2; rw [← hla] at hz; have hlen : B'.cells.length = D'.cells.length := by rw [(aG ho').2.1,(aG od).2.1,es]
    refine ⟨_,rfl,_,rfl,_,rfl,_,rfl,l,vs,_,_,rfl,rfl,ag.of g1,g2,_,rfl,_,rfl,_,rfl,_,rfl,l,ws,_,_,rfl,rfl,ag.of f1,f2,z,C,dz,_,_,rfl,e1,T.cl,T.nC,cy a3 b3,x,b2,b3,A',m,B'.cells,D'.cells,rfl,hA,ho,by omega,ag.of h3',ag.of e3,hlen,hz,(aG od).2.2,fun H2 u t2 hu hA2 => ?_⟩
    have e4 : Ad.landOn m B'.cells D'.cells A'.cells = Ad.allOf (Ma.cY m (A'.cells.map some) (B'.cells.zip D'.cells)) := by
     rw [Ma.w9 _ _ (fun z hz2 => by
      have := hz _ (List.of_mem_zip hz2).1
      omega)]
     rfl
    rw [e4] at k; refine ⟨l,u,t,i,A'.shape,_,rfl,hi,S.keep t2,hA2,(aG ho).1,?_,?_,k.same t2⟩
    ·rw [Ma.qL,List.length_map,hla]
    ·refine Ma.oP _ _ (fun w hw => ?_) (fun w hw => (aG od).2.2 _ (List.of_mem_zip hw).2); obtain ⟨y,hy,e⟩ := List.mem_map.mp hw; cases e; exact (aG ho).2.2 _ hy
  ·refine bz (fun z => es (Ma.ot z)) ?_; rw [if_pos es] at k; exact ⟨bc,aQ.no S (ak.refl H1) k rfl⟩
 ·obtain ⟨n',h2,ef⟩ := acO h0; rw [Ay.step,ef] at k; refine bz (a5 h0) ?_; exact ⟨_,rfl,bc,aQ.no S (ak.refl H1) k h2⟩
def pF (K : Fg) : Sp := fun vs H Q _ => ∃ (a b : Addr) (s g : List Nat),vs = [.ref a,.ref b] /\ ag K H a (vn s) /\ ag K H b (vn g) /\ Q (.bl (decide (s.length = 2 /\ g.length = 2 /\ Ad.along s 1 = Ad.along g 0))) H
theorem wc : aq ["first","second"] ["first","second"] (aj iD) := fs
theorem vR (D : Df K mg "tables_fit" "tables_fit" iD ["first","second"]) (T : Txt K mg C) : Ok P w K mg base 1 "tables_fit" ["first","second"] (pF K) := by
 refine D.ok wc (fun _ _ _ _ h => by obtain ⟨_,_,_,_,rfl,_⟩ := h; rfl) (fun f cdv A outer s H vs Q E hr h => ?_); obtain ⟨a,b,s1,g1,rfl,ha,hb,k⟩ := h; refine ⟨_,(ae (ah (pY (lZ bC (bA T.b_len (pv 0)) ai) (pY (lZ bC (bA T.b_len (pv 1)) ai) (tO (lZ bC (au (pv 0) ai) (au (pv 1) ai))))))),?_⟩; refine ⟨_,rfl,a,_,rfl,.inl ha,rfl,_,rfl,?_⟩; rw [aI]
 by_cases e1 : s1.length = 2
 ·refine dw (by rw [e1]; rfl) ?_; refine ⟨_,rfl,b,_,rfl,.inl hb,rfl,_,rfl,?_⟩; rw [aI]
  by_cases e2 : g1.length = 2
  ·refine dw (by rw [e2]; rfl) ?_; refine ⟨_,rfl,a,_,_,_,rfl,rfl,ha,(bE (j := 1) (dr (bv (s := s1) (ax := 1) (by omega))) : fm _ 1 = _),_,rfl,b,_,_,_,rfl,rfl,hb,(bE (j := 0) (dr (bv (s := g1) (ax := 0) (by omega))) : fm _ 0 = _),rfl,?_⟩
   have e3 : decide (V.int ((Ad.along s1 1 : Nat) : Int) = V.int ((Ad.along g1 0 : Nat) : Int)) = decide (s1.length = 2 /\ g1.length = 2 /\ Ad.along s1 1 = Ad.along g1 0) := by
    by_cases q : Ad.along s1 1 = Ad.along g1 0
    ·rw [q,decide_eq_true rfl,decide_eq_true ⟨e1,e2,rfl⟩]
    ·rw [decide_eq_false (a5 (by omega)),decide_eq_false (fun z => q z.2.2)]
   rw [← e3] at k; exact k
  ·refine dG (a5 (by omega)) ?_; rw [decide_eq_false (fun z => e2 z.2.1)] at k; exact k
 ·refine dG (a5 (by omega)) ?_; rw [decide_eq_false (fun z => e1 z.1)] at k; exact k
def oo (K : Fg) : Sp := fun vs H Q _ => ∃ (a b : Addr) (xs ys : List Int),vs = [.ref a,.ref b] /\ ag K H a (vi xs) /\ ag K H b (vi ys) /\ xs.length = ys.length /\ (∀ z ∈ xs,Ad.cellFine z = true) /\ (∀ z ∈ ys,Ad.cellFine z = true) /\ ∀ H',ak H H' -> Q (ov (Ma.jb xs ys)) H'
theorem sc_product_sum : aq ["row","column","total","x","y"] ["row","column"] (aj h_) := fs
theorem uK (D : Df K mg "product_sum" "product_sum" h_ ["row","column"]) (T : Txt K mg C) (cv : Ok P w K mg base 2 "op_cell" ["op","x","y"] (i0)) : Ok P w K mg base 3 "product_sum" ["row","column"] (oo K) := by
 refine D.ok sc_product_sum (fun _ _ _ _ h => by obtain ⟨_,_,_,_,rfl,_⟩ := h; rfl) (fun f cdv A outer s H vs Q E hr h => ?_); obtain ⟨a,b,xs,ys,rfl,ha,hb,hl,hfx,hfy,k⟩ := h
 refine ⟨_,(ad (aH 2 sc_product_sum.nd ai)
  (ad (bS PassesOwn.never rfl (fv rfl T.b_zip (ab (pv 0) (ab (pv 1) ac))) (gQ rfl (be (a0 3 sc_product_sum.nd) (be (a0 4 sc_product_sum.nd) cX))) (ae (aH 2 sc_product_sum.nd (ap cv hr (ab (aO T.g_SUM) (ab (pv 2) (ab (ap cv hr (ab (aO T.g_PRODUCT) (ab (pv 3) (ab (pv 4) ac)))) ac)))))))
  (ae (ah (pv 2))))),?_⟩
 refine ⟨_,rfl,_,rfl,a,b,_,_,rfl,ha,hb,iu (K := K) (a := a) (b := b) (xs := vi xs) (ys := vi ys)
  (fun i σ H' => ∃ (v1 v2 : Option V),σ = [some (.ref a),some (.ref b),some (ov (((xs.zip ys).take i).foldl (fun o z => Ma.fu 0 o (Ma.fu 2 (some z.1) (some z.2))) (some 0))),v1,v2] /\ ak H H')
  ⟨none,none,rfl,ak.refl H⟩ (by rw [aM,aM,hl]) (fun i σ H' _ ⟨_,_,_,e⟩ => ⟨e.seq ha,e.seq hb⟩) ?_ ?_⟩
 ·rintro i z1 z2 σ H' TT hy1 hy2 hT ⟨v1,v2,rfl,sm⟩; obtain ⟨z1,hz1,rfl⟩ := dQ hy1; obtain ⟨z2,hz2,rfl⟩ := dQ hy2; have hz : (xs.zip ys)[i]? = some (z1,z2) := List.getElem?_zip_eq_some.mpr ⟨hz1,hz2⟩; refine ⟨TT,_,rfl,cG.of am,rfl,_,_,rfl,_,_,rfl,rfl,?_⟩; refine ⟨_,rfl,_,rfl,_,rfl,2,some z1,some z2,rfl,mz hfx hz1,mz hfy hz2,0,((xs.zip ys).take i).foldl (fun o z => Ma.fu 0 o (Ma.fu 2 (some z.1) (some z.2))) (some 0),Ma.fu 2 (some z1) (some z2),rfl,fun z hz => Ma.zB hz,fun z hz => Ma.sY hz,?_⟩; refine ⟨some (.int z1),some (.int z2),?_,sm.upd (sm.free hT)⟩; rw [bU hz,Ma.aaF]; rfl
 ·rintro σ H' ⟨v1,v2,rfl,sm⟩; rw [aM,show xs.length = (xs.zip ys).length by rw [List.length_zip,← hl,Nat.min_self],List.take_length]; exact ⟨_,rfl,k H' sm⟩
def i8 (K : Fg) (C : Addr) : Sp := fun vs H Q _ => ∃ (x y : Addr) (A B : Ad.Arr) (n c m : Nat),vs = [.ref x,.ref y] /\ b_ C H x A /\ b_ C H y B /\ A.ok = true /\ B.ok = true /\ A.shape = [n,c] /\ B.shape = [c,m] /\ n * m <= 1024 /\ ∀ H' q,ak H H' -> H q = none -> H' q = some (.lst (vo (Ma.fS A B n m))) -> Q (.ref q) H'
theorem sc_multiplied_cells : aq ["first","second","columns","cells","row","column"] ["first","second"] (aj db) := fs
theorem pT (D : Df K mg "multiplied_cells" "multiplied_cells" db ["first","second"]) (T : Txt K mg C) (bf : Ok P w K mg base 4 "rows_of" ["array","axis"] (dE K C)) (kl : Ok P w K mg base 3 "product_sum" ["row","column"] (oo K)) : Ok P w K mg base 5 "multiplied_cells" ["first","second"] (i8 K C) := by
 refine D.ok sc_multiplied_cells (fun _ _ _ _ h => by obtain ⟨_,_,_,_,_,_,_,rfl,_⟩ := h; rfl) (fun f cdv A outer s H vs Q E hr h => ?_); obtain ⟨x,y,A',B',n,c,m,rfl,hA,hB,ho,ho',ha,hb,hnm,k⟩ := h
 refine ⟨_,(ad (aH 2 sc_multiplied_cells.nd (ap bf hr (ab (pv 1) (ab ai ac))))
  (ad (aH 3 sc_multiplied_cells.nd (az ac))
  (ad (bS PassesOwn.never rfl (bD (ap bf hr (ab (pv 0) (ab ai ac)))) (a0 4 sc_multiplied_cells.nd) (ae (cI (gw PySem.F.plainAttrs_list PySem.F.slot_list_extend PySem.F.type_list_extend vx (pv 3) (ab (dB rfl sc_multiplied_cells.nd (bD (pv 2)) (a_ (N := ["first","second","columns","cells","row","column"]) (sc := aj db) (own := [("column",5)]) (by decide +kernel)) (fun _ _ _ _ _ => (a0 5 sc_multiplied_cells.nd)) (fun _ _ _ _ _ => bt) (fun _ _ _ _ _ => (ap kl hr (ab (pv 4) (ab (pv 5) ac))))) ac)))))
  (ae (ah (pv 3)))))),?_⟩
 have hx1 : 1 < A'.shape.length := by rw [ha]; exact Nat.lt_succ_self 1
 have hx0 : 0 < B'.shape.length := by rw [hb]; exact Nat.succ_pos 1
 have lA : (dv 1 A').length = n := by
  rw [cw,ha]; show n * 1 = n; omega
 have lB : (dv 0 B').length = m := by
  rw [cw,hb]; show m * 1 = m; omega
 refine ⟨_,rfl,y,B',0,rfl,hB,ho',hx0,fun H1 u t1 hu hU => ?_⟩; refine ⟨Nat.zero_le _,fun d hd => ?_⟩; have t2 : ak H1 (upd H1 d (.lst [])) := ak.new hd; have hd2 : (upd H1 d (.lst [])) d = some (.lst []) := am; generalize upd H1 d (.lst []) = H2 at *; have t12 := t1.trans t2; have hd0 : H d = none := t1.free hd; refine ⟨_,rfl,x,A',1,rfl,hA.keep t12,ho,hx1,fun H3 v t3 hv hV => ?_⟩; have t13 := t12.trans t3; have hd3 := t3 _ _ hd2; have hU3 := hU.keep (t2.trans t3); obtain ⟨us,hu3,hul,hus⟩ := id hU3; obtain ⟨vs3,hv3,hvl,hvs⟩ := id hV; rw [lA] at hvl; rw [lB] at hul; have hvd : v ≠ d := fun e => by rw [e,hd2] at hv; cases hv
 have hu1 : H1 u = some (.lst (us.map V.ref)) := by
  obtain ⟨us',hu',_⟩ := id hU; have := (t2.trans t3) _ _ hu'; rw [hu3] at this; rw [hu',← Option.some.inj this]
 have hud : u ≠ d := aJ hu1 hd
 have rowA : ∀ (i : Nat) p,vs3[i]? = some p -> ∃ r,H3 p = some (.lst (vi r)) /\ p ≠ d /\ (Ad.rowsBy 1 A')[i]? = some r /\ r.length = c /\ ∀ z ∈ r,Ad.cellFine z = true := fun i p hp => by
  have hi : i < vs3.length := (List.getElem?_eq_some_iff.mp hp).1; have e7 : (dv 1 A')[i]? = some ((dv 1 A')[i]'(by omega)) := List.getElem?_eq_getElem _; have e8 := hvs i p _ hp e7; generalize (dv 1 A')[i]'(by omega) = r0 at e7 e8; obtain ⟨r1,rfl,e9,l1,l2,l3,l4⟩ := dI ho hx1 e7; refine ⟨r1,e8,fun z => ?_,e9,by rw [l1,ha]; rfl,l4⟩; rw [z,hd3] at e8; have h9 : ([] : List V) = vi r1 := HO.lst.inj (Option.some.inj e8); have := congrArg List.length h9; rw [aM,List.length_nil] at this; omega
 have rowB : ∀ (i : Nat) p,us[i]? = some p -> ∃ r,H3 p = some (.lst (vi r)) /\ p ≠ d /\ (Ad.rowsBy 0 B')[i]? = some r /\ r.length = c /\ ∀ z ∈ r,Ad.cellFine z = true := fun i p hp => by
  have hi : i < us.length := (List.getElem?_eq_some_iff.mp hp).1; have e7 : (dv 0 B')[i]? = some ((dv 0 B')[i]'(by omega)) := List.getElem?_eq_getElem _; have e8 := hus i p _ hp e7; generalize (dv 0 B')[i]'(by omega) = r0 at e7 e8; obtain ⟨r1,rfl,e9,l1,l2,l3,l4⟩ := dI ho' hx0 e7; refine ⟨r1,e8,fun z => ?_,e9,by rw [l1,hb]; rfl,l4⟩; rw [z,hd3] at e8; have h9 : ([] : List V) = vi r1 := HO.lst.inj (Option.some.inj e8); have := congrArg List.length h9; rw [aM,List.length_nil] at this; omega
 have hmc : m <= 100000 := by
  obtain ⟨w1,w2,w3⟩ := Ma.aE (aG ho').1; have := Ma.cg w2 m (by rw [hb]; simp); omega
 refine ⟨v,rfl,⟨_,ag.of hv3⟩,d_ (K := K) (a := v) (xs := vs3.map V.ref) (fun i σ H' => ∃ (v1 : Option V),σ = [some (.ref x),some (.ref y),some (.ref u),some (.ref d),v1,none] /\ H' d = some (.lst (vo (Ma.fS A' B' i m))) /\ aN d H3 H')
  ⟨none,rfl,(by rw [hd3]; unfold Ma.fS; rw [Nat.zero_mul]; rfl),(ak.refl H3).keep⟩ (fun i σ H' _ ⟨_,_,_,e⟩ => ag.of (e _ _ hv3 hvd)) ?_ ?_⟩
 ·rintro i x0 σ H' hi ⟨v1,rfl,hd',kp⟩; rw [List.getElem?_map] at hi
  cases e5 : vs3[i]? with
  | none => rw [e5] at hi; cases hi
  | some p1 =>
   rw [e5] at hi; have e6 : V.ref p1 = x0 := Option.some.inj hi; subst e6; obtain ⟨r1,b1,b2,b3,b4,b5⟩ := rowA i p1 e5; have hin : i < n := by rw [← hvl]; exact (List.getElem?_eq_some_iff.mp e5).1
   have hu' : H' u = some (.lst (us.map V.ref)) := kp _ _ hu3 hud; refine ⟨_,rfl,.inl ⟨rfl,_,ag.of hd'⟩,_,rfl,u,rfl,⟨_,ag.of hu'⟩,fun D hD => ?_⟩; refine cF (bX (ag.of hu')) (fun j => ov (Ma.lq A' B' m i j)) hD (by rw [List.length_map,hul]; show _ <= 2 ^ 24; omega) ?_ bg ?_
   ·rintro j H4 v4 H5 hj sm ⟨rfl,hv4⟩ Q' kq; rw [List.getElem?_map] at hv4
    cases e7 : us[j]? with
    | none => rw [e7] at hv4; cases hv4
    | some p2 =>
     rw [e7] at hv4; have e8 : V.ref p2 = v4 := Option.some.inj hv4; subst e8; obtain ⟨r2,c1,c2,c3,c4,c5⟩ := rowB j p2 e7; refine ⟨rfl,_,rfl,_,rfl,p1,p2,r1,r2,rfl,ag.of (sm _ _ (kp _ _ b1 b2)),ag.of (sm _ _ (kp _ _ c1 c2)),by rw [b4,c4],b5,c5,fun H6 t6 => ?_⟩; have kq2 := kq H6 t6; unfold Ma.lq at kq2; rw [bq b3,bq c3] at kq2; exact kq2
   ·intro H4 sm hd4; have hDd : D ≠ d := fun z => by rw [z,hd'] at hD; cases hD
    have hlen : (vo (Ma.fS A' B' i m)).length + ((List.range (us.map V.ref).length).map fun j => ov (Ma.lq A' B' m i j)).length <= 2 ^ 24 := by
     rw [List.length_map,List.length_map,List.length_range,List.length_map,hul]; unfold Ma.fS; rw [List.length_map,List.length_range]; have := Nat.mul_le_mul_right m (show i <= n by omega); omega
    refine ⟨d,D,_,_,rfl,rfl,sm _ _ hd',hd4,hlen,_,rfl,?_,(kp.trans sm.keep).trans aN.upd⟩; rw [am,Ma.x4,List.length_map,hul]; show _ = some (HO.lst (List.map ov (_ ++ List.map _ _))); rw [List.map_append,List.map_map]; rfl
 ·rintro σ H' ⟨v1,rfl,hd',kp⟩; rw [List.length_map,hvl] at hd'; have sm : ak H H' := fun b o e => kp _ _ (t13 _ _ e) (aJ e hd0)
  exact ⟨_,rfl,k H' d sm hd0 hd'⟩
end
end Go

namespace Go
open PySem PySem.Spec PyProof.Rows L2
section
variable {P : Program} {w : World} {K : Fg} {mg : Str -> Option Value} {base : Heap} {C al : Addr}
theorem aat {s : List Nat} (h : s.length = 2) : s = [Ad.along s 0,Ad.along s 1] := by
 match s,h with
 | [a,b],_ => rfl
def pR (K : Fg) (C : Addr) : Sp := fun vs H Q _ => ∃ (l : Addr) (t : Ay.State) (kk i j : Nat),vs = [.ref l,.int kk,.int i,.int j] /\ aB C H l t /\ aQ C H l (Ay.step t (.times kk i j)) Q
theorem sc_call_times : aq ["slots","k","i","j","refusal","first","second","lengths"] ["slots","k","i","j"] (aj iE) := fs
theorem vW (D : Df K mg "call_times" "call_times" iE ["slots","k","i","j"]) (T : Txt K mg C) (aR : Ok P w K mg base 3 "slots_refusal" ["slots","k","sources"] (bV K C)) (ly : Ok P w K mg base 1 "tables_fit" ["first","second"] (pF K)) (aW : Ok P w K mg base 2 "is_shape" ["lengths"] (cj K)) (gc : Ok P w K mg base 5 "multiplied_cells" ["first","second"] (i8 K C)) (bh : Ok P w K mg base 2 "keep_reckoned" ["slots","k","array"] (bW C)) (aS : dS P w K mg base 1 "Array" C ["self","lengths","cells"] (bP C)) : Ok P w K mg base 6 "call_times" ["slots","k","i","j"] (pR K C) := by
 refine D.ok sc_call_times (fun _ _ _ _ h => by obtain ⟨_,_,_,_,_,rfl,_⟩ := h; rfl) (fun f cdv A outer s H vs Q E hr h => ?_); obtain ⟨l,t,kk,i,j,rfl,S0,k0⟩ := h
 refine ⟨_,(ad (aH 4 sc_call_times.nd (ap aR hr (ab (pv 0) (ab (pv 1) (ab (az (ab (pv 2) (ab (pv 3) ac))) ac)))))
  (ad (aw (aF bB (pv 4) ai) (ae (ah (az (ab (pv 4) ac)))) ao)
  (ad (aH 5 sc_call_times.nd (au (pv 0) (pv 2)))
  (ad (aH 6 sc_call_times.nd (au (pv 0) (pv 3)))
  (ad (aw (bx (bi (ap ly hr (ab (aD (pv 5) rfl) (ab (aD (pv 6) rfl) ac))))) (ae (ah (az (ab (aO T.g_UNLIKE) ac)))) ao)
  (ad (aH 7 sc_call_times.nd (az (ab (au (aD (pv 5) rfl) ai) (ab (au (aD (pv 6) rfl) ai) ac))))
  (ad (aw (bx (bi (ap aW hr (ab (pv 7) ac)))) (ae (ah (az (ab (aO T.g_BEYOND) ac)))) ao)
  (ae (ah (ap bh hr (ab (pv 0) (ab (pv 1) (ab (d5 aS hr (ab (pv 7) (ab (ap gc hr (ab (pv 5) (ab (pv 6) ac))) ac))) ac))))))))))))),?_⟩
 refine ⟨_,rfl,_,rfl,_,rfl,_,rfl,lR,fun q hq => ?_⟩; have s0 : ak H (upd H q (.lst [.int i,.int j])) := ak.new hq; have hq1 : (upd H q (.lst [.int i,.int j])) q = some (.lst (vn [i,j])) := am; generalize upd H q (.lst [.int i,.int j]) = H1 at *; have S := S0.keep s0; have k := k0.same s0; refine ⟨l,q,t,kk,[i,j],rfl,S,ag.of hq1,_,rfl,rfl,_,rfl,?_⟩
 by_cases h0 : bK t kk [i,j] = 0
 ·refine br (congrArg V.int h0) ?_; obtain ⟨hk,hi,hj,A',B',ea,eb,ef⟩ := ow h0; rw [Ay.step,ef] at k; obtain ⟨vs,x,g1,g2,hA,ho⟩ := aB.arr S hi ea; obtain ⟨dx,a1,b1,h1,h2,h3⟩ := id hA; obtain ⟨vs',y,g1',g2',hB,ho'⟩ := aB.arr S hj eb; obtain ⟨dy,a2,b2,h1',h2',h3'⟩ := id hB; refine ⟨_,rfl,_,rfl,l,vs,_,_,rfl,rfl,ag.of g1,g2,_,rfl,_,rfl,l,vs',_,_,rfl,rfl,ag.of g1',g2',?_⟩; refine ⟨_,rfl,x,C,dx,_,_,rfl,h1,T.cl,T.nL,aU a1 b1,_,rfl,y,C,dy,_,_,rfl,h1',T.cl,T.nL,aU a2 b2,a1,a2,A'.shape,B'.shape,rfl,ag.of h2,ag.of h2',_,rfl,?_⟩
  by_cases e1 : A'.shape.length = 2 /\ B'.shape.length = 2 /\ Ad.along A'.shape 1 = Ad.along B'.shape 0
  ·obtain ⟨e2,e3,e4⟩ := id e1; rw [decide_eq_true e1]; rw [if_neg (by rw [e2,e3,e4]; simp)] at k; have hn0 := bv (s := A'.shape) (ax := 0) (by omega); have hm1 := bv (s := B'.shape) (ax := 1) (by omega); refine ⟨_,rfl,x,C,dx,_,_,rfl,h1,T.cl,T.nL,aU a1 b1,a1,_,_,_,rfl,rfl,ag.of h2,(bE (j := 0) (dr hn0) : fm _ 0 = _),_,rfl,y,C,dy,_,_,rfl,h1',T.cl,T.nL,aU a2 b2,a2,_,_,_,rfl,rfl,ag.of h2',(bE (j := 1) (dr hm1) : fm _ 1 = _),lR,fun u hu => ?_⟩
   have sA : A'.shape = [Ad.along A'.shape 0,Ad.along B'.shape 0] := by
    rw [← e4]; exact aat e2
   have sB : B'.shape = [Ad.along B'.shape 0,Ad.along B'.shape 1] := aat e3; have bn := ci (aG ho).1 _ (List.mem_of_getElem? hn0); have bm := ci (aG ho').1 _ (List.mem_of_getElem? hm1); have t2 : ak H1 (upd H1 u (.lst [.int ((Ad.along A'.shape 0 : Nat) : Int),.int ((Ad.along B'.shape 1 : Nat) : Int)])) := ak.new hu; have hu2 : (upd H1 u (.lst [.int ((Ad.along A'.shape 0 : Nat) : Int),.int ((Ad.along B'.shape 1 : Nat) : Int)])) u = some (.lst (vn [Ad.along A'.shape 0,Ad.along B'.shape 1])) := am; generalize upd H1 u (.lst [.int ((Ad.along A'.shape 0 : Nat) : Int),.int ((Ad.along B'.shape 1 : Nat) : Int)]) = H2 at *; generalize Ad.along A'.shape 0 = n at *; generalize Ad.along B'.shape 1 = m at *; generalize Ad.along B'.shape 0 = c at *
   refine ⟨_,rfl,u,[n,m],rfl,ag.of hu2,(fun z hz => by
    rcases List.mem_cons.mp hz with e | e
    ·rw [e]; exact bn
    ·rw [List.mem_singleton.mp e]; exact bm),_,rfl,?_⟩
   cases e5 : Ad.shapeOk [n,m] with
   | false =>
    rw [if_pos e5] at k; exact ⟨bc,aQ.no S t2 k rfl⟩
   | true =>
    rw [if_neg (by rw [e5]; simp)] at k
    have hprod : Ad.product_ [n,m] = n * m := by
     show n * (m * 1) = n * m; rw [Nat.mul_one]
    have hnm : n * m <= 1024 := by
     rw [← hprod]; exact (Ma.aE e5).2.2
    refine ⟨_,rfl,_,rfl,_,rfl,_,rfl,_,rfl,x,y,A',B',n,c,m,rfl,hA.keep t2,hB.keep t2,ho,ho',sA,sB,hnm,fun H3 d t3 hd hd3 => ?_⟩; have t13 := t2.trans t3; refine jX (Q := fun v H5 => bW C ([.ref l,.int kk,v] ++ []) H5 Q E0) (s := [n,m]) (t3 _ _ hu2) hd3 fun z H5 hz t5 hA5 => ?_
    have t15 := t13.trans t5; rw [← Ma.zX sA sB] at k; refine ⟨l,z,t,kk,_,_,rfl,hk,S.keep t15,hA5,e5,?_,?_,k.same t15⟩
    ·unfold Ma.fS; rw [List.length_map,List.length_range,hprod]
    ·intro w hw; obtain ⟨_,_,e⟩ := List.mem_map.mp hw; exact Ma.vL e
  ·rw [decide_eq_false e1]; rw [if_pos (by omega)] at k; exact ⟨bc,aQ.no S (ak.refl H1) k rfl⟩
 ·obtain ⟨n,h2,ef⟩ := tU h0; rw [Ay.step,ef] at k; refine bz (a5 h0) ?_; exact ⟨_,rfl,bc,aQ.no S (ak.refl H1) k h2⟩
def qt (K : Fg) (C : Addr) : Sp := fun vs H Q _ => ∃ (l : Addr) (t : Ay.State) (i j : Nat),vs = [.ref l,.int i,.int j] /\ aB C H l t /\ aQ C H l (Ay.step t (.same i j)) Q
theorem sc_call_same : aq ["slots","i","j","refusal","are_same"] ["slots","i","j"] (aj jx) := fs
theorem wX (D : Df K mg "call_same" "call_same" jx ["slots","i","j"]) (T : Txt K mg C) (bu : Ok P w K mg base 2 "sources_refusal" ["slots","sources"] (c_ K C)) : Ok P w K mg base 3 "call_same" ["slots","i","j"] (qt K C) := by
 refine D.ok sc_call_same (fun _ _ _ _ h => by obtain ⟨_,_,_,_,rfl,_⟩ := h; rfl) (fun f cdv A outer s H vs Q E hr h => ?_); obtain ⟨l,t,i,j,rfl,S0,k0⟩ := h
 refine ⟨_,(ad (aH 3 sc_call_same.nd (ap bu hr (ab (pv 0) (ab (az (ab (pv 1) (ab (pv 2) ac))) ac))))
  (ad (aw (aF bB (pv 3) ai) (ae (ah (az (ab (pv 3) ac)))) ao)
  (ad (aH 4 sc_call_same.nd (pY (lZ (xA hr.units) (aD (au (pv 0) (pv 1)) rfl) (aD (au (pv 0) (pv 2)) rfl)) (tO (lZ (xA hr.units) (aD (au (pv 0) (pv 1)) rfl) (aD (au (pv 0) (pv 2)) rfl)))))
  (ae (ah (az (ab ai (ab (fV (bi (pv 4)) ai ai) ac)))))))),?_⟩
 refine ⟨_,rfl,_,rfl,_,rfl,lR,fun q hq => ?_⟩; have s0 : ak H (upd H q (.lst [.int i,.int j])) := ak.new hq; have hq1 : (upd H q (.lst [.int i,.int j])) q = some (.lst (vn [i,j])) := am; generalize upd H q (.lst [.int i,.int j]) = H1 at *; have S := S0.keep s0; have k := k0.same s0; refine ⟨l,q,t,[i,j],rfl,S,ag.of hq1,_,rfl,rfl,_,rfl,?_⟩
 by_cases h0 : cp t [i,j] = 0
 ·refine br (congrArg V.int h0) ?_; obtain ⟨hi,hj,A',B',ea,eb,ef⟩ := rH h0; rw [Ay.step,ef] at k; obtain ⟨vs,x,g1,g2,hA,ho⟩ := aB.arr S hi ea; obtain ⟨dx,a1,b1,h1,h2,h3⟩ := id hA; obtain ⟨vs',y,g1',g2',hB,ho'⟩ := aB.arr S hj eb; obtain ⟨dy,a2,b2,h1',h2',h3'⟩ := id hB
  have fin : ∀ z : Int,z = (if A' = B' then 1 else 0) -> ∀ p,H1 p = none -> Q (.ref p) (upd H1 p (.lst [.int 0,.int z])) := fun z ez p hp => by
   have t2 : ak H1 (upd H1 p (.lst [.int 0,.int z])) := ak.new hp; refine k _ p t2.keep (S.keep t2) hp ?_; rw [am,ez]; rfl
  refine ⟨_,rfl,_,rfl,l,vs,_,_,rfl,rfl,ag.of g1,g2,x,C,dx,_,_,rfl,h1,T.cl,T.nL,aU a1 b1,_,rfl,_,rfl,l,vs',_,_,rfl,rfl,ag.of g1',g2',y,C,dy,_,_,rfl,h1',T.cl,T.nL,aU a2 b2,a1,a2,Ma.nz A'.shape,Ma.nz B'.shape,rfl,rfl,ag.of h2,ag.of h2',_,rfl,?_⟩
  by_cases e1 : A'.shape = B'.shape
  ·refine dw (by rw [e1]) ?_; refine ⟨_,rfl,_,rfl,l,vs,_,_,rfl,rfl,ag.of g1,g2,x,C,dx,_,_,rfl,h1,T.cl,T.nC,cy a1 b1,_,rfl,_,rfl,l,vs',_,_,rfl,rfl,ag.of g1',g2',y,C,dy,_,_,rfl,h1',T.cl,T.nC,cy a2 b2,b1,b2,A'.cells,B'.cells,rfl,rfl,ag.of h3,ag.of h3',?_⟩; refine ⟨_,rfl,_,rfl,?_⟩
   by_cases e2 : A'.cells = B'.cells
   ·refine dw e2 ?_; exact ⟨lR,fin 1 (by rw [if_pos (by cases A'; cases B'; simp only at e1 e2; rw [e1,e2])])⟩
   ·refine dG e2 ?_; exact ⟨lR,fin 0 (by rw [if_neg (fun e => e2 (by rw [e]))])⟩
  ·refine dG (fun z => e1 (Ma.ot z)) ?_; exact ⟨_,rfl,_,rfl,lR,fin 0 (by rw [if_neg (fun e => e1 (by rw [e]))])⟩
 ·obtain ⟨n,h2,ef⟩ := tu h0; rw [Ay.step,ef] at k; refine bz (a5 h0) ?_; exact ⟨_,rfl,bc,aQ.no S (ak.refl H1) k h2⟩
end
end Go

namespace Go
open PySem PySem.Spec PyProof.Rows L2
section
variable {P : Program} {w : World} {K : Fg} {mg : Str -> Option Value} {base : Heap} {C al : Addr}
theorem xt {s : List Nat} (h : s ≠ []) : s[s.length - 1]? = some (Ad.rowLength s) := by
 unfold Ad.rowLength; rw [List.getLast?_eq_getElem?]; have : 0 < s.length := List.length_pos_iff.mpr h; rw [List.getElem?_eq_getElem (by omega)]; rfl
theorem uY {s : List Nat} (h : Ad.shapeOk s = true) : 1 <= Ad.rowLength s /\ Ad.rowLength s <= 1024 := by
 obtain ⟨z1,z2,z3⟩ := Ma.aE h
 by_cases hs : s = []
 ·subst hs; exact ⟨Nat.le_refl _,by decide⟩
 ·have hm := List.mem_of_getElem? (xt hs); exact ⟨z2 _ hm,Nat.le_trans (Ma.cg z2 _ hm) z3⟩
theorem yd (s : List Nat) : Ad.product_ s = Ad.product_ s.dropLast * Ad.rowLength s := by
 by_cases hs : s = []
 ·subst hs; rfl
 ·have h1 := List.dropLast_concat_getLast hs
  have h2 : Ad.rowLength s = s.getLast hs := by
   unfold Ad.rowLength; rw [List.getLast?_eq_getLast hs]; rfl
  rw [h2]
  conv => lhs; rw [← h1]
  rw [Ma.dH]; show _ * (_ * 1) = _; rw [Nat.mul_one]
def lp (K : Fg) : Sp := fun vs H Q _ => ∃ (a : Addr) (s : List Nat),vs = [.ref a] /\ ag K H a (vn s) /\ Q (.int (Ad.rowLength s)) H
theorem xx : aq ["lengths"] ["lengths"] (aj jH) := fs
theorem xk (D : Df K mg "line_size" "line_size" jH ["lengths"]) (T : Txt K mg C) : Ok P w K mg base 1 "line_size" ["lengths"] (lp K) := by
 refine D.ok xx (fun _ _ _ _ h => by obtain ⟨_,_,rfl,_⟩ := h; rfl) (fun f cdv A outer s H vs Q E hr h => ?_); obtain ⟨a,s1,rfl,ha,k⟩ := h
 refine ⟨_,(ad (aw (aF bC (bA T.b_len (pv 0)) ai) (ae (ah ai)) ao)
  (ae (ah (au (pv 0) (rG on ai))))),?_⟩
 refine ⟨_,rfl,a,_,rfl,.inl ha,rfl,_,rfl,?_⟩; rw [aI]
 by_cases hs : s1 = []
 ·subst hs; refine dw rfl ?_; exact k
 ·have hpos : 0 < s1.length := List.length_pos_iff.mpr hs; refine dG (a5 (by omega)) ?_; refine ⟨_,rfl,_,rfl,a,_,_,_,rfl,rfl,ha,?_,k⟩; unfold fm fT; rw [aI,if_neg (by omega),if_pos (by omega)]; show (vn s1)[((-1 : Int) + (s1.length : Nat)).toNat]? = _; rw [show ((-1 : Int) + (s1.length : Nat)).toNat = s1.length - 1 by omega]; exact dr (xt hs)
theorem vw {n : Nat} (h : n < 2 ^ 64) : n.log2 < 1920 := by
 by_cases h0 : n = 0
 ·subst h0
  decide
 ·have := (Nat.log2_lt h0).mpr h; omega
def lH (n : Nat) (l : List Int) (i : Nat) : List Nat := Ad.joinWith 32 (((l.drop (i * n)).take n).map Ad.decimal) ++ [10]
def oy (s : List Nat) : List Nat := 91 :: (Ad.joinWith 44 (s.map Ad.decNat) ++ [93,10])
theorem acb {A : Ad.Arr} (h : Ad.shapeOk A.shape = true) : A.text = (oy A.shape :: (List.range (Ad.product_ A.shape.dropLast)).map (lH (Ad.rowLength A.shape) A.cells)).flatten := by
 unfold Ad.Arr.text oy; have hp := uY h
 have e : Ad.product_ A.shape / Ad.rowLength A.shape = Ad.product_ A.shape.dropLast := by
  rw [yd A.shape,Nat.mul_div_cancel _ (by omega)]
 rw [e,vf,List.flatten_cons,List.flatMap_map]; show 91 :: (_ ++ ([93,10] ++ _)) = 91 :: ((_ ++ [93,10]) ++ _); rw [List.append_assoc]; congr 3
def tD (K : Fg) (C : Addr) : Sp := fun vs H Q _ => ∃ (x : Addr) (A : Ad.Arr),vs = [.ref x] /\ b_ C H x A /\ A.ok = true /\ ∀ H' (z : Str),ak H H' -> TL.tl z = A.text -> z.length <= 100000 -> Q (.str z) H'
theorem sc_text_of : aq ["array","lines","size","start","length","cell"] ["array"] (aj iw) := fs
theorem y4 (D : Df K mg "text_of" "text_of" iw ["array"]) (T : Txt K mg C) (fB : Ok P w K mg base 1 "line_size" ["lengths"] (lp K)) : Ok P w K mg base 2 "text_of" ["array"] (tD K C) := by
 refine D.ok sc_text_of (fun _ _ _ _ h => by obtain ⟨_,_,rfl,_⟩ := h; rfl) (fun f cdv A outer s H vs Q E hr h => ?_); obtain ⟨x,A',rfl,hA,ho,k⟩ := h
 refine ⟨_,(ad (aH 1 sc_text_of.nd (az (ab (aV oW (aV oW da (uD da (dB rfl sc_text_of.nd (bD (aD (pv 0) rfl)) (a_ (N := ["array","lines","size","start","length","cell"]) (sc := aj iw) (own := [("length",4)]) (by decide +kernel)) (fun _ _ _ _ _ => (a0 4 sc_text_of.nd)) (fun _ _ _ _ _ => bt) (fun _ _ _ _ _ => (f7 qM (by rfl) T.b_str aan (ab (pv 4) ac)))))) da) ac)))
  (ad (aH 2 sc_text_of.nd (ap fB hr (ab (aD (pv 0) rfl) ac)))
  (ad (bS PassesOwn.never rfl (vI rfl T.b_range (ab ai (ab (bA T.b_len (aD (pv 0) rfl)) (ab (pv 2) ac)))) (a0 3 sc_text_of.nd) (ae (cI (gw PySem.F.plainAttrs_list PySem.F.slot_list_append PySem.F.type_list_append dc (pv 1) (ab (aV oW (uD da (dB rfl sc_text_of.nd (bD (fg gi (aD (pv 0) rfl) (eP (pv 3)) (eP (aV cP (pv 3) (pv 2))))) (a_ (N := ["array","lines","size","start","length","cell"]) (sc := aj iw) (own := [("cell",5)]) (by decide +kernel)) (fun _ _ _ _ _ => (a0 5 sc_text_of.nd)) (fun _ _ _ _ _ => bt) (fun _ _ _ _ _ => (f7 qM (by rfl) T.b_str aan (ab (pv 5) ac))))) da) ac)))))
  (ae (ah (uD da (pv 1))))))),?_⟩
 obtain ⟨dx,a,b,h1,h2,h3⟩ := id hA; have hs := (aG ho).1; obtain ⟨z1,z2,z3⟩ := Ma.aE hs; have hrp := uY hs; have hrm := yd A'.shape; have hcl := (aG ho).2.1; have hcf := (aG ho).2.2; refine ⟨⟨_,rfl⟩,_,rfl,x,C,dx,_,_,rfl,h1,T.cl,T.nL,aU a b,a,rfl,⟨_,ag.of h2⟩,fun D hD => ?_⟩; refine cF (bX (ag.of h2)) (fun i => V.str (Str.ofString (toString ((A'.shape.getD i 0 : Nat) : Int)))) hD (by rw [aI]; show _ <= 2 ^ 24; omega) ?_ bg ?_
 ·rintro i H1 v H2 hi sm ⟨rfl,hx⟩ Q' kq; obtain ⟨n,hn,rfl⟩ := cO hx; have hb := Ma.cg z2 n (List.mem_of_getElem? hn); have kq2 := kq _ (ak.refl _); rw [bq hn] at kq2; exact ⟨rfl,_,rfl,_,rfl,vw (by omega),kq2⟩
 ·intro H1 t1 hD1; rw [aI,yf] at hD1
  have ety : ((List.range A'.shape.length).map fun i => Str.ofString (toString ((A'.shape.getD i 0 : Nat) : Int))).map TL.tl = A'.shape.map Ad.decNat := by
   rw [List.map_map]; have := Ma.gv (fun n : Nat => TL.tl (Str.ofString (toString (n : Int)))) 0 A'.shape
   have e2 : (fun n : Nat => TL.tl (Str.ofString (toString (n : Int)))) = Ad.decNat := by
    funext n; rw [wQ,yA]
   rw [e2] at this; rw [← this]; apply List.map_congr_left; intro i _; show TL.tl (Str.ofString (toString _)) = _; rw [wQ,yA]
  have eyl : ((List.range A'.shape.length).map fun i => Str.ofString (toString ((A'.shape.getD i 0 : Nat) : Int))).length = A'.shape.length := by rw [List.length_map,List.length_range]
  generalize ((List.range A'.shape.length).map fun i => Str.ofString (toString ((A'.shape.getD i 0 : Nat) : Int))) = ys at *
  have hyb : ∀ y ∈ ys,y.length <= 17 := fun y hy => by
   rw [TL.cS]; have hm : TL.tl y ∈ ys.map TL.tl := List.mem_map.mpr ⟨y,hy,rfl⟩; rw [ety] at hm; obtain ⟨n,hn,e⟩ := List.mem_map.mp hm; rw [← e]; have hb := Ma.cg z2 n hn; have := rC 15 n (by omega); omega
  have hsum := wW hyb
  have ej : TL.tl (Txt.join (Str.ofString ",") ys) = Ad.joinWith 44 (A'.shape.map Ad.decNat) := by
   rw [wE (c := 44) (by rw [TL.b0]; rfl),ety]
  have ejl : (Ad.joinWith 44 (A'.shape.map Ad.decNat)).length <= 100 := by
   have := sQ 44 17 (l := A'.shape.map Ad.decNat) fun y hy => by
    obtain ⟨n,hn,e⟩ := List.mem_map.mp hy; rw [← e]; have hb := Ma.cg z2 n hn; have := rC 15 n (by omega); omega
   rw [List.length_map] at this; omega
  have l1 : (Str.ofString "[").length = 1 := by rw [TL.cS,TL.b0]; rfl
  have l2 : (Str.ofString ",").length = 1 := by rw [TL.cS,TL.b0]; rfl
  have l3 : (Str.ofString "]\n").length = 2 := by rw [TL.cS,TL.b0]; rfl
  have l4 : (Txt.join (Str.ofString ",") ys).length <= 100 := by rw [TL.cS,ej]; exact ejl
  have l5 : (Str.ofString "[" ++ Txt.join (Str.ofString ",") ys).length <= 101 := by rw [TL.cS,TL.fY,List.length_append,← TL.cS,← TL.cS,l1]; omega
  have ehead : TL.tl (Str.ofString "[" ++ Txt.join (Str.ofString ",") ys ++ Str.ofString "]\n") = oy A'.shape := by
   rw [TL.fY,TL.fY,ej,TL.b0,TL.b0]; rfl
  have l6 : (oy A'.shape).length <= 103 := by
   unfold oy; rw [List.length_cons,List.length_append]; simp only [List.length_cons,List.length_nil]; omega
  refine ⟨_,D,ys,rfl,rfl,.inl (ag.of hD1),(by rw [l2]; omega),_,_,rfl,rfl,(by rw [l1]; show _ <= 2 ^ 24; omega),_,_,rfl,rfl,(by rw [l3]; show _ <= 2 ^ 24; omega),bc,fun d hd => ?_⟩; generalize Str.ofString "[" ++ Txt.join (Str.ofString ",") ys ++ Str.ofString "]\n" = hd0 at *; have t2 : ak H1 (upd H1 d (.lst [.str hd0])) := ak.new hd; have hd2 : (upd H1 d (.lst [.str hd0])) d = some (.lst ([hd0].map V.str)) := am; generalize upd H1 d (.lst [.str hd0]) = H2 at *; have t12 := t1.trans t2; refine ⟨_,rfl,x,C,dx,_,_,rfl,t12 _ _ h1,T.cl,T.nL,aU a b,a,A'.shape,rfl,ag.of (t12 _ _ h2),?_⟩; have hd0n : H d = none := t1.free hd; have hlen : (vi A'.cells).length = Ad.product_ A'.shape.dropLast * Ad.rowLength A'.shape := by rw [aM,hcl,hrm]
  have hkn : Ad.product_ A'.shape.dropLast * Ad.rowLength A'.shape <= 1024 := by rw [← hrm]; exact z3
  have etext := acb hs; rw [etext] at k; have hcl2 : A'.cells.length = Ad.product_ A'.shape.dropLast * Ad.rowLength A'.shape := by rw [hcl,hrm]
  generalize Ad.product_ A'.shape.dropLast = kk at *; generalize Ad.rowLength A'.shape = nn at *; have hkk : kk <= 1024 := Nat.le_trans (Nat.le_mul_of_pos_right kk hrp.1) hkn
  have hline : ∀ i,(lH nn A'.cells i).length <= nn * 18 + 1 := fun i => by
   unfold lH; rw [List.length_append]
   have := sQ 32 17 (l := ((A'.cells.drop (i * nn)).take nn).map Ad.decimal) fun y hy => by
    obtain ⟨z,hz,e⟩ := List.mem_map.mp hy; rw [← e]; exact sC (hcf z (List.mem_of_mem_drop (List.mem_of_mem_take hz)))
   rw [List.length_map,List.length_take] at this; have h5 := Nat.mul_le_mul_right 18 (Nat.min_le_left nn (A'.cells.drop (i * nn)).length); simp only [List.length_cons,List.length_nil]; omega
  refine ⟨_,rfl,x,C,dx,_,_,rfl,t12 _ _ h1,T.cl,T.nC,cy a b,b,_,rfl,.inl (ag.of (t12 _ _ h3)),_,rfl,0,_,_,kk,rfl,?_,zF (n := kk) (fun i σ H' => ∃ (v1 : Option V) (ls : List Str),σ = [some (.ref x),some (.ref d),some (.int nn),v1,none,none] /\ H' d = some (.lst (ls.map V.str)) /\ ls.map TL.tl = oy A'.shape :: (List.range i).map (lH nn A'.cells) /\ aN d H2 H')
   ⟨none,[hd0],rfl,hd2,(by rw [List.map_cons,ehead]; rfl),(ak.refl H2).keep⟩ ?_ ?_⟩
  ·rw [hlen]; exact xg.mul hrp.1 hrp.2 hkn
  ·rintro i σ H' hi ⟨v1,ls,rfl,hd',els,kp⟩; have hbd : b ≠ d := aJ h3 hd0n; have hxd : x ≠ d := aJ h1 hd0n; have hb' : H' b = some (.lst (vi A'.cells)) := kp _ _ (t12 _ _ h3) hbd; have hx' : H' x = some (.ins C dx (af a b)) := kp _ _ (t12 _ _ h1) hxd
   have hin : i * nn + nn <= A'.cells.length := by
    have := Nat.mul_le_mul_right nn (show i + 1 <= kk by omega); rw [Nat.succ_mul] at this; omega
   refine ⟨_,rfl,.inl ⟨rfl,_,ag.of hd'⟩,⟨_,rfl⟩,_,rfl,x,C,dx,_,_,rfl,hx',T.cl,T.nC,cy a b,_,rfl,_,rfl,_,rfl,_,rfl,_,_,rfl,rfl,_,rfl,b,_,rfl,ag.of hb',fun q hq => ?_⟩
   have ecut : eJ (vi A'.cells) (some ((0 : Int) + (i : Nat) * (nn : Int))) (some ((0 : Int) + (i : Nat) * (nn : Int) + (nn : Int))) = vi ((A'.cells.drop (i * nn)).take nn) := by
    have := vQ (vi A'.cells) (i * nn) nn (by rw [aM]; exact hin); rw [ux,yJ] at this; rw [← this,Int.natCast_add,Int.natCast_mul,Int.zero_add]
   rw [ecut]; have elo : lH nn A'.cells i = Ad.joinWith 32 (((A'.cells.drop (i * nn)).take nn).map Ad.decimal) ++ [10] := rfl; have hrl : ((A'.cells.drop (i * nn)).take nn).length = nn := by rw [List.length_take,List.length_drop]; omega
   have hrf : ∀ z ∈ (A'.cells.drop (i * nn)).take nn,Ad.cellFine z = true := fun z hz => hcf z (List.mem_of_mem_drop (List.mem_of_mem_take hz))
   generalize (A'.cells.drop (i * nn)).take nn = rr at *; have t3 : ak H' (upd H' q (.lst (vi rr))) := ak.new hq; have hq3 : (upd H' q (.lst (vi rr))) q = some (.lst (vi rr)) := am; generalize upd H' q (.lst (vi rr)) = H3 at *; refine ⟨q,rfl,⟨_,ag.of hq3⟩,fun D2 hD2 => ?_⟩; refine cF (bX (ag.of hq3)) (fun j => V.str (Str.ofString (toString (rr.getD j 0)))) hD2 (by rw [aM]; show _ <= 2 ^ 24; omega) ?_ bg ?_
   ·rintro j H4 v H5 hj sm ⟨rfl,hx2⟩ Q' kq; obtain ⟨z,hz,rfl⟩ := dQ hx2; have hb2 := xC (hrf z (List.mem_of_getElem? hz)); have kq2 := kq _ (ak.refl _); rw [bq hz] at kq2; exact ⟨rfl,_,rfl,_,rfl,vw (by omega),kq2⟩
   ·intro H4 t4 hD4; rw [aM,yf] at hD4
    have etw : ((List.range rr.length).map fun j => Str.ofString (toString (rr.getD j 0))).map TL.tl = rr.map Ad.decimal := by
     rw [List.map_map]; have := Ma.gv (fun z : Int => TL.tl (Str.ofString (toString z))) 0 rr
     have e2 : (fun z : Int => TL.tl (Str.ofString (toString z))) = Ad.decimal := by
      funext z; exact wQ z
     rw [e2] at this; rw [← this]; apply List.map_congr_left; intro j _; rfl
    have ewl : ((List.range rr.length).map fun j => Str.ofString (toString (rr.getD j 0))).length = rr.length := by rw [List.length_map,List.length_range]
    generalize ((List.range rr.length).map fun j => Str.ofString (toString (rr.getD j 0))) = ws at *
    have hwb : ∀ y ∈ ws,y.length <= 17 := fun y hy => by
     rw [TL.cS]; have hm : TL.tl y ∈ ws.map TL.tl := List.mem_map.mpr ⟨y,hy,rfl⟩; rw [etw] at hm; obtain ⟨z,hz,e⟩ := List.mem_map.mp hm; rw [← e]; exact sC (hrf z hz)
    have hsum2 := wW hwb; have m1 : (Str.ofString " ").length = 1 := by rw [TL.cS,TL.b0]; rfl
    have m2 : (Str.ofString "\n").length = 1 := by rw [TL.cS,TL.b0]; rfl
    have ew : TL.tl (Txt.join (Str.ofString " ") ws ++ Str.ofString "\n") = lH nn A'.cells i := by
     rw [TL.fY,wE (c := 32) (by rw [TL.b0]; rfl),etw,TL.b0,elo]; rfl
    have m3 : (Txt.join (Str.ofString " ") ws).length + 1 <= nn * 18 + 1 := by
     have h6 := hline i; rw [← ew,TL.fY,List.length_append,← TL.cS,← TL.cS,m2] at h6; exact h6
    refine ⟨_,D2,ws,rfl,rfl,.inl (ag.of hD4),(by rw [m1]; omega),_,_,rfl,rfl,(by rw [m2]; show _ <= 2 ^ 24; omega),?_⟩; generalize Txt.join (Str.ofString " ") ws ++ Str.ofString "\n" = nl at *; have t34 := t3.trans t4
    have hll : ls.length = i + 1 := by
     have := congrArg List.length els; rw [List.length_map,List.length_cons,List.length_map,List.length_range] at this; exact this
    refine ⟨d,_,_,rfl,rfl,t34 _ _ hd',(by rw [List.length_map,hll]; show _ < 2 ^ 24; omega),_,ls ++ [nl],rfl,?_,?_,(kp.trans t34.keep).trans aN.upd⟩
    ·rw [am,List.map_append]; rfl
    ·rw [List.map_append,els,List.range_succ,List.map_append,List.map_cons,List.map_nil,ew]; rfl
  ·rintro σ H' ⟨v1,ls,rfl,hd',els,kp⟩; have sm : ak H H' := fun b o e => kp _ _ (t12 _ _ e) (aJ e hd0n)
   have hll : ls.length = kk + 1 := by
    have := congrArg List.length els; rw [List.length_map,List.length_cons,List.length_map,List.length_range] at this; exact this
   have e0 : TL.tl (Str.ofString "") = [] := by rw [TL.b0]; rfl
   have e0l : (Str.ofString "").length = 0 := by rw [TL.cS,e0]; rfl
   have hsum3 : (ls.map (·.length)).sum <= 103 + kk * (nn * 18 + 1) := by
    have h7 : ls.map (·.length) = (ls.map TL.tl).map List.length := by
     rw [List.map_map]; apply List.map_congr_left; intro y _; exact TL.cS y
    rw [h7,els,List.map_cons,List.sum_cons]
    have h8 : ∀ m : Nat,(((List.range m).map (lH nn A'.cells)).map List.length).sum <= m * (nn * 18 + 1) := by
     intro m
     induction m with
     | zero => simp
     | succ m ih =>
      rw [List.range_succ,List.map_append,List.map_append,List.sum_append,Nat.succ_mul]; have := hline m; simp only [List.map_cons,List.map_nil,List.sum_cons,List.sum_nil]; omega
    have := h8 kk; omega
   have hmul : kk * (nn * 18 + 1) <= 1024 * 18 + 1024 := by
    rw [Nat.mul_add,Nat.mul_one,← Nat.mul_assoc]; omega
   refine ⟨⟨_,rfl⟩,_,rfl,_,d,ls,rfl,rfl,.inl (ag.of hd'),(by rw [e0l]; omega),?_⟩; have ejoin := aa1 e0 ls; refine k H' _ sm (by rw [ejoin,els]) ?_; rw [TL.cS,ejoin,List.length_flatten]
   have h9 : (ls.map TL.tl).map List.length = ls.map (·.length) := by
    rw [List.map_map]; apply List.map_congr_left; intro y _; exact (TL.cS y).symm
   rw [h9]; omega
end
end Go

namespace Go
open PySem PySem.Spec PyProof.Rows L2
section
variable {P : Program} {w : World} {K : Fg} {mg : Str -> Option Value} {base : Heap} {C al : Addr}
def qi (K : Fg) (C : Addr) : Sp := fun vs H Q _ => ∃ (l : Addr) (t : Ay.State) (i : Nat),vs = [.ref l,.int i] /\ aB C H l t /\ aQ C H l (Ay.step t (.text i)) Q
theorem sc_call_text : aq ["slots","i","refusal","sign"] ["slots","i"] (aj gM) := fs
theorem xh (D : Df K mg "call_text" "call_text" gM ["slots","i"]) (T : Txt K mg C) (aY : Ok P w K mg base 1 "source_refusal" ["slots","i"] (cb C)) (qS : Ok P w K mg base 2 "text_of" ["array"] (tD K C)) : Ok P w K mg base 3 "call_text" ["slots","i"] (qi K C) := by
 refine D.ok sc_call_text (fun _ _ _ _ h => by obtain ⟨_,_,_,rfl,_⟩ := h; rfl) (fun f cdv A outer s H vs Q E hr h => ?_); obtain ⟨l,t,i,rfl,S,k⟩ := h
 refine ⟨_,(ad (aH 2 sc_call_text.nd (ap aY hr (ab (pv 0) (ab (pv 1) ac))))
  (ad (aw (aF bB (pv 2) ai) (ae (ah (az (ab (pv 2) ac)))) ao)
  (ae (ah (aV iR (az (ab ai ac)) (dB rfl sc_call_text.nd (acR (ap qS hr (ab (au (pv 0) (pv 1)) ac))) (a_ (N := ["slots","i","refusal","sign"]) (sc := aj gM) (own := [("sign",3)]) (by decide +kernel)) (fun _ _ _ _ _ => (a0 3 sc_call_text.nd)) (fun _ _ _ _ _ => bt) (fun _ _ _ _ _ => (bH dk (by rfl) T.b_ord ft (ab (pv 3) ac))))))))),?_⟩
 refine ⟨_,rfl,_,rfl,l,t,i,rfl,S,_,rfl,rfl,_,rfl,?_⟩
 by_cases h0 : cu t i = 0
 ·refine br (congrArg V.int h0) ?_; obtain ⟨hi,A',ea,ef⟩ := eL h0; rw [Ay.step,ef] at k; obtain ⟨vs,x,g1,g2,hA,ho⟩ := aB.arr S hi ea; refine ⟨bc,fun p hp => ?_⟩; have t1 : ak H (upd H p (.lst [.int 0])) := ak.new hp; have hp1 : (upd H p (.lst [.int 0])) p = some (.lst [.int 0]) := am; generalize upd H p (.lst [.int 0]) = H1 at *; refine ⟨_,rfl,_,rfl,l,vs,_,_,rfl,rfl,ag.of (t1 _ _ g1),g2,x,A',rfl,hA.keep t1,ho,fun H2 z t2 hz hzl => ⟨z,rfl,fun D hD => ?_⟩⟩; have hsz : z.cps.size = (TL.tl z).length := by simp [TL.tl]
  have hzl2 : (TL.tl z).length <= 100000 := by rw [← TL.cS]; exact hzl
  refine cF (abT) (fun j => V.int (((TL.tl z).getD j 0 : Nat) : Int)) hD (by rw [hsz]; show _ <= 2 ^ 24; omega) ?_ bg ?_
  ·rintro j H3 v H4 hj sm ⟨rfl,c,hc,rfl⟩ Q' kq
   have hc2 : (TL.tl z)[j]? = some c := by
    unfold TL.tl; rw [Array.getElem?_toList]; exact hc
   have kq2 := kq _ (ak.refl _); rw [bq hc2] at kq2; exact ⟨rfl,_,rfl,_,rfl,rfl,kq2⟩
  ·intro H3 t3 hD3; have t12 := t1.trans t2; have t13 := t12.trans t3; rw [hsz] at hD3
   have e : (List.range (TL.tl z).length).map (fun j => V.int (((TL.tl z).getD j 0 : Nat) : Int)) = vn (TL.tl z) := by
    show _ = List.map V.int (List.map _ _); rw [List.map_map]; exact Ma.gv (fun n : Nat => V.int (n : Int)) 0 (TL.tl z)
   rw [e,hz] at hD3; rw [hz] at hzl2; refine ⟨p,D,_,_,rfl,rfl,(t2.trans t3) _ _ hp1,hD3,(by rw [aI]; show _ <= 2 ^ 24; simp only [List.length_cons,List.length_nil]; omega),fun q hq => ?_⟩; have t14 := t13.upd (o := .lst ([.int 0] ++ vn A'.text)) (t13.free hq); exact k _ q t14.keep (S.keep t14) (t13.free hq) (by rw [am]; rfl)
 ·obtain ⟨n,h2,ef⟩ := j_ h0; rw [Ay.step,ef] at k; refine bz (a5 h0) ?_; exact ⟨_,rfl,bc,aQ.no S (ak.refl H) k h2⟩
end
end Go

namespace Go
open PySem PySem.Spec PyProof.Rows L2
section
variable {P : Program} {w : World} {K : Fg} {mg : Str -> Option Value} {base : Heap} {C al : Addr}
def yl : Option Nat -> V
 | none => .non
 | some c => .int (c : Int)
def nP (K : Fg) (R : Addr) : Sp := fun vs H Q _ => ∃ (r a : Addr) (n : Nat) (bs : List Nat),vs = [.ref r] /\ aP R H r a n /\ ag K H a (vn bs) /\ Q (yl bs[n]?) H
theorem pX : aq ["self"] ["self"] (aj eA) := fs
theorem yb (D : oF K al "upcoming" "Reader.upcoming" eA ["self"]) (T : Txt K mg C) (aA : iC K al) (bO : gA P w K mg base 1 al "is_done" ["self"] (k7 K al)) : gA P w K mg base 2 al "upcoming" ["self"] (nP K al) := by
 refine D.ok pX (fun _ _ _ _ h => by obtain ⟨_,_,_,_,rfl,_⟩ := h; rfl) (fun f cdv A outer s H vs Q E hr h => ?_); obtain ⟨r,a,n,bs,rfl,hR,ha,k⟩ := h
 refine ⟨_,(ad (aw (bi (gf aA.cl bO hr.m (pv 0))) (ae (ah cQ)) ao)
  (ae (ah (au (aD (pv 0) rfl) (aD (pv 0) rfl))))),?_⟩
 obtain ⟨dx,hr0⟩ := id hR; refine ⟨_,rfl,r,dx,_,rfl,hr0,c6 _ _ (by decide +kernel) (by decide +kernel),r,a,n,Ma.nz bs,rfl,hR,ha,_,rfl,?_⟩; rw [z9]
 by_cases h : bs.length <= n
 ·refine dw h ?_; rw [List.getElem?_eq_none h] at k; exact k
 ·refine dG h ?_; have hn : bs[n]? = some (bs[n]'(by omega)) := List.getElem?_eq_getElem _; rw [hn] at k; refine ⟨_,rfl,r,al,dx,_,_,rfl,hr0,aA.cl,aA.nN,uj a n,_,rfl,r,al,dx,_,_,rfl,hr0,aA.cl,aA.nR,lK a n,a,_,_,_,rfl,rfl,ha,bE (dr hn),k⟩
def ka (K : Fg) (R : Addr) : Sp := fun vs H Q _ => ∃ (r a : Addr) (n c : Nat) (bs : List Nat),vs = [.ref r,.int (c : Int)] /\ aP R H r a n /\ ag K H a (vn bs) /\ (bs[n]? = some c -> ∀ H',aN r H H' -> aP R H' r a (n + 1) -> Q (.bl true) H') /\ (bs[n]? ≠ some c -> Q (.bl false) H)
theorem sP : aq ["self","number"] ["self","number"] (aj fL) := fs
theorem aao (D : oF K al "passes" "Reader.passes" fL ["self","number"]) (T : Txt K mg C) (aA : iC K al) (cJ : gA P w K mg base 2 al "upcoming" ["self"] (nP K al)) : gA P w K mg base 3 al "passes" ["self","number"] (ka K al) := by
 refine D.ok sP (fun _ _ _ _ h => by obtain ⟨_,_,_,_,_,rfl,_⟩ := h; rfl) (fun f cdv A outer s H vs Q E hr h => ?_); obtain ⟨r,a,n,c,bs,rfl,hR,ha,ky,kn⟩ := h
 refine ⟨_,(ad (aw (aF bB (gf aA.cl cJ hr.m (pv 0)) (pv 1)) (ae (ah dC)) ao)
  (ad (lu (pv 0) (aV cP (aD (pv 0) rfl) ai) rfl)
  (ae (ah dC)))),?_⟩
 obtain ⟨dx,hr0⟩ := id hR; refine ⟨_,rfl,r,dx,_,rfl,hr0,c6 _ _ (by decide +kernel) (by decide +kernel),r,a,n,bs,rfl,hR,ha,_,rfl,?_,_,rfl,?_⟩
 ·cases bs[n]? <;> rfl
 ·by_cases h : bs[n]? = some c
  ·refine br (by rw [h]; rfl) ?_; refine ⟨_,rfl,r,al,dx,_,_,rfl,hr0,aA.cl,aA.nR,lK a n,_,_,rfl,rfl,_,rfl,r,al,dx,_,rfl,hr0,aA.cl,aA.nR,(by show 2 < 1000; decide),?_⟩; refine ky h _ aN.upd ⟨dx,?_⟩; rw [am]; have := wu a n (n + 1); rw [Int.natCast_add] at this; exact congrArg (fun z => some (HO.ins al dx z)) this
  ·refine bz (fun e => h ?_) ?_
   ·cases hc : bs[n]? with
    | none => rw [hc] at e; cases e
    | some d =>
     rw [hc] at e; have := V.int.inj e; congr 1; omega
   ·exact kn h
theorem abP : (((Str.ofString "0").cps.getD 0 0 : Nat) : Int) = 48 := by decide +kernel
theorem adw : (((Str.ofString "9").cps.getD 0 0 : Nat) : Int) = 57 := by decide +kernel
def pN (K : Fg) (R : Addr) : Sp := fun vs H Q _ => ∃ (r a : Addr) (n : Nat) (bs : List Nat),vs = [.ref r] /\ aP R H r a n /\ ag K H a (vn bs) /\ Q (yl (bs[n]?.bind Ad.digitOf)) H
theorem sc_next_digit : aq ["reader","byte"] ["reader"] (aj i6) := fs
theorem v_ (D : Df K mg "next_digit" "next_digit" i6 ["reader"]) (T : Txt K mg C) (aA : iC K al) (cJ : gA P w K mg base 2 al "upcoming" ["self"] (nP K al)) : Ok P w K mg base 3 "next_digit" ["reader"] (pN K al) := by
 refine D.ok sc_next_digit (fun _ _ _ _ h => by obtain ⟨_,_,_,_,rfl,_⟩ := h; rfl) (fun f cdv A outer s H vs Q E hr h => ?_); obtain ⟨r,a,n,bs,rfl,hR,ha,k⟩ := h
 refine ⟨_,(ad (aH 1 sc_next_digit.nd (gf aA.cl cJ hr.m (pv 0)))
  (ad (aw (PW.pt (dD (d8 (eT (pv 1))) (dD (aF iZ (pv 1) (bH dk (by rfl) T.b_ord ft (ab da ac))) (dn (aF k_ (pv 1) (bH dk (by rfl) T.b_ord ft (ab da ac))))))) (ae (ah cQ)) ao)
  (ae (ah (aV jS (pv 1) (bH dk (by rfl) T.b_ord ft (ab da ac))))))),?_⟩
 obtain ⟨dx,hr0⟩ := id hR; refine ⟨_,rfl,r,dx,_,rfl,hr0,c6 _ _ (by decide +kernel) (by decide +kernel),r,a,n,bs,rfl,hR,ha,?_⟩
 cases hc : bs[n]? with
 | none =>
  rw [hc] at k; exact ⟨_,rfl,_,rfl,k⟩
 | some c =>
  rw [hc] at k; have k : Q (yl (Ad.digitOf c)) H := k; refine ⟨_,rfl,_,rfl,_,rfl,_,rfl,rfl,_,_,rfl,rfl,_,rfl,?_⟩; rw [abP]
  by_cases h1 : (c : Int) < 48
  ·refine dw h1 ?_; have e : Ad.digitOf c = none := if_neg (by omega); rw [e] at k; exact k
  ·refine dG h1 ?_; refine ⟨_,rfl,_,rfl,rfl,_,_,rfl,rfl,_,rfl,?_⟩; rw [adw]
   by_cases h2 : (57 : Int) < (c : Int)
   ·refine dw h2 ?_; have e : Ad.digitOf c = none := if_neg (by omega); rw [e] at k; exact k
   ·refine dG h2 ?_; have e : Ad.digitOf c = some (c - 48) := if_pos (by omega); rw [e] at k; refine ⟨_,rfl,_,rfl,rfl,_,_,rfl,rfl,?_⟩; rw [abP]
    have e2 : yl (some (c - 48)) = V.int ((c : Int) - 48) := by
     show V.int ((c - 48 : Nat) : Int) = _; congr 1; omega
    rw [e2] at k; exact k
end
end Go

namespace Go
open PySem PySem.Spec PyProof.Rows L2
section
variable {P : Program} {w : World} {K : Fg} {mg : Str -> Option Value} {base : Heap} {C al : Addr}
theorem yU {bs : List Nat} {most x q : Nat} (h : bs[q]?.bind Ad.digitOf = none) : Ad.digits most x (bs.drop q) q = (x,bs.drop q,q) := by
 cases hc : bs[q]? with
 | none => rw [Ma.fM hc]; rfl
 | some c =>
  rw [hc] at h; have h : Ad.digitOf c = none := h; rw [Ma.c7 hc]; simp only [Ad.digits,h]
theorem abh {bs : List Nat} {most x q d : Nat} (h : bs[q]?.bind Ad.digitOf = some d) : Ad.digits most x (bs.drop q) q = if 10 * x + d <= most then Ad.digits most (10 * x + d) (bs.drop (q + 1)) (q + 1) else (x,bs.drop q,q) := by
 cases hc : bs[q]? with
 | none => rw [hc] at h; cases h
 | some c =>
  rw [hc] at h; have h : Ad.digitOf c = some d := h; rw [Ma.c7 hc]; simp only [Ad.digits,h]
theorem abf {bs : List Nat} {least most n : Nat} (h : bs[n]?.bind Ad.digitOf = none) : ∃ e,Ma.cz least most (bs.drop n) n = .error e := by
 cases hc : bs[n]? with
 | none => rw [Ma.fM hc]; exact ⟨n,rfl⟩
 | some c =>
  rw [hc] at h; have h : Ad.digitOf c = none := h; rw [Ma.c7 hc]; exact ⟨n,by simp only [Ma.cz,h]⟩
theorem aaV {bs : List Nat} {least most n d : Nat} (h : bs[n]?.bind Ad.digitOf = some d) : Ma.cz least most (bs.drop n) n = if least <= d /\ d <= most then .ok (if d = 0 then (0,bs.drop (n + 1),n + 1) else Ad.digits most d (bs.drop (n + 1)) (n + 1)) else .error n := by
 cases hc : bs[n]? with
 | none => rw [hc] at h; cases h
 | some c =>
  rw [hc] at h; have h : Ad.digitOf c = some d := h; rw [Ma.c7 hc]; simp only [Ma.cz,h]
theorem aab {bs : List Nat} {n d : Nat} (h : bs[n]?.bind Ad.digitOf = some d) : n < bs.length /\ d <= 9 /\ ∃ c,bs[n]? = some c := by
 cases hc : bs[n]? with
 | none => rw [hc] at h; cases h
 | some c =>
  rw [hc] at h; have h : Ad.digitOf c = some d := h; have := Ma.tN h; exact ⟨(List.getElem?_eq_some_iff.mp hc).1,by omega,c,rfl⟩
def ja (K : Fg) (R : Addr) : Sp := fun vs H Q _ => ∃ (r a : Addr) (n least most : Nat) (bs : List Nat),vs = [.ref r,.int least,.int most] /\ aP R H r a n /\ ag K H a (vn bs) /\ most <= 1000000000000000 ∧
 (∀ e,Ma.cz least most (bs.drop n) n = .error e -> Q .non H) /\ ∀ x rest q,Ma.cz least most (bs.drop n) n = .ok (x,rest,q) -> ∀ H',aN r H H' -> aP R H' r a q -> Q (.int x) H'
theorem sc_read_number : aq ["reader","least","most","number","digit"] ["reader","least","most"] (aj g9) := fs
theorem uA (D : Df K mg "read_number" "read_number" g9 ["reader","least","most"]) (T : Txt K mg C) (aA : iC K al) (fP : Ok P w K mg base 3 "next_digit" ["reader"] (pN K al)) (a6 : gA P w K mg base 1 al "read_whole" ["self"] (fq K al)) : Ok P w K mg base 4 "read_number" ["reader","least","most"] (ja K al) := by
 refine D.ok sc_read_number (fun _ _ _ _ h => by obtain ⟨_,_,_,_,_,_,rfl,_⟩ := h; rfl) (fun f cdv A outer s H vs Q E hr h => ?_); obtain ⟨r,a,n,least,most,bs,rfl,hR,ha,hm,kn,ky⟩ := h
 refine ⟨_,(ad (aH 3 sc_read_number.nd (ap fP hr (ab (pv 0) ac)))
  (ad (aw (PW.pt (dD (d8 (eT (pv 3))) (dD (aF iZ (pv 3) (pv 1)) (dn (aF k_ (pv 3) (pv 2)))))) (ae (ah cQ)) ao)
  (ad (cI (gf aA.cl a6 hr.m (pv 0)))
  (ad (aH 4 sc_read_number.nd (ap fP hr (ab (pv 0) ac)))
  (ad (s_ PassesOwn.never (PW.pt (oq (aF k_ (pv 3) ai) (oq (d8 (ab7 (pv 4))) (rD (aF iB (aV cP (aV dm (pv 3) ai) (pv 4)) (pv 2)))))) (ad (aH 3 sc_read_number.nd (aV cP (aV dm (pv 3) ai) (pv 4)))
  (ad (cI (gf aA.cl a6 hr.m (pv 0)))
  (ae (aH 4 sc_read_number.nd (ap fP hr (ab (pv 0) ac)))))))
  (ae (ah (pv 3)))))))),?_⟩
 obtain ⟨dx,hr0⟩ := id hR; refine ⟨_,rfl,r,a,n,bs,rfl,hR,ha,?_⟩
 cases hd : bs[n]?.bind Ad.digitOf with
 | none =>
  obtain ⟨e,he⟩ := abf (least := least) (most := most) hd; exact ⟨_,rfl,_,rfl,kn e he⟩
 | some d =>
  have hnum := aaV (least := least) (most := most) hd; obtain ⟨hlt,hd9,c,hc⟩ := aab hd; refine ⟨_,rfl,_,rfl,_,rfl,_,rfl,_,_,rfl,rfl,_,rfl,?_⟩
  by_cases h1 : (d : Int) < (least : Int)
  ·refine dw h1 ?_; rw [if_neg (by omega)] at hnum; exact kn _ hnum
  refine dG h1 ?_; refine ⟨_,rfl,_,rfl,_,_,rfl,rfl,_,rfl,?_⟩
  by_cases h2 : (most : Int) < (d : Int)
  ·refine dw h2 ?_; rw [if_neg (by omega)] at hnum; exact kn _ hnum
  refine dG h2 ?_; rw [if_pos (by omega)] at hnum; have hz : (Ma.nz bs)[n]? = some (c : Int) := by rw [List.getElem?_map,hc]; rfl
  refine ⟨_,rfl,r,dx,_,rfl,hr0,c6 _ _ (by decide +kernel) (by decide +kernel),r,a,n,Ma.nz bs,(c : Int),rfl,hR,ha,hz,fun H1 k1 hR1 f1 => ?_⟩; have ha1 := aP.seq k1 hR ha; refine ⟨_,rfl,r,a,n + 1,bs,rfl,hR1,ha1,?_⟩; have kF := fun (H' : Hp) (F : Nat × List Nat × Nat) (hF : Ma.cz least most (bs.drop n) n = .ok F) => ky F.1 F.2.1 F.2.2 hF H'
  generalize hF : (if d = 0 then (0,bs.drop (n + 1),n + 1) else Ad.digits most d (bs.drop (n + 1)) (n + 1)) = F at hnum; have kF := fun (H' : Hp) => kF H' F hnum
  clear ky kn hnum
  refine ⟨fun m σ H' => ∃ (x q : Nat),m = bs.length - q /\ σ = [some (.ref r),some (.int least),some (.int most),some (.int (x : Int)),some (yl (bs[q]?.bind Ad.digitOf))] /\ aP al H' r a q /\ aN r H H' /\ x <= most /\ (if x = 0 then (0,bs.drop q,q) else Ad.digits most x (bs.drop q) q) = F,
   ⟨_,d,n + 1,rfl,rfl,hR1,k1,by omega,hF⟩,?_⟩
  rintro m σ H' ⟨x,q,rfl,rfl,hR',kp,hxm,hFF⟩; have ha' := aP.seq kp hR ha; refine ⟨_,rfl,_,_,rfl,rfl,_,rfl,?_⟩
  by_cases hx0 : x = 0
  ·refine dG (by omega) ?_; rw [if_pos hx0] at hFF; subst hx0; refine ⟨_,rfl,?_⟩; have := kF H' kp (by rw [← hFF]; exact hR'); rw [← hFF] at this; exact this
  refine dw (by omega) ?_; rw [if_neg hx0] at hFF
  have stop : (x,bs.drop q,q) = F -> Q (.int (x : Int)) H' := fun e => by
   have := kF H' kp (by rw [← e]; exact hR'); rw [← e] at this; exact this
  cases hdq : bs[q]?.bind Ad.digitOf with
  | none =>
   rw [yU hdq] at hFF; exact ⟨_,rfl,_,rfl,_,rfl,stop hFF⟩
  | some d2 =>
   rw [abh hdq] at hFF; obtain ⟨hlt2,hd92,c2,hc2⟩ := aab hdq; refine ⟨_,rfl,_,rfl,_,rfl,_,_,rfl,rfl,.inl ⟨by omega,by omega⟩,_,rfl,_,_,rfl,rfl,_,rfl,_,_,rfl,rfl,_,rfl,?_⟩
   by_cases hle : 10 * x + d2 <= most
   ·refine dw (by omega) ?_; rw [if_pos hle] at hFF; refine ⟨fun σ' H'' => ∃ m',m' < bs.length - q /\ ∃ (x q : Nat),m' = bs.length - q /\ σ' = [some (.ref r),some (.int least),some (.int most),some (.int (x : Int)),some (yl (bs[q]?.bind Ad.digitOf))] /\ aP al H'' r a q /\ aN r H H'' /\ x <= most /\ (if x = 0 then (0,bs.drop q,q) else Ad.digits most x (bs.drop q) q) = F,fun _ _ h => h,?_⟩; obtain ⟨dx',hr'⟩ := id hR'; have hz2 : (Ma.nz bs)[q]? = some (c2 : Int) := by rw [List.getElem?_map,hc2]; rfl
    refine ⟨_,rfl,_,_,rfl,rfl,.inl ⟨by omega,by omega⟩,_,rfl,_,_,rfl,rfl,?_⟩; refine ⟨_,rfl,r,dx',_,rfl,hr',c6 _ _ (by decide +kernel) (by decide +kernel),r,a,q,Ma.nz bs,(c2 : Int),rfl,hR',ha',hz2,fun H2 k2 hR2 f2 => ?_⟩; have ha2 := aP.seq k2 hR' ha'; refine ⟨_,rfl,r,a,q + 1,bs,rfl,hR2,ha2,?_⟩; refine ⟨bs.length - (q + 1),by omega,10 * x + d2,q + 1,rfl,?_,hR2,kp.trans k2,hle,?_⟩
    ·have e : ((10 * x + d2 : Nat) : Int) = (x : Int) * 10 + (d2 : Int) := by omega
     rw [e]; rfl
    ·rw [if_neg (by omega)]; exact hFF
   ·refine dG (by omega) ?_; rw [if_neg hle] at hFF; exact ⟨_,rfl,stop hFF⟩
end
end Go

namespace Go
open PySem PySem.Spec PyProof.Rows L2
section
variable {P : Program} {w : World} {K : Fg} {mg : Str -> Option Value} {base : Heap} {C al : Addr}
theorem adt : (((Str.ofString "-").cps.getD 0 0 : Nat) : Int) = ((45 : Nat) : Int) := by decide +kernel
theorem ac7 : (((Str.ofString "[").cps.getD 0 0 : Nat) : Int) = ((91 : Nat) : Int) := by decide +kernel
theorem y_ : (((Str.ofString "]").cps.getD 0 0 : Nat) : Int) = ((93 : Nat) : Int) := by decide +kernel
theorem adc : (((Str.ofString ",").cps.getD 0 0 : Nat) : Int) = ((44 : Nat) : Int) := by decide +kernel
theorem abM : (((Str.ofString "\n").cps.getD 0 0 : Nat) : Int) = ((10 : Nat) : Int) := by decide +kernel
theorem adI : (((Str.ofString " ").cps.getD 0 0 : Nat) : Int) = ((32 : Nat) : Int) := by decide +kernel
def qO (K : Fg) (R : Addr) : Sp := fun vs H Q _ => ∃ (r a : Addr) (n : Nat) (bs : List Nat),vs = [.ref r] /\ aP R H r a n /\ ag K H a (vn bs) ∧
 (∀ e,Ad.cellIn (bs.drop n) n = .error e -> ∀ H',aN r H H' -> aP R H' r a e -> Q .non H') /\ ∀ z q,Ad.cellIn (bs.drop n) n = .ok (z,bs.drop q,q) -> Ad.cellFine z = true -> ∀ H',aN r H H' -> aP R H' r a q -> Q (.int z) H'
theorem sc_read_cell : aq ["reader","number"] ["reader"] (aj jI) := fs
theorem xl (D : Df K mg "read_cell" "read_cell" jI ["reader"]) (T : Txt K mg C) (aA : iC K al) (bj : gA P w K mg base 3 al "passes" ["self","number"] (ka K al)) (dl : Ok P w K mg base 4 "read_number" ["reader","least","most"] (ja K al)) : Ok P w K mg base 5 "read_cell" ["reader"] (qO K al) := by
 refine D.ok sc_read_cell (fun _ _ _ _ h => by obtain ⟨_,_,_,_,rfl,_⟩ := h; rfl) (fun f cdv A outer s H vs Q E hr h => ?_); obtain ⟨r,a,n,bs,rfl,hR,ha,kn,ky⟩ := h
 refine ⟨_,(ad (aw (bx (bi (sD aA.cl bj hr.m (pv 0) (ab (bH dk (by rfl) T.b_ord ft (ab da ac)) ac)))) (ae (ah (ap dl hr (ab (pv 0) (ab ai (ab (aO T.g_GREATEST_CELL) ac)))))) ao)
  (ad (aH 1 sc_read_cell.nd (ap dl hr (ab (pv 0) (ab ai (ab (aO T.g_GREATEST_CELL) ac)))))
  (ae (ah (fV (d8 (eT (pv 1))) cQ (rG on (pv 1))))))),?_⟩
 obtain ⟨dx,hr0⟩ := id hR; refine ⟨_,rfl,r,dx,_,rfl,hr0,c6 _ _ (by decide +kernel) (by decide +kernel),_,rfl,rfl,r,a,n,45,bs,congrArg (fun z : Int => [V.ref r,V.int z]) adt,hR,ha,fun h45 H1 k1 hR1 => ⟨_,rfl,?_⟩,fun h45 => ⟨_,rfl,?_⟩⟩
 ·have ha1 := aP.seq k1 hR ha; rw [Ma.abc h45] at kn ky; refine ⟨_,rfl,r,a,n + 1,1,1000000000000000,bs,rfl,hR1,ha1,Nat.le_refl _,fun e he => ?_,fun x rest q hx H2 k2 hR2 => ?_⟩
  ·have hee := Ma.p8 he; rw [he] at kn; refine ⟨_,rfl,_,rfl,kn e rfl H1 k1 ?_⟩; rw [hee]; exact hR1
  ·obtain ⟨e1,e2,e3,e4,e5⟩ := Ma.pj hx; rw [hx] at ky; subst e1; exact ⟨_,rfl,_,rfl,_,rfl,_,rfl,ky (-(x : Int)) q rfl (Ma.iz.mpr ⟨by omega,by omega⟩) H2 (k1.trans k2) hR2⟩
 ·rw [Ma.aaU h45] at kn ky; refine ⟨_,rfl,r,a,n,0,1000000000000000,bs,rfl,hR,ha,Nat.le_refl _,fun e he => ?_,fun x rest q hx H2 k2 hR2 => ?_⟩
  ·have hee := Ma.p8 he; rw [he] at kn; refine kn e rfl H (ak.refl H).keep ?_; rw [hee]; exact hR
  ·obtain ⟨e1,e2,e3,e4,e5⟩ := Ma.pj hx; rw [hx] at ky; subst e1; exact ky (x : Int) q rfl (Ma.iz.mpr ⟨by omega,by omega⟩) H2 k2 hR2
def gl (bs : List Nat) (n : Nat) : Ad.Rd Ad.Shape := match bs[n]? with
 | some 91 => (match bs[n + 1]? with
  | some 93 => .ok ([],bs.drop (n + 2),n + 2)
  | _ => Ma.dF [] (bs.drop (n + 1)) (n + 1))
 | _ => .error n
theorem sV {bs : List Nat} {n : Nat} (h91 : bs[n]? = some 91) (h93 : bs[n + 1]? ≠ some 93) : gl bs n = Ma.dF [] (bs.drop (n + 1)) (n + 1) := by
 unfold gl; rw [h91]
 show (match bs[n + 1]? with
  | some 93 => Except.ok ([],bs.drop (n + 2),n + 2)
  | _ => Ma.dF [] (bs.drop (n + 1)) (n + 1) : Ad.Rd Ad.Shape) = _
 split
 ·rename_i h; exact absurd h h93
 ·rfl
def mD (K : Fg) (R : Addr) : Sp := fun vs H Q _ => ∃ (r a : Addr) (n : Nat) (bs : List Nat),vs = [.ref r] /\ aP R H r a n /\ ag K H a (vn bs) ∧
 (∀ e,gl bs n = .error e -> ∀ H',aN r H H' -> aP R H' r a e -> Q .non H') /\ ∀ s q,gl bs n = .ok (s,bs.drop q,q) -> Ad.shapeOk s = true -> ∀ H' l,aN r H H' -> aP R H' r a q -> H l = none -> H' l = some (.lst (vn s)) -> Q (.ref l) H'
theorem uH {R : Addr} {H : Hp} {r a l : Addr} {n : Nat} (hR : aP R H r a n) (hl : H l = none) : r ≠ l := by
 obtain ⟨dx,h⟩ := hR; exact aJ h hl
theorem sc_read_lengths : aq ["reader","lengths","length"] ["reader"] (aj gk) := fs
theorem tq (D : Df K mg "read_lengths" "read_lengths" gk ["reader"]) (T : Txt K mg C) (aA : iC K al) (bj : gA P w K mg base 3 al "passes" ["self","number"] (ka K al)) (dl : Ok P w K mg base 4 "read_number" ["reader","least","most"] (ja K al)) (a9 : Ok P w K mg base 1 "cell_count" ["lengths"] (cM K)) : Ok P w K mg base 5 "read_lengths" ["reader"] (mD K al) := by
 refine D.ok sc_read_lengths (fun _ _ _ _ h => by obtain ⟨_,_,_,_,rfl,_⟩ := h; rfl) (fun f cdv A outer s H vs Q E hr h => ?_); obtain ⟨r,a,n,bs,rfl,hR,ha,kn,ky⟩ := h
 refine ⟨_,(ad (aw (bx (bi (sD aA.cl bj hr.m (pv 0) (ab (bH dk (by rfl) T.b_ord ft (ab da ac)) ac)))) (ae (ah cQ)) ao)
  (ad (aw (bi (sD aA.cl bj hr.m (pv 0) (ab (bH dk (by rfl) T.b_ord ft (ab da ac)) ac))) (ae (ah (az ac))) ao)
  (ad (aH 1 sc_read_lengths.nd (az ac))
  (ad (s_ PassesOwn.never (PW.pt (dD (aF bC (bA T.b_len (pv 1)) ai) (dn (PW.pt (oq (aF iZ (bA T.b_len (pv 1)) (aO T.g_MOST_LENGTHS)) (rD (bi (sD aA.cl bj hr.m (pv 0) (ab (bH dk (by rfl) T.b_ord ft (ab da ac)) ac))))))))) (ad (aH 2 sc_read_lengths.nd (ap dl hr (ab (pv 0) (ab ai (ab (aV yO (aO T.g_MOST_CELLS) (ap a9 hr (ab (pv 1) ac))) ac)))))
  (ad (aw (d8 (eT (pv 2))) (ae (ah cQ)) ao)
  (ae (cI (gw PySem.F.plainAttrs_list PySem.F.slot_list_append PySem.F.type_list_append dc (pv 1) (ab (pv 2) ac)))))))
  (ad (aw (bx (bi (sD aA.cl bj hr.m (pv 0) (ab (bH dk (by rfl) T.b_ord ft (ab da ac)) ac)))) (ae (ah cQ)) ao)
  (ae (ah (pv 1)))))))),?_⟩
 obtain ⟨dx,hr0⟩ := id hR; refine ⟨_,rfl,r,dx,_,rfl,hr0,c6 _ _ (by decide +kernel) (by decide +kernel),_,rfl,rfl,r,a,n,91,bs,congrArg (fun z : Int => [V.ref r,V.int z]) ac7,hR,ha,fun h91 H1 k1 hR1 => ⟨_,rfl,?_⟩,fun h91 => ⟨_,rfl,?_⟩⟩
 rotate_left
 ·have e : gl bs n = .error n := by
   unfold gl
   split
   ·rename_i h; exact absurd h h91
   ·rfl
  exact kn n e H (ak.refl H).keep hR
 have ha1 := aP.seq k1 hR ha; obtain ⟨dx1,hr1⟩ := id hR1; refine ⟨_,rfl,r,dx1,_,rfl,hr1,c6 _ _ (by decide +kernel) (by decide +kernel),_,rfl,rfl,r,a,n + 1,93,bs,congrArg (fun z : Int => [V.ref r,V.int z]) y_,hR1,ha1,fun h93 H2 k2 hR2 => ⟨_,rfl,?_⟩,fun h93 => ⟨_,rfl,?_⟩⟩
 ·have e : gl bs n = .ok ([],bs.drop (n + 2),n + 2) := by
   unfold gl; rw [h91]; simp only; rw [h93]; rfl
  refine ⟨Nat.zero_le _,fun l hl => ?_⟩; have hrl := uH hR2 hl; have k12 := k1.trans k2; have hl0 : H l = none := aN.free k12 hl (by obtain ⟨d2,h2⟩ := hR2; exact ⟨_,h2⟩); refine ky [] (n + 2) e rfl _ l (k12.trans (ak.new hl).keep) (hR2.keepNew hrl) hl0 ?_; rw [am]; rfl
 ·have e : gl bs n = Ma.dF [] (bs.drop (n + 1)) (n + 1) := sV h91 h93; rw [e] at kn ky; refine ⟨Nat.zero_le _,fun l hl => ?_⟩; have hrl := uH hR1 hl; have hl0 : H l = none := aN.free k1 hl ⟨_,hr1⟩; have k2 : aN r H (upd H1 l (.lst [])) := k1.trans (ak.new hl).keep; have hl2 : (upd H1 l (.lst [])) l = some (.lst (vn [])) := am; have hR2 : aP al (upd H1 l (.lst [])) r a (n + 1) := hR1.keepNew hrl; generalize upd H1 l (.lst []) = H2 at *; generalize Ma.dF [] (bs.drop (n + 1)) (n + 1) = F at kn ky e
  have hF0 : Ma.dF [] (bs.drop (n + 1)) (n + 1) = F := by
   have e2 : gl bs n = Ma.dF [] (bs.drop (n + 1)) (n + 1) := sV h91 h93; rw [← e2,e]
  have body : ∀ (sh : List Nat) (q : Nat) (v : Option V) (H3 : Hp) (N : L2.St -> Hp -> Prop),sh.length < 4 -> H3 l = some (.lst (vn sh)) -> aP al H3 r a q -> aN r H H3 -> (∀ z ∈ sh,1 <= z) -> Ad.product_ sh <= 1024 -> Ma.dF sh (bs.drop q) q = F →
    (∀ (H4 : Hp) (x q' : Nat),H4 l = some (.lst (vn (sh ++ [x]))) -> aP al H4 r a q' -> aN r H H4 -> 1 <= x -> x <= 1024 / Ad.product_ sh -> Ma.li bs (sh ++ [x]) q' = F -> N [some (.ref r),some (.ref l),some (.int (x : Int))] H4) →
    ∃ m1 : Nat,m1 <= 1000000000000000 /\ ((1024 : Int) / ((Ad.product_ sh : Nat) : Int) = (m1 : Int)) /\ (∀ e,Ma.cz 1 m1 (bs.drop q) q = .error e -> Q .non H3) /\ ∀ x rest q',Ma.cz 1 m1 (bs.drop q) q = .ok (x,rest,q') -> ∀ H4,aN r H3 H4 -> aP al H4 r a q' -> H4 l = some (.lst (vn sh)) /\ N [some (.ref r),some (.ref l),some (.int (x : Int))] (upd H4 l (.lst (vn sh ++ [.int (x : Int)]))) := by
   intro sh q v H3 N hlen hl3 hR3 k3 hpos hprod hL hN; have hp1 := Ma.lJ hpos; refine ⟨1024 / Ad.product_ sh,Nat.le_trans (Nat.div_le_self _ _) (by decide),rfl,fun e he => ?_,fun x rest q' hx H4 k4 hR4 => ?_⟩
   ·have hee := Ma.p8 he; rw [Ma.aa8 hlen he] at hL; exact kn e hL.symm H3 k3 (by rw [hee]; exact hR3)
   ·obtain ⟨e1,e2,e3,e4,e5⟩ := Ma.pj hx; rw [Ma.abS hlen hx] at hL
    have hrl3 : l ≠ r := fun z => by
     obtain ⟨d3,h3⟩ := hR3; rw [z,h3] at hl3; cases hl3
    have hl4 := k4 _ _ hl3 hrl3; refine ⟨hl4,hN _ x q' ?_ (hR4.keepNew hrl3.symm) ?_ e4 e5 hL⟩
    ·rw [am,qT]; rfl
    ·intro b o eb hb
     by_cases hbl : b = l
     ·rw [hbl,hl0] at eb; cases eb
     ·rw [aK hbl]; exact k4 b o (k3 b o eb hb) hb
  refine ⟨fun m σ H' => ∃ (sh : List Nat) (q : Nat) (v : Option V),m = 4 - sh.length /\ σ = [some (.ref r),some (.ref l),v] /\ H' l = some (.lst (vn sh)) /\ aP al H' r a q /\ aN r H H' /\ (∀ z ∈ sh,1 <= z) /\ Ad.product_ sh <= 1024 /\ sh.length <= 4 /\ (if sh = [] then Ma.dF [] (bs.drop q) q else Ma.li bs sh q) = F,
   ⟨4,[],n + 1,none,rfl,rfl,hl2,hR2,k2,(fun z hz => by simp at hz),(by decide),(by decide),hF0⟩,?_⟩
  rintro m σ H' ⟨sh,q,v,rfl,rfl,hl',hR',kp,hpos,hprod,hlen,hG⟩; have hp1 := Ma.lJ hpos; have ha' := aP.seq kp hR ha; have hsm : ∀ z ∈ sh,z < 2 ^ 63 := fun z hz => Nat.lt_of_le_of_lt (Nat.le_trans (Ma.cg hpos z hz) hprod) (by decide)
  obtain ⟨dx',hr'⟩ := id hR'
  let NN : L2.St -> Hp -> Prop := fun σ' H'' => ∃ m',m' < 4 - sh.length /\ ∃ (sh : List Nat) (q : Nat) (v : Option V),m' = 4 - sh.length /\ σ' = [some (.ref r),some (.ref l),v] /\ H'' l = some (.lst (vn sh)) /\ aP al H'' r a q /\ aN r H H'' /\ (∀ z ∈ sh,1 <= z) /\ Ad.product_ sh <= 1024 /\ sh.length <= 4 /\ (if sh = [] then Ma.dF [] (bs.drop q) q else Ma.li bs sh q) = F
  have hNN : ∀ (H4 : Hp) (x q' : Nat),sh.length < 4 -> H4 l = some (.lst (vn (sh ++ [x]))) -> aP al H4 r a q' -> aN r H H4 -> 1 <= x -> x <= 1024 / Ad.product_ sh -> Ma.li bs (sh ++ [x]) q' = F -> NN [some (.ref r),some (.ref l),some (.int (x : Int))] H4 := fun H4 x q' hlen4 w1 w2 w3 w4 w5 w6 => by
   refine ⟨4 - (sh ++ [x]).length,by rw [List.length_append]; simp only [List.length_cons,List.length_nil]; omega,sh ++ [x],q',_,rfl,rfl,w1,w2,w3,fun z hz => ?_,?_,by rw [List.length_append]; simp only [List.length_cons,List.length_nil]; omega,?_⟩
   ·rcases List.mem_append.mp hz with z1 | z1
    ·exact hpos z z1
    ·rw [List.mem_singleton.mp z1]; exact w4
   ·rw [Ma.dH]; show _ * (x * 1) <= 1024; rw [Nat.mul_one]; exact Nat.le_trans (Nat.mul_le_mul_left _ w5) (Nat.mul_div_le 1024 _)
   ·rw [if_neg (by simp)]; exact w6
  refine ⟨_,rfl,l,_,rfl,.inl (ag.of hl'),rfl,_,rfl,?_⟩; rw [aI]
  by_cases hs0 : sh = []
  ·refine dw (by rw [hs0]; rfl) ?_; have hlen4 : sh.length < 4 := by rw [hs0]; decide
   rw [if_pos hs0] at hG; obtain ⟨m1,hm1,em1,b1,b2⟩ := body sh q v H' NN hlen4 hl' hR' kp hpos hprod (by rw [hs0]; exact hG) (fun H4 x q' => hNN H4 x q' hlen4); refine ⟨NN,fun _ _ h => h,?_⟩; refine ⟨_,rfl,_,rfl,l,sh,rfl,ag.of hl',hsm,_,_,rfl,rfl,⟨(by show (0 : Int) < ((Ad.product_ sh : Nat) : Int); omega),(by show ((Ad.product_ sh : Nat) : Int) < 1073741824; omega)⟩,r,a,q,1,m1,bs,congrArg (fun z : Int => [V.ref r,V.int 1,V.int z]) em1,hR',ha',hm1,fun e he => ?_,fun x rest q' hx H4 k4 hR4 => ?_⟩
   ·exact ⟨_,rfl,_,rfl,b1 e he⟩
   ·obtain ⟨c1,c2⟩ := b2 x rest q' hx H4 k4 hR4; exact ⟨_,rfl,_,rfl,_,rfl,.inl ⟨rfl,_,ag.of c1⟩,_,rfl,l,_,_,rfl,rfl,c1,(by rw [aI]; show _ < 2 ^ 24; omega),c2⟩
  ·have hpos1 : 0 < sh.length := List.length_pos_iff.mpr hs0; refine dG (a5 (by omega)) ?_; rw [if_neg hs0] at hG
   have fin : ∀ (H3 : Hp),H3 l = some (.lst (vn sh)) -> aP al H3 r a q -> aN r H H3 -> (bs[q]? = some 44 -> 4 <= sh.length) -> ∃ dx3,H3 r = some (.ins al dx3 (rf a q)) /\ ag K H3 a (vn bs) /\ (bs[q]? = some 93 -> ∀ H4,aN r H3 H4 -> aP al H4 r a (q + 1) -> Q (.ref l) H4) /\ (bs[q]? ≠ some 93 -> Q .non H3) := by
    intro H3 hl3 hR3 k3 h44; obtain ⟨dx3,hr3⟩ := id hR3; refine ⟨dx3,hr3,aP.seq k3 hR ha,fun h93 H4 k4 hR4 => ?_,fun h93 => ?_⟩
    ·have hG2 : F = .ok (sh,bs.drop (q + 1),q + 1) := by
      rw [← hG]; unfold Ma.li; rw [h93]; exact if_pos rfl
     have hlr : l ≠ r := fun z => by rw [z,hr3] at hl3; cases hl3
     exact ky sh (q + 1) hG2 (Ma.shape_iff.mpr ⟨hlen,hpos,hprod⟩) H4 l (k3.trans k4) hR4 hl0 (k4 _ _ hl3 hlr)
    ·have hG2 : F = .error q := by
      rw [← hG]; unfold Ma.li
      cases hc : bs[q]? with
      | none => rfl
      | some c =>
       simp only
       rw [if_neg (fun z => h93 (by rw [hc,z])),if_neg (fun z => by
        have := h44 (by rw [hc,z.1])
        omega)]
     exact kn q hG2 H3 k3 hR3
   refine ⟨_,rfl,l,_,rfl,.inl (ag.of hl'),_,_,rfl,rfl,_,rfl,?_⟩; rw [aI]
   by_cases hlen4 : sh.length < 4
   ·refine dw (show (sh.length : Int) < 4 by omega) ?_; refine ⟨_,rfl,r,dx',_,rfl,hr',c6 _ _ (by decide +kernel) (by decide +kernel),_,rfl,rfl,r,a,q,44,bs,congrArg (fun z : Int => [V.ref r,V.int z]) adc,hR',ha',fun h44 H3 k3 hR3 => ⟨_,rfl,?_⟩,fun h44 => ⟨_,rfl,?_⟩⟩
    ·have hG2 : Ma.dF sh (bs.drop (q + 1)) (q + 1) = F := by
      rw [← hG]; unfold Ma.li; rw [h44]; show _ = (if (44 : Nat) = 93 then (.ok (sh,bs.drop (q + 1),q + 1) : Ad.Rd Ad.Shape) else if (44 : Nat) = 44 /\ sh.length < 4 then Ma.dF sh (bs.drop (q + 1)) (q + 1) else .error q); rw [if_neg (by decide),if_pos ⟨rfl,hlen4⟩]
     have hlr : l ≠ r := fun z => by rw [z,hr'] at hl'; cases hl'
     have hl3 := k3 _ _ hl' hlr; have kp3 := kp.trans k3; have ha3 := aP.seq kp3 hR ha; obtain ⟨m1,hm1,em1,b1,b2⟩ := body sh (q + 1) v H3 NN hlen4 hl3 hR3 kp3 hpos hprod hG2 (fun H4 x q' => hNN H4 x q' hlen4); refine ⟨NN,fun _ _ h => h,?_⟩; refine ⟨_,rfl,_,rfl,l,sh,rfl,ag.of hl3,hsm,_,_,rfl,rfl,⟨(by show (0 : Int) < ((Ad.product_ sh : Nat) : Int); omega),(by show ((Ad.product_ sh : Nat) : Int) < 1073741824; omega)⟩,r,a,q + 1,1,m1,bs,congrArg (fun z : Int => [V.ref r,V.int 1,V.int z]) em1,hR3,ha3,hm1,fun e he => ?_,fun x rest q' hx H4 k4 hR4 => ?_⟩
     ·exact ⟨_,rfl,_,rfl,b1 e he⟩
     ·obtain ⟨c1,c2⟩ := b2 x rest q' hx H4 k4 hR4; exact ⟨_,rfl,_,rfl,_,rfl,.inl ⟨rfl,_,ag.of c1⟩,_,rfl,l,_,_,rfl,rfl,c1,(by rw [aI]; show _ < 2 ^ 24; omega),c2⟩
    ·obtain ⟨dx3,f1,f2,f3,f4⟩ := fin H' hl' hR' kp (fun z => absurd z h44); exact ⟨_,rfl,r,dx3,_,rfl,f1,c6 _ _ (by decide +kernel) (by decide +kernel),_,rfl,rfl,r,a,q,93,bs,congrArg (fun z : Int => [V.ref r,V.int z]) y_,⟨dx3,f1⟩,f2,fun h93 H4 k4 hR4 => ⟨_,rfl,_,rfl,f3 h93 H4 k4 hR4⟩,fun h93 => ⟨_,rfl,f4 h93⟩⟩
   ·refine dG (show ¬ (sh.length : Int) < 4 by omega) ?_; obtain ⟨dx3,f1,f2,f3,f4⟩ := fin H' hl' hR' kp (fun _ => by omega); exact ⟨_,rfl,r,dx3,_,rfl,f1,c6 _ _ (by decide +kernel) (by decide +kernel),_,rfl,rfl,r,a,q,93,bs,congrArg (fun z : Int => [V.ref r,V.int z]) y_,⟨dx3,f1⟩,f2,fun h93 H4 k4 hR4 => ⟨_,rfl,_,rfl,f3 h93 H4 k4 hR4⟩,fun h93 => ⟨_,rfl,f4 h93⟩⟩
end
end Go

namespace Go
open PySem PySem.Spec PyProof.Rows L2
section
variable {P : Program} {w : World} {K : Fg} {mg : Str -> Option Value} {base : Heap} {C al : Addr}
def pH (K : Fg) (R : Addr) : Sp := fun vs H Q _ => ∃ (r a l : Addr) (n : Nat) (bs s : List Nat),vs = [.ref r,.ref l] /\ aP R H r a n /\ ag K H a (vn bs) /\ H l = some (.lst (vn s)) /\ Ad.shapeOk s = true ∧
 (∀ e,Ad.cellsIn (Ad.rowLength s) (Ad.product_ s) 0 (bs.drop n) n = .error e -> ∀ H',aN r H H' -> aP R H' r a e -> Q .non H') /\ ∀ cs q,Ad.cellsIn (Ad.rowLength s) (Ad.product_ s) 0 (bs.drop n) n = .ok (cs,bs.drop q,q) -> cs.length = Ad.product_ s -> (∀ z ∈ cs,Ad.cellFine z = true) -> ∀ H' d,aN r H H' -> aP R H' r a q -> H d = none -> H' d = some (.lst (vi cs)) -> Q (.ref d) H'
theorem sc_read_cells : aq ["reader","lengths","size","cells","number","cell","behind"] ["reader","lengths"] (aj iI) := fs
theorem v7 (D : Df K mg "read_cells" "read_cells" iI ["reader","lengths"]) (T : Txt K mg C) (aA : iC K al) (bj : gA P w K mg base 3 al "passes" ["self","number"] (ka K al)) (n_ : Ok P w K mg base 5 "read_cell" ["reader"] (qO K al)) (a9 : Ok P w K mg base 1 "cell_count" ["lengths"] (cM K)) (fB : Ok P w K mg base 1 "line_size" ["lengths"] (lp K)) : Ok P w K mg base 6 "read_cells" ["reader","lengths"] (pH K al) := by
 refine D.ok sc_read_cells (fun _ _ _ _ h => by obtain ⟨_,_,_,_,_,_,rfl,_⟩ := h; rfl) (fun f cdv A outer s H vs Q E hr h => ?_); obtain ⟨r,a,l,n,bs,sh,rfl,hR,ha,hl,hs,kn,ky⟩ := h
 refine ⟨_,(ad (aH 2 sc_read_cells.nd (ap fB hr (ab (pv 1) ac)))
  (ad (aH 3 sc_read_cells.nd (az ac))
  (ad (bS PassesOwn.never rfl (aaf rfl T.b_range (ab ai (ab (aV cP (ap a9 hr (ab (pv 1) ac)) ai) ac))) (a0 4 sc_read_cells.nd) (ad (aH 5 sc_read_cells.nd (ap n_ hr (ab (pv 0) ac)))
  (ad (aH 6 sc_read_cells.nd (fV (aF bC (aV wF (pv 4) (pv 2)) ai) (bH dk (by rfl) T.b_ord ft (ab da ac)) (bH dk (by rfl) T.b_ord ft (ab da ac))))
  (ad (aw (PW.pt (dD (d8 (eT (pv 5))) (dn (bx (bi (sD aA.cl bj hr.m (pv 0) (ab (pv 6) ac))))))) (ae (ah cQ)) ao)
  (ae (cI (gw PySem.F.plainAttrs_list PySem.F.slot_list_append PySem.F.type_list_append dc (pv 3) (ab (pv 5) ac))))))))
  (ae (ah (pv 3)))))),?_⟩
 obtain ⟨z1,z2,z3⟩ := Ma.aE hs; have hrp := uY hs; have hsm := ci hs; obtain ⟨dx,hr0⟩ := id hR; refine ⟨_,rfl,l,sh,rfl,ag.of hl,?_⟩; refine ⟨Nat.zero_le _,fun d hd => ?_⟩; have hrd := uH hR hd; have k1 : aN r H (upd H d (.lst [])) := (ak.new hd).keep; have hd1 : (upd H d (.lst [])) d = some (.lst (vi [])) := am; have hR1 : aP al (upd H d (.lst [])) r a n := hR.keepNew hrd; have hl1 : (upd H d (.lst [])) l = some (.lst (vn sh)) := ak.new hd _ _ hl; generalize upd H d (.lst []) = H1 at *; rw [← Ma.zx] at kn ky; have hF0 : Ma.cR (Ad.rowLength sh) (Ad.product_ sh - 0) (0 % Ad.rowLength sh) [] (bs.drop n) n = Ma.cR (Ad.rowLength sh) (Ad.product_ sh) 0 [] (bs.drop n) n := by rw [Nat.zero_mod,Nat.sub_zero]
 generalize Ma.cR (Ad.rowLength sh) (Ad.product_ sh) 0 [] (bs.drop n) n = F at *; refine ⟨_,rfl,l,sh,rfl,ag.of hl1,hsm,_,_,rfl,rfl,_,_,rfl,⟨by omega,by omega,by omega,by omega⟩,?_⟩; generalize Ad.rowLength sh = nn at *; generalize Ad.product_ sh = pp at *; have epp : ((pp : Int) + 1 - 1).toNat = pp := by omega
 rw [epp]
 refine p7 (n := pp) (fun i σ H' => ∃ (v1 v2 v3 : Option V) (cs : List Int) (q : Nat),σ = [some (.ref r),some (.ref l),some (.int nn),some (.ref d),v1,v2,v3] /\ H' d = some (.lst (vi cs)) /\ cs.length = i /\ (∀ z ∈ cs,Ad.cellFine z = true) /\ aP al H' r a q /\ aN r H H' /\ Ma.cR nn (pp - i) (i % nn) cs (bs.drop q) q = F)
  ⟨none,none,none,[],n,rfl,hd1,rfl,(fun z hz => by simp at hz),hR1,k1,hF0⟩ ?_ ?_
 ·rintro i σ H' hi ⟨v1,v2,v3,cs,q,rfl,hd',hcl,hcf,hR',kp,hF⟩; have ha' := aP.seq kp hR ha; have ek : pp - i = (pp - (i + 1)) + 1 := by omega
  rw [ek] at hF; have hdr : d ≠ r := hrd.symm; refine ⟨_,rfl,r,a,q,bs,rfl,hR',ha',fun e he H2 k2 hR2 => ?_,fun z q2 hz hzf H2 k2 hR2 => ?_⟩
  ·rw [Ma.zr he] at hF; have goal2 : Q .non H2 := kn e hF.symm H2 (kp.trans k2) hR2; refine ⟨_,rfl,_,rfl,_,_,rfl,rfl,(by show (0 : Int) < (nn : Int); omega),rfl,_,rfl,ba (fun _ => ?_) (fun _ => ?_)⟩
   ·exact ⟨_,rfl,rfl,_,rfl,_,rfl,goal2⟩
   ·exact ⟨_,rfl,rfl,_,rfl,_,rfl,goal2⟩
  ·have ha2 := aP.seq k2 hR' ha'; have hd2 := k2 _ _ hd' hdr; have kp2 := kp.trans k2; obtain ⟨dx2,hr2⟩ := id hR2
   have emod : ((1 : Int) + (i : Int)) % (nn : Int) = (((i + 1) % nn : Nat) : Int) := by
    rw [Int.natCast_emod]; congr 1; omega
   have rest : ∀ (c : Nat) (v6 : V),v6 = .int (c : Int) -> c = (if i % nn + 1 = nn then 10 else 32) -> ∃ dx2,H2 r = some (.ins al dx2 (rf a q2)) /\ ag K H2 a (vn bs) /\ (bs[q2]? = some c -> ∀ H3,aN r H2 H3 -> aP al H3 r a (q2 + 1) -> H3 d = some (.lst (vi cs)) /\ aN r H (upd H3 d (.lst (vi cs ++ [.int z]))) /\ aP al (upd H3 d (.lst (vi cs ++ [.int z]))) r a (q2 + 1) /\ Ma.cR nn (pp - (i + 1)) ((i + 1) % nn) (cs ++ [z]) (bs.drop (q2 + 1)) (q2 + 1) = F) /\ (bs[q2]? ≠ some c -> Q .non H2) := by
    intro c v6 ev ec; refine ⟨dx2,hr2,ha2,fun hb H3 k3 hR3 => ?_,fun hb => ?_⟩
    ·rw [ec] at hb; rw [Ma.yZ hz hb,← Ma.sU (by omega)] at hF; refine ⟨k3 _ _ hd2 hdr,?_,hR3.keepNew hrd,hF⟩; intro b o eb hb2
     by_cases hbd : b = d
     ·rw [hbd,hd] at eb; cases eb
     ·rw [aK hbd]; exact k3 b o (kp2 b o eb hb2) hb2
    ·rw [ec] at hb; rw [Ma.aar hz hb] at hF; exact kn q2 hF.symm H2 kp2 hR2
   have fin : ∀ (H3 : Hp) (v1 v2 v3 : Option V),H3 d = some (.lst (vi cs)) -> aN r H (upd H3 d (.lst (vi cs ++ [.int z]))) -> aP al (upd H3 d (.lst (vi cs ++ [.int z]))) r a (q2 + 1) -> Ma.cR nn (pp - (i + 1)) ((i + 1) % nn) (cs ++ [z]) (bs.drop (q2 + 1)) (q2 + 1) = F →
     ∃ (w1 w2 w3 : Option V) (cs' : List Int) (q : Nat),[some (.ref r),some (.ref l),some (.int nn),some (.ref d),v1,v2,v3] = [some (.ref r),some (.ref l),some (.int nn),some (.ref d),w1,w2,w3] /\ (upd H3 d (.lst (vi cs ++ [.int z]))) d = some (.lst (vi cs')) /\ cs'.length = i + 1 /\ (∀ z ∈ cs',Ad.cellFine z = true) /\ aP al (upd H3 d (.lst (vi cs ++ [.int z]))) r a q /\ aN r H (upd H3 d (.lst (vi cs ++ [.int z]))) /\ Ma.cR nn (pp - (i + 1)) ((i + 1) % nn) cs' (bs.drop q) q = F := by
    intro H3 v1 v2 v3 g1 g2 g3 g4; refine ⟨v1,v2,v3,cs ++ [z],q2 + 1,rfl,?_,by simp [hcl],fun y hy => ?_,g3,g2,g4⟩
    ·rw [am,qB]; rfl
    ·rcases List.mem_append.mp hy with y1 | y1
     ·exact hcf y y1
     ·rw [List.mem_singleton.mp y1]; exact hzf
   have hlen : (vi cs).length < 2 ^ 24 := by rw [aM,hcl]; omega
   refine ⟨_,rfl,_,rfl,_,_,rfl,rfl,(by show (0 : Int) < (nn : Int); omega),rfl,_,rfl,?_⟩
   by_cases hcol : i % nn + 1 = nn
   ·have e0 : (i + 1) % nn = 0 := by rw [Ma.sU (by omega),if_pos hcol]
    refine dw (show V.int (((1 : Int) + (i : Int)) % (nn : Int)) = V.int 0 by rw [emod,e0]; rfl) ?_; obtain ⟨dx3,c1,c2,c3,c4⟩ := rest 10 (.int ((10 : Nat) : Int)) rfl (by rw [if_pos hcol]); refine ⟨_,rfl,rfl,_,rfl,_,rfl,_,rfl,r,dx3,_,rfl,c1,c6 _ _ (by decide +kernel) (by decide +kernel),_,rfl,r,a,q2,10,bs,congrArg (fun z : Int => [V.ref r,V.int z]) abM,⟨dx3,c1⟩,c2,fun hb H3 k3 hR3 => ⟨_,rfl,?_⟩,fun hb => ⟨_,rfl,c4 hb⟩⟩; obtain ⟨e1,e2,e3,e4⟩ := c3 hb H3 k3 hR3; exact ⟨_,rfl,.inl ⟨rfl,_,ag.of e1⟩,_,rfl,d,_,_,rfl,rfl,e1,hlen,fin H3 _ _ _ e1 e2 e3 e4⟩
   ·have e0 : (i + 1) % nn ≠ 0 := by rw [Ma.sU (by omega),if_neg hcol]; omega
    refine dG (show ¬ V.int (((1 : Int) + (i : Int)) % (nn : Int)) = V.int 0 from a5 (by rw [emod]; omega)) ?_; obtain ⟨dx3,c1,c2,c3,c4⟩ := rest 32 (.int ((32 : Nat) : Int)) rfl (by rw [if_neg hcol]); refine ⟨_,rfl,rfl,_,rfl,_,rfl,_,rfl,r,dx3,_,rfl,c1,c6 _ _ (by decide +kernel) (by decide +kernel),_,rfl,r,a,q2,32,bs,congrArg (fun z : Int => [V.ref r,V.int z]) adI,⟨dx3,c1⟩,c2,fun hb H3 k3 hR3 => ⟨_,rfl,?_⟩,fun hb => ⟨_,rfl,c4 hb⟩⟩; obtain ⟨e1,e2,e3,e4⟩ := c3 hb H3 k3 hR3; exact ⟨_,rfl,.inl ⟨rfl,_,ag.of e1⟩,_,rfl,d,_,_,rfl,rfl,e1,hlen,fin H3 _ _ _ e1 e2 e3 e4⟩
 ·rintro σ H' ⟨v1,v2,v3,cs,q,rfl,hd',hcl,hcf,hR',kp,hF⟩; rw [Nat.sub_self,Ma.xK] at hF; exact ⟨_,rfl,ky cs q hF.symm hcl hcf H' d kp hR' hd hd'⟩
end
end Go

namespace Go
open PySem PySem.Spec PyProof.Rows L2
def abl (x : Ad.Rd Ad.Shape) : Except Nat Ad.Arr := match x with
 | .error e => .error e
 | .ok s => match Ad.byte 10 s.2.1 s.2.2 with
  | .error e => .error e
  | .ok y => match Ad.cellsIn (Ad.rowLength s.1) (Ad.product_ s.1) 0 y.2.1 y.2.2 with
   | .error e => .error e
   | .ok z => if z.2.1 = [] then .ok ⟨s.1,z.1⟩ else .error z.2.2
def zN (bs : List Nat) : Except Nat Ad.Arr := abl (gl bs 0)
theorem acj (bs : List Nat) : Ad.readText bs = zN bs := by
 unfold zN
 cases bs with
 | nil => rfl
 | cons c b =>
  by_cases h91 : c = 91
  ·subst h91
   cases b with
   | nil => rfl
   | cons d b =>
    by_cases h93 : d = 93
    ·subst h93; rfl
    ·rw [sV (bs := 91 :: d :: b) (n := 0) rfl (fun e => h93 (Option.some.inj e)),Ma.abk]
     have key : (match (d :: b : List Nat) with
       | 93 :: r => Except.ok ([],r,1 + 1)
       | r => Ad.lensIn Ad.RANKS 1 r 1 : Ad.Rd Ad.Shape) = Ad.lensIn 4 1 (d :: b) 1 := by
      split
      ·rename_i h; exact absurd (List.cons.inj h).1 h93
      ·rfl
     exact congrArg abl key
  ·have e2 : gl (c :: b) 0 = .error 0 := by
    unfold gl
    split
    ·rename_i h; exact absurd (Option.some.inj h) h91
    ·rfl
   have e1 : Ad.byte 91 (c :: b) 0 = .error 0 := by
    unfold Ad.byte; exact if_neg h91
   rw [e2]; unfold Ad.readText; rw [e1]; rfl
section
variable {P : Program} {w : World} {K : Fg} {mg : Str -> Option Value} {base : Heap} {C al : Addr}
def pE (K : Fg) (C R : Addr) : Sp := fun vs H Q _ => ∃ (r a : Addr) (bs : List Nat),vs = [.ref r] /\ aP R H r a 0 /\ ag K H a (vn bs) ∧
 (∀ e,Ad.readText bs = .error e -> ∀ H',aN r H H' -> aP R H' r a e -> Q .non H') /\ ∀ A,Ad.readText bs = .ok A -> A.ok = true -> ∀ H' x,aN r H H' -> H x = none -> b_ C H' x A -> Q (.ref x) H'
theorem aN.rd {R : Addr} {H H' : Hp} {r a q : Addr} {n : Nat} (k : aN r H H') (hR : aP R H' r a n) (hq : H' q = none) : H q = none := by
 obtain ⟨dx,h⟩ := hR; exact aN.free k hq ⟨_,h⟩
theorem sc_read_array : aq ["reader","lengths","cells"] ["reader"] (aj i5) := fs
theorem vX (D : Df K mg "read_array" "read_array" i5 ["reader"]) (T : Txt K mg C) (aA : iC K al) (bj : gA P w K mg base 3 al "passes" ["self","number"] (ka K al)) (bO : gA P w K mg base 1 al "is_done" ["self"] (k7 K al)) (jh : Ok P w K mg base 5 "read_lengths" ["reader"] (mD K al)) (lI : Ok P w K mg base 6 "read_cells" ["reader","lengths"] (pH K al)) (aS : dS P w K mg base 1 "Array" C ["self","lengths","cells"] (bP C)) : Ok P w K mg base 7 "read_array" ["reader"] (pE K C al) := by
 refine D.ok sc_read_array (fun _ _ _ _ h => by obtain ⟨_,_,_,rfl,_⟩ := h; rfl) (fun f cdv A outer s H vs Q E hr h => ?_); obtain ⟨r,a,bs,rfl,hR,ha,kn,ky⟩ := h
 refine ⟨_,(ad (aH 1 sc_read_array.nd (ap jh hr (ab (pv 0) ac)))
  (ad (aw (PW.pt (dD (d8 (eT (pv 1))) (dn (bx (bi (sD aA.cl bj hr.m (pv 0) (ab (bH dk (by rfl) T.b_ord ft (ab da ac)) ac))))))) (ae (ah cQ)) ao)
  (ad (aH 2 sc_read_array.nd (ap lI hr (ab (pv 0) (ab (pv 1) ac))))
  (ad (aw (PW.pt (dD (d8 (eT (pv 2))) (dn (bx (bi (gf aA.cl bO hr.m (pv 0))))))) (ae (ah cQ)) ao)
  (ae (ah (d5 aS hr (ab (pv 1) (ab (pv 2) ac))))))))),?_⟩
 rw [acj] at kn ky; unfold zN abl at kn ky; refine ⟨_,rfl,r,a,0,bs,rfl,hR,ha,fun e he H1 k1 hR1 => ?_,fun sh q he hs H1 l k1 hR1 hl0 hl1 => ?_⟩
 ·rw [he] at kn; exact ⟨_,rfl,_,rfl,kn e rfl H1 k1 hR1⟩
 ·rw [he] at kn ky; simp only at kn ky; have ha1 := aP.seq k1 hR ha; obtain ⟨dx1,hr1⟩ := id hR1; refine ⟨_,rfl,_,rfl,_,rfl,r,dx1,_,rfl,hr1,c6 _ _ (by decide +kernel) (by decide +kernel),_,rfl,rfl,r,a,q,10,bs,congrArg (fun z : Int => [V.ref r,V.int z]) abM,hR1,ha1,fun h10 H2 k2 hR2 => ⟨_,rfl,?_⟩,fun h10 => ⟨_,rfl,?_⟩⟩
  ·rw [Ma.xp h10] at kn ky; simp only at kn ky; have hlr : l ≠ r := fun z => by rw [z,hr1] at hl1; cases hl1
   have hl2 := k2 _ _ hl1 hlr; have k12 := k1.trans k2; have ha2 := aP.seq k12 hR ha; refine ⟨_,rfl,_,rfl,r,a,l,q + 1,bs,sh,rfl,hR2,ha2,hl2,hs,fun e he2 H3 k3 hR3 => ?_,fun cs q3 he2 hcl hcf H3 d k3 hR3 hd2 hd3 => ?_⟩
   ·rw [he2] at kn; exact ⟨_,rfl,_,rfl,kn e rfl H3 (k12.trans k3) hR3⟩
   ·rw [he2] at kn ky; simp only at kn ky; have k13 := k12.trans k3; have ha3 := aP.seq k13 hR ha; obtain ⟨dx3,hr3⟩ := id hR3; have hl3 := k3 _ _ hl2 hlr; refine ⟨_,rfl,_,rfl,_,rfl,r,dx3,_,rfl,hr3,c6 _ _ (by decide +kernel) (by decide +kernel),r,a,q3,Ma.nz bs,rfl,hR3,ha3,_,rfl,?_⟩; rw [z9]
    by_cases hend : bs.length <= q3
    ·rw [decide_eq_true hend]; have e4 : bs.drop q3 = [] := List.drop_eq_nil_iff.mpr hend; rw [if_pos e4] at ky; refine ⟨_,rfl,_,rfl,pC (Q := Q) (A := ⟨sh,cs⟩) hl3 hd3 fun x H4 hx s4 hA4 => ?_⟩; exact ky _ rfl (iH hs hcl hcf) H4 x (k13.trans s4.keep) (aN.rd k13 hR3 hx) hA4
    ·rw [decide_eq_false hend]; have e4 : ¬ bs.drop q3 = [] := fun z => hend (List.drop_eq_nil_iff.mp z)
     rw [if_neg e4] at kn; exact kn q3 rfl H3 k13 hR3
  ·rw [Ma.yh h10] at kn; exact kn q rfl H1 k1 hR1
def ql (K : Fg) (C : Addr) : Sp := fun vs H Q _ => ∃ (l b : Addr) (t : Ay.State) (kk : Nat) (bs : List Nat),vs = [.ref l,.int kk,.ref b] /\ aB C H l t /\ ag K H b (vn bs) /\ aQ C H l (Ay.step t (.read kk bs)) Q
theorem sc_call_read : aq ["slots","k","text","refusal","reader","array"] ["slots","k","text"] (aj jL) := fs
theorem xo (D : Df K mg "call_read" "call_read" jL ["slots","k","text"]) (T : Txt K mg C) (aA : iC K al) (aX : Ok P w K mg base 1 "target_refusal" ["k"] (ca)) (i9 : dS P w K mg base 1 "Reader" al ["self","numbers"] (qE al)) (ma : Ok P w K mg base 7 "read_array" ["reader"] (pE K C al)) (aZ : Ok P w K mg base 1 "keep" ["slots","k","array"] (b6 C)) : Ok P w K mg base 8 "call_read" ["slots","k","text"] (ql K C) := by
 refine D.ok sc_call_read (fun _ _ _ _ h => by obtain ⟨_,_,_,_,_,rfl,_⟩ := h; rfl) (fun f cdv A outer s H vs Q E hr h => ?_); obtain ⟨l,b,t,kk,bs,rfl,S,hb,k⟩ := h
 refine ⟨_,(ad (aH 3 sc_call_read.nd (ap aX hr (ab (pv 1) ac)))
  (ad (aw (aF bB (pv 3) ai) (ae (ah (az (ab (pv 3) ac)))) ao)
  (ad (aw (aF k_ (bA T.b_len (pv 2)) (aO T.g_MOST_BYTES)) (ae (ah (az (ab (aO T.g_WRONG) ac)))) ao)
  (ad (aH 4 sc_call_read.nd (d5 i9 hr (ab (pv 2) ac)))
  (ad (aH 5 sc_call_read.nd (ap ma hr (ab (pv 4) ac)))
  (ad (aw (d8 (eT (pv 5))) (ae (ah (az (ab (aO T.g_NO_TEXT) (ab (aD (pv 4) rfl) ac))))) ao)
  (ae (ah (ap aZ hr (ab (pv 0) (ab (pv 1) (ab (pv 5) ac)))))))))))),?_⟩
 refine ⟨_,rfl,kk,rfl,_,rfl,rfl,_,rfl,?_⟩
 by_cases h0 : eg kk = 0
 ·refine br (congrArg V.int h0) ?_; have hk := eN h0; rw [Ay.step,eZ hk] at k; refine ⟨_,rfl,b,_,rfl,.inl hb,_,_,rfl,rfl,_,rfl,?_⟩; rw [aI]
  by_cases hlong : 8192 < bs.length
  ·refine dw (show (8192 : Int) < (bs.length : Int) by omega) ?_; rw [if_pos (show Ay.TEXT < bs.length from hlong)] at k; exact ⟨bc,aQ.no S (ak.refl H) k rfl⟩
  refine dG (show ¬ (8192 : Int) < (bs.length : Int) by omega) ?_; rw [if_neg (show ¬ Ay.TEXT < bs.length from hlong)] at k; refine ⟨_,rfl,fun r dx hr2 hdx hne => ?_⟩; refine ⟨r,dx,b,rfl,am,fun H2 h1 h2 => ⟨rfl,?_⟩⟩; have s2 : ak H H2 := ak.made hr2 hdx h2; have hR2 : aP al H2 r b 0 := ⟨dx,h1⟩; clear h1 h2; refine ⟨_,rfl,r,b,bs,rfl,hR2,s2.seq hb,fun e he H3 k3 hR3 => ?_,fun A' he hok H3 x k3 hx hA3 => ?_⟩
  ·rw [he] at k; have k : aQ C H l (t,.refused 8 [e]) Q := k; have s3 : ak H H3 := fun b o eb => k3 _ _ (s2 _ _ eb) (aJ eb hr2)
   obtain ⟨dx3,hr3⟩ := id hR3; refine ⟨_,rfl,_,rfl,_,rfl,r,al,dx3,_,_,rfl,hr3,aA.cl,aA.nR,lK b e,lR,fun p hp => ?_⟩; have s4 := s3.upd (o := .lst [.int (-8),.int (e : Int)]) (s3.free hp); exact k _ p s4.keep (S.keep s4) (s3.free hp) (by rw [am]; rfl)
  ·rw [he] at k; have k : aQ C H l (Ay.put t kk A') Q := k; have s3 : ak H H3 := fun b o eb => k3 _ _ (s2 _ _ eb) (aJ eb hr2)
   exact ⟨_,rfl,_,rfl,_,rfl,_,rfl,_,rfl,l,x,t,kk,A',rfl,hk,S.keep s3,hA3,hok,k.same s3⟩
 ·obtain ⟨h1,h2⟩ := lV h0; rw [Ay.step,i_ h1] at k; refine bz (a5 h0) ?_; exact ⟨_,rfl,bc,aQ.no S (ak.refl H) k h2⟩
end
end Go

namespace Go
open PySem PySem.Spec PyProof.Rows L2
theorem aaR {H : Hp} {q : Addr} {r : List Int} (h : H q = some (.lst (vi r))) (hn : Ma.acF r) : H q = some (.lst (vn (AyNeutral.nats r))) := by
 rw [h,yt fun z hz => (hn.1 z hz).1]
def iy (C : Addr) (lo hi : Int) : Sp := fun vs H Q _ => ∃ (l wa : Addr) (t : Ay.State) (p : Int) (W : List Int) (X : List (List Int)),vs = [.ref l,.int p,.ref wa] /\ aB C H l t /\ H wa = some (.lst (vi W)) /\ lo <= p /\ p <= hi /\ Ma.bT p W X /\ zy C H l (AyNeutral.step t ((p :: W) :: X)) Q
section
variable {P : Program} {w : World} {K : Fg} {mg : Str -> Option Value} {base : Heap} {C al : Addr}
theorem rN : aq ["slots","call","wholes","rows"] ["slots","call","wholes","rows"] (aj fe) := fs
theorem rV (D : Df K mg "turning_answer" "turning_answer" fe ["slots","call","wholes","rows"]) (T : Txt K mg C) (nk : Ok P w K mg base 4 "call_turn" ["slots","k","i","axes"] (qz K C)) (m_ : Ok P w K mg base 5 "call_join" ["slots","k","axis","i","j"] (qw K C)) (nM : Ok P w K mg base 5 "call_roll" ["slots","k","axis","by","i"] (p_ K C)) (ke : Ok P w K mg base 5 "call_repeat" ["slots","k","axis","times","i"] (ox K C)) : Ok P w K mg base 6 "turning_answer" ["slots","call","wholes","rows"] (dj C 12 15) := by
 refine D.ok rN (fun _ _ _ _ h => by obtain ⟨_,_,_,_,_,_,_,rfl,_⟩ := h; rfl) (fun f cdv A outer s H vs Q E hr h => ?_); obtain ⟨l,wa,ra,t,p,W,X,rfl,S,hW,hX,hlo,hhi,hV,k⟩ := h
 refine ⟨_,(ad (aw (aF bC (pv 1) ai) (ae (ah (ap nk hr (ab (pv 0) (ab (au (pv 2) ai) (ab (au (pv 2) ai) (ab (au (pv 3) ai) ac))))))) ao)
  (ad (aw (aF bC (pv 1) ai) (ae (ah (ap m_ hr (ab (pv 0) (ab (au (pv 2) ai) (ab (au (pv 2) ai) (ab (au (pv 2) ai) (ab (au (pv 2) ai) ac)))))))) ao)
  (ad (aw (aF bC (pv 1) ai) (ae (ah (ap nM hr (ab (pv 0) (ab (au (pv 2) ai) (ab (au (pv 2) ai) (ab (au (pv 2) ai) (ab (au (pv 2) ai) ac)))))))) ao)
  (ae (ah (ap ke hr (ab (pv 0) (ab (au (pv 2) ai) (ab (au (pv 2) ai) (ab (au (pv 2) ai) (ab (au (pv 2) ai) ac))))))))))),?_⟩
 refine ⟨_,rfl,rfl,_,rfl,ba (fun h => ?_) (fun h12 => ?_)⟩
 ·cases (V.int.inj (of_decide_eq_true h) : p = 12); obtain ⟨x0,x1,r0,rfl,rfl,hr0,hc⟩ := Ma.ac4 hV; obtain ⟨vs0,q0,g0,g0',hq0⟩ := hX.row (i := 0) rfl; exact ⟨_,rfl,_,rfl,wa,_,_,_,rfl,rfl,ag.of hW,rfl,_,rfl,wa,_,_,_,rfl,rfl,ag.of hW,rfl,_,rfl,ra,vs0,_,_,rfl,rfl,ag.of g0,d7 (j := 0) rfl g0',l,q0,t,x0,x1,AyNeutral.nats r0,rfl,S,ag.of (ia hq0 hr0),k.of hc⟩
 refine ⟨_,rfl,rfl,_,rfl,ba (fun h => ?_) (fun h13 => ?_)⟩
 ·cases (V.int.inj (of_decide_eq_true h) : p = 13); obtain ⟨x0,x1,x2,x3,rfl,rfl,hc⟩ := Ma.ac9 hV; exact ⟨_,rfl,_,rfl,wa,_,_,_,rfl,rfl,ag.of hW,rfl,_,rfl,wa,_,_,_,rfl,rfl,ag.of hW,rfl,_,rfl,wa,_,_,_,rfl,rfl,ag.of hW,rfl,_,rfl,wa,_,_,_,rfl,rfl,ag.of hW,rfl,l,t,x0,x1,x2,x3,rfl,S,k.of hc⟩
 refine ⟨_,rfl,rfl,_,rfl,ba (fun h => ?_) (fun h14 => ?_)⟩
 ·cases (V.int.inj (of_decide_eq_true h) : p = 14); obtain ⟨x0,x1,x2,x3,rfl,rfl,hc⟩ := Ma.ade hV; exact ⟨_,rfl,_,rfl,wa,_,_,_,rfl,rfl,ag.of hW,rfl,_,rfl,wa,_,_,_,rfl,rfl,ag.of hW,rfl,_,rfl,wa,_,_,_,rfl,rfl,ag.of hW,rfl,_,rfl,wa,_,_,_,rfl,rfl,ag.of hW,rfl,l,t,x0,x1,x3,x2,rfl,S,k.of hc⟩
 ·have hp : p = 15 := by
   have e12 : ¬ p = 12 := fun e => h12 (decide_eq_true (congrArg V.int e))
   have e13 : ¬ p = 13 := fun e => h13 (decide_eq_true (congrArg V.int e))
   have e14 : ¬ p = 14 := fun e => h14 (decide_eq_true (congrArg V.int e))
   omega
  subst hp; obtain ⟨x0,x1,x2,x3,rfl,rfl,hc⟩ := Ma.ac6 hV; exact ⟨_,rfl,_,rfl,wa,_,_,_,rfl,rfl,ag.of hW,rfl,_,rfl,wa,_,_,_,rfl,rfl,ag.of hW,rfl,_,rfl,wa,_,_,_,rfl,rfl,ag.of hW,rfl,_,rfl,wa,_,_,_,rfl,rfl,ag.of hW,rfl,l,t,x0,x1,x2,x3,rfl,S,k.of hc⟩
theorem pV : aq ["slots","call","wholes"] ["slots","call","wholes"] (aj dZ) := fs
theorem pS (D : Df K mg "reckoning_answer" "reckoning_answer" dZ ["slots","call","wholes"]) (T : Txt K mg C) (mV : Ok P w K mg base 5 "call_both" ["slots","k","op","i","j"] (qk K C)) (ng : Ok P w K mg base 6 "call_fold" ["slots","k","f","axis","i"] (qH K C)) (ny : Ok P w K mg base 6 "call_scan" ["slots","k","f","axis","i"] (qF K C)) : Ok P w K mg base 7 "reckoning_answer" ["slots","call","wholes"] (iy C 16 18) := by
 refine D.ok pV (fun _ _ _ _ h => by obtain ⟨_,_,_,_,_,_,rfl,_⟩ := h; rfl) (fun f cdv A outer s H vs Q E hr h => ?_); obtain ⟨l,wa,t,p,W,X,rfl,S,hW,hlo,hhi,hV,k⟩ := h
 refine ⟨_,(ad (aw (aF bC (pv 1) ai) (ae (ah (ap mV hr (ab (pv 0) (ab (au (pv 2) ai) (ab (au (pv 2) ai) (ab (au (pv 2) ai) (ab (au (pv 2) ai) ac)))))))) ao)
  (ad (aw (aF bC (pv 1) ai) (ae (ah (ap ng hr (ab (pv 0) (ab (au (pv 2) ai) (ab (au (pv 2) ai) (ab (au (pv 2) ai) (ab (au (pv 2) ai) ac)))))))) ao)
  (ae (ah (ap ny hr (ab (pv 0) (ab (au (pv 2) ai) (ab (au (pv 2) ai) (ab (au (pv 2) ai) (ab (au (pv 2) ai) ac)))))))))),?_⟩
 refine ⟨_,rfl,rfl,_,rfl,ba (fun h => ?_) (fun h16 => ?_)⟩
 ·cases (V.int.inj (of_decide_eq_true h) : p = 16); obtain ⟨x0,x1,x2,x3,rfl,rfl,hc⟩ := Ma.ac3 hV; exact ⟨_,rfl,_,rfl,wa,_,_,_,rfl,rfl,ag.of hW,rfl,_,rfl,wa,_,_,_,rfl,rfl,ag.of hW,rfl,_,rfl,wa,_,_,_,rfl,rfl,ag.of hW,rfl,_,rfl,wa,_,_,_,rfl,rfl,ag.of hW,rfl,l,t,x0,x1,x2,x3,rfl,S,k.of hc⟩
 refine ⟨_,rfl,rfl,_,rfl,ba (fun h => ?_) (fun h17 => ?_)⟩
 ·cases (V.int.inj (of_decide_eq_true h) : p = 17); obtain ⟨x0,x1,x2,x3,rfl,rfl,hc⟩ := Ma.adr hV; exact ⟨_,rfl,_,rfl,wa,_,_,_,rfl,rfl,ag.of hW,rfl,_,rfl,wa,_,_,_,rfl,rfl,ag.of hW,rfl,_,rfl,wa,_,_,_,rfl,rfl,ag.of hW,rfl,_,rfl,wa,_,_,_,rfl,rfl,ag.of hW,rfl,l,t,x0,x1,x2,x3,rfl,S,k.of hc⟩
 ·have hp : p = 18 := by
   have e16 : ¬ p = 16 := fun e => h16 (decide_eq_true (congrArg V.int e))
   have e17 : ¬ p = 17 := fun e => h17 (decide_eq_true (congrArg V.int e))
   omega
  subst hp; obtain ⟨x0,x1,x2,x3,rfl,rfl,hc⟩ := Ma.adz hV; exact ⟨_,rfl,_,rfl,wa,_,_,_,rfl,rfl,ag.of hW,rfl,_,rfl,wa,_,_,_,rfl,rfl,ag.of hW,rfl,_,rfl,wa,_,_,_,rfl,rfl,ag.of hW,rfl,_,rfl,wa,_,_,_,rfl,rfl,ag.of hW,rfl,l,t,x0,x1,x2,x3,rfl,S,k.of hc⟩
theorem r6 : aq ["slots","call","wholes"] ["slots","call","wholes"] (aj fb) := fs
theorem rO (D : Df K mg "picking_answer" "picking_answer" fb ["slots","call","wholes"]) (T : Txt K mg C) (l7 : Ok P w K mg base 5 "call_order" ["slots","k","axis","i"] (pO K C)) (mR : Ok P w K mg base 5 "call_take" ["slots","k","axis","i","j"] (pW K C)) (mN : Ok P w K mg base 4 "call_pack" ["slots","k","i","j"] (p4 K C)) (mZ : Ok P w K mg base 5 "call_land" ["slots","i","mode","j","l"] (qA K C)) : Ok P w K mg base 6 "picking_answer" ["slots","call","wholes"] (iy C 19 22) := by
 refine D.ok r6 (fun _ _ _ _ h => by obtain ⟨_,_,_,_,_,_,rfl,_⟩ := h; rfl) (fun f cdv A outer s H vs Q E hr h => ?_); obtain ⟨l,wa,t,p,W,X,rfl,S,hW,hlo,hhi,hV,k⟩ := h
 refine ⟨_,(ad (aw (aF bC (pv 1) ai) (ae (ah (ap l7 hr (ab (pv 0) (ab (au (pv 2) ai) (ab (au (pv 2) ai) (ab (au (pv 2) ai) ac))))))) ao)
  (ad (aw (aF bC (pv 1) ai) (ae (ah (ap mR hr (ab (pv 0) (ab (au (pv 2) ai) (ab (au (pv 2) ai) (ab (au (pv 2) ai) (ab (au (pv 2) ai) ac)))))))) ao)
  (ad (aw (aF bC (pv 1) ai) (ae (ah (ap mN hr (ab (pv 0) (ab (au (pv 2) ai) (ab (au (pv 2) ai) (ab (au (pv 2) ai) ac))))))) ao)
  (ae (ah (ap mZ hr (ab (pv 0) (ab (au (pv 2) ai) (ab (au (pv 2) ai) (ab (au (pv 2) ai) (ab (au (pv 2) ai) ac))))))))))),?_⟩
 refine ⟨_,rfl,rfl,_,rfl,ba (fun h => ?_) (fun h19 => ?_)⟩
 ·cases (V.int.inj (of_decide_eq_true h) : p = 19); obtain ⟨x0,x1,x2,rfl,rfl,hc⟩ := Ma.adH hV; exact ⟨_,rfl,_,rfl,wa,_,_,_,rfl,rfl,ag.of hW,rfl,_,rfl,wa,_,_,_,rfl,rfl,ag.of hW,rfl,_,rfl,wa,_,_,_,rfl,rfl,ag.of hW,rfl,l,t,x0,x1,x2,rfl,S,k.of hc⟩
 refine ⟨_,rfl,rfl,_,rfl,ba (fun h => ?_) (fun h20 => ?_)⟩
 ·cases (V.int.inj (of_decide_eq_true h) : p = 20); obtain ⟨x0,x1,x2,x3,rfl,rfl,hc⟩ := Ma.adp hV; exact ⟨_,rfl,_,rfl,wa,_,_,_,rfl,rfl,ag.of hW,rfl,_,rfl,wa,_,_,_,rfl,rfl,ag.of hW,rfl,_,rfl,wa,_,_,_,rfl,rfl,ag.of hW,rfl,_,rfl,wa,_,_,_,rfl,rfl,ag.of hW,rfl,l,t,x0,x1,x2,x3,rfl,S,k.of hc⟩
 refine ⟨_,rfl,rfl,_,rfl,ba (fun h => ?_) (fun h21 => ?_)⟩
 ·cases (V.int.inj (of_decide_eq_true h) : p = 21); obtain ⟨x0,x1,x2,rfl,rfl,hc⟩ := Ma.adx hV; exact ⟨_,rfl,_,rfl,wa,_,_,_,rfl,rfl,ag.of hW,rfl,_,rfl,wa,_,_,_,rfl,rfl,ag.of hW,rfl,_,rfl,wa,_,_,_,rfl,rfl,ag.of hW,rfl,l,t,x0,x1,x2,rfl,S,k.of hc⟩
 ·have hp : p = 22 := by
   have e19 : ¬ p = 19 := fun e => h19 (decide_eq_true (congrArg V.int e))
   have e20 : ¬ p = 20 := fun e => h20 (decide_eq_true (congrArg V.int e))
   have e21 : ¬ p = 21 := fun e => h21 (decide_eq_true (congrArg V.int e))
   omega
  subst hp; obtain ⟨x0,x1,x2,x3,rfl,rfl,hc⟩ := Ma.adD hV; exact ⟨_,rfl,_,rfl,wa,_,_,_,rfl,rfl,ag.of hW,rfl,_,rfl,wa,_,_,_,rfl,rfl,ag.of hW,rfl,_,rfl,wa,_,_,_,rfl,rfl,ag.of hW,rfl,_,rfl,wa,_,_,_,rfl,rfl,ag.of hW,rfl,l,t,x0,x1,x2,x3,rfl,S,k.of hc⟩
theorem uF : aq ["slots","call","wholes"] ["slots","call","wholes"] (aj gX) := fs
theorem uW (D : Df K mg "pair_answer" "pair_answer" gX ["slots","call","wholes"]) (T : Txt K mg C) (lG : Ok P w K mg base 6 "call_times" ["slots","k","i","j"] (pR K C)) (nr : Ok P w K mg base 3 "call_same" ["slots","i","j"] (qt K C)) : Ok P w K mg base 7 "pair_answer" ["slots","call","wholes"] (iy C 23 24) := by
 refine D.ok uF (fun _ _ _ _ h => by obtain ⟨_,_,_,_,_,_,rfl,_⟩ := h; rfl) (fun f cdv A outer s H vs Q E hr h => ?_); obtain ⟨l,wa,t,p,W,X,rfl,S,hW,hlo,hhi,hV,k⟩ := h
 refine ⟨_,(ad (aw (aF bC (pv 1) ai) (ae (ah (ap lG hr (ab (pv 0) (ab (au (pv 2) ai) (ab (au (pv 2) ai) (ab (au (pv 2) ai) ac))))))) ao)
  (ae (ah (ap nr hr (ab (pv 0) (ab (au (pv 2) ai) (ab (au (pv 2) ai) ac))))))),?_⟩
 refine ⟨_,rfl,rfl,_,rfl,ba (fun h => ?_) (fun h23 => ?_)⟩
 ·cases (V.int.inj (of_decide_eq_true h) : p = 23); obtain ⟨x0,x1,x2,rfl,rfl,hc⟩ := Ma.adm hV; exact ⟨_,rfl,_,rfl,wa,_,_,_,rfl,rfl,ag.of hW,rfl,_,rfl,wa,_,_,_,rfl,rfl,ag.of hW,rfl,_,rfl,wa,_,_,_,rfl,rfl,ag.of hW,rfl,l,t,x0,x1,x2,rfl,S,k.of hc⟩
 ·have hp : p = 24 := by
   have e23 : ¬ p = 23 := fun e => h23 (decide_eq_true (congrArg V.int e))
   omega
  subst hp; obtain ⟨x0,x1,rfl,rfl,hc⟩ := Ma.adv hV; exact ⟨_,rfl,_,rfl,wa,_,_,_,rfl,rfl,ag.of hW,rfl,_,rfl,wa,_,_,_,rfl,rfl,ag.of hW,rfl,l,t,x0,x1,rfl,S,k.of hc⟩
theorem uU : aq ["slots","call","wholes","rows"] ["slots","call","wholes","rows"] (aj hJ) := fs
theorem uB (D : Df K mg "text_answer" "text_answer" hJ ["slots","call","wholes","rows"]) (T : Txt K mg C) (nO : Ok P w K mg base 3 "call_text" ["slots","i"] (qi K C)) (m9 : Ok P w K mg base 8 "call_read" ["slots","k","text"] (ql K C)) : Ok P w K mg base 9 "text_answer" ["slots","call","wholes","rows"] (dj C 25 26) := by
 refine D.ok uU (fun _ _ _ _ h => by obtain ⟨_,_,_,_,_,_,_,rfl,_⟩ := h; rfl) (fun f cdv A outer s H vs Q E hr h => ?_); obtain ⟨l,wa,ra,t,p,W,X,rfl,S,hW,hX,hlo,hhi,hV,k⟩ := h
 refine ⟨_,(ad (aw (aF bC (pv 1) ai) (ae (ah (ap nO hr (ab (pv 0) (ab (au (pv 2) ai) ac))))) ao)
  (ae (ah (ap m9 hr (ab (pv 0) (ab (au (pv 2) ai) (ab (au (pv 3) ai) ac))))))),?_⟩
 refine ⟨_,rfl,rfl,_,rfl,ba (fun h => ?_) (fun h25 => ?_)⟩
 ·cases (V.int.inj (of_decide_eq_true h) : p = 25); obtain ⟨x0,rfl,rfl,hc⟩ := Ma.ac5 hV; exact ⟨_,rfl,_,rfl,wa,_,_,_,rfl,rfl,ag.of hW,rfl,l,t,x0,rfl,S,k.of hc⟩
 ·have hp : p = 26 := by
   have e25 : ¬ p = 25 := fun e => h25 (decide_eq_true (congrArg V.int e))
   omega
  subst hp; obtain ⟨x0,r0,rfl,rfl,hr0,hc⟩ := Ma.ac2 hV; obtain ⟨vs0,q0,g0,g0',hq0⟩ := hX.row (i := 0) rfl; exact ⟨_,rfl,_,rfl,wa,_,_,_,rfl,rfl,ag.of hW,rfl,_,rfl,ra,vs0,_,_,rfl,rfl,ag.of g0,d7 (j := 0) rfl g0',l,q0,t,x0,AyNeutral.nats r0,rfl,S,ag.of (aaR hq0 hr0),k.of hc⟩
theorem uR : aq ["slots","call","wholes","rows"] ["slots","call","wholes","rows"] (aj hE) := fs
theorem u6 (D : Df K mg "call_answer" "call_answer" hE ["slots","call","wholes","rows"]) (T : Txt K mg C) (iM : Ok P w K mg base 4 "making_answer" ["slots","call","wholes","rows"] (dj C 1 4)) (ik : Ok P w K mg base 4 "telling_answer" ["slots","call","wholes","rows"] (dj C 5 8)) (il : Ok P w K mg base 5 "section_answer" ["slots","call","wholes","rows"] (dj C 9 11)) (ie : Ok P w K mg base 6 "turning_answer" ["slots","call","wholes","rows"] (dj C 12 15)) (f_ : Ok P w K mg base 7 "reckoning_answer" ["slots","call","wholes"] (iy C 16 18)) (io : Ok P w K mg base 6 "picking_answer" ["slots","call","wholes"] (iy C 19 22)) (kQ : Ok P w K mg base 7 "pair_answer" ["slots","call","wholes"] (iy C 23 24)) (kM : Ok P w K mg base 9 "text_answer" ["slots","call","wholes","rows"] (dj C 25 26)) : Ok P w K mg base 10 "call_answer" ["slots","call","wholes","rows"] (dj C 1 26) := by
 refine D.ok uR (fun _ _ _ _ h => by obtain ⟨_,_,_,_,_,_,_,rfl,_⟩ := h; rfl) (fun f cdv A outer s H vs Q E hr h => ?_); obtain ⟨l,wa,ra,t,p,W,X,rfl,S,hW,hX,hlo,hhi,hV,k⟩ := h
 refine ⟨_,(ad (aw (aF iB (pv 1) ai) (ae (ah (ap iM hr (ab (pv 0) (ab (pv 1) (ab (pv 2) (ab (pv 3) ac))))))) ao)
  (ad (aw (aF iB (pv 1) ai) (ae (ah (ap ik hr (ab (pv 0) (ab (pv 1) (ab (pv 2) (ab (pv 3) ac))))))) ao)
  (ad (aw (aF iB (pv 1) ai) (ae (ah (ap il hr (ab (pv 0) (ab (pv 1) (ab (pv 2) (ab (pv 3) ac))))))) ao)
  (ad (aw (aF iB (pv 1) ai) (ae (ah (ap ie hr (ab (pv 0) (ab (pv 1) (ab (pv 2) (ab (pv 3) ac))))))) ao)
  (ad (aw (aF iB (pv 1) ai) (ae (ah (ap f_ hr (ab (pv 0) (ab (pv 1) (ab (pv 2) ac)))))) ao)
  (ad (aw (aF iB (pv 1) ai) (ae (ah (ap io hr (ab (pv 0) (ab (pv 1) (ab (pv 2) ac)))))) ao)
  (ad (aw (aF iB (pv 1) ai) (ae (ah (ap kQ hr (ab (pv 0) (ab (pv 1) (ab (pv 2) ac)))))) ao)
  (ae (ah (ap kM hr (ab (pv 0) (ab (pv 1) (ab (pv 2) (ab (pv 3) ac)))))))))))))),?_⟩
 refine ⟨_,rfl,_,_,rfl,rfl,_,rfl,ba (fun h => ?_) (fun h => ?_)⟩
 ·have h4 : p <= 4 := of_decide_eq_true h; exact ⟨_,rfl,_,rfl,_,rfl,_,rfl,l,wa,ra,t,p,W,X,rfl,S,hW,hX,by omega,h4,hV,k⟩
 have n4 : ¬ p <= 4 := fun z => h (decide_eq_true z)
 clear h; refine ⟨_,rfl,_,_,rfl,rfl,_,rfl,ba (fun h => ?_) (fun h => ?_)⟩
 ·have h8 : p <= 8 := of_decide_eq_true h; exact ⟨_,rfl,_,rfl,_,rfl,_,rfl,l,wa,ra,t,p,W,X,rfl,S,hW,hX,by omega,h8,hV,k⟩
 have n8 : ¬ p <= 8 := fun z => h (decide_eq_true z)
 clear h; refine ⟨_,rfl,_,_,rfl,rfl,_,rfl,ba (fun h => ?_) (fun h => ?_)⟩
 ·have h11 : p <= 11 := of_decide_eq_true h; exact ⟨_,rfl,_,rfl,_,rfl,_,rfl,l,wa,ra,t,p,W,X,rfl,S,hW,hX,by omega,h11,hV,k⟩
 have n11 : ¬ p <= 11 := fun z => h (decide_eq_true z)
 clear h; refine ⟨_,rfl,_,_,rfl,rfl,_,rfl,ba (fun h => ?_) (fun h => ?_)⟩
 ·have h15 : p <= 15 := of_decide_eq_true h; exact ⟨_,rfl,_,rfl,_,rfl,_,rfl,l,wa,ra,t,p,W,X,rfl,S,hW,hX,by omega,h15,hV,k⟩
 have n15 : ¬ p <= 15 := fun z => h (decide_eq_true z)
 clear h; refine ⟨_,rfl,_,_,rfl,rfl,_,rfl,ba (fun h => ?_) (fun h => ?_)⟩
 ·have h18 : p <= 18 := of_decide_eq_true h; exact ⟨_,rfl,_,rfl,_,rfl,l,wa,t,p,W,X,rfl,S,hW,by omega,h18,hV,k⟩
 have n18 : ¬ p <= 18 := fun z => h (decide_eq_true z)
 clear h; refine ⟨_,rfl,_,_,rfl,rfl,_,rfl,ba (fun h => ?_) (fun h => ?_)⟩
 ·have h22 : p <= 22 := of_decide_eq_true h; exact ⟨_,rfl,_,rfl,_,rfl,l,wa,t,p,W,X,rfl,S,hW,by omega,h22,hV,k⟩
 have n22 : ¬ p <= 22 := fun z => h (decide_eq_true z)
 clear h; refine ⟨_,rfl,_,_,rfl,rfl,_,rfl,ba (fun h => ?_) (fun h => ?_)⟩
 ·have h24 : p <= 24 := of_decide_eq_true h; exact ⟨_,rfl,_,rfl,_,rfl,l,wa,t,p,W,X,rfl,S,hW,by omega,h24,hV,k⟩
 have n24 : ¬ p <= 24 := fun z => h (decide_eq_true z)
 clear h; exact ⟨_,rfl,_,rfl,_,rfl,_,rfl,l,wa,ra,t,p,W,X,rfl,S,hW,hX,by omega,hhi,hV,k⟩
end
end Go

namespace Go
open PySem PySem.Spec PyProof.Rows L2
theorem wH : abN := by
 intro P w K mg base C al f fd T aA TF lF oI pB nh o9 m7 u_ qY qc kf ir im gC iV wB mU np nv lU nA lQ l9 qm o6 qU eR jr gB oR gF fW gI kb o4 pf fF jv m6 jf nj kj jl sF rb iK sM pZ me ph km nY iL ip iq jm lv nt nB kt pc p5 kr lO iY gH gG ic jc nH nS nU kg nV jd kz jj lW nu nG mT lM kI fN lE mX nF qy nI oZ sR lC kH n9 js lN lY nq ig fQ ij kh kC ko kD F; have a9 := v8 (P := P) (w := w) (base := base) lF; have aW := xS oI T a9; have gj := x6 (P := P) (w := w) (base := base) pB T; have bZ := xq (P := P) (w := w) (base := base) nh T; have oT := x5 (P := P) (w := w) (base := base) o9 T; have bI := xb m7 T a9 oT; have aS := abw (P := P) (w := w) (base := base) u_ T; have bY := yS (P := P) (w := w) (base := base) qY T; have cN := zp qc T bZ; have kx := uC (P := P) (w := w) (base := base) kf T; have aX := rZ (P := P) (w := w) (base := base) ir T; have aY := rT (P := P) (w := w) (base := base) im T; have bu := qZ gC T aY; have aR := sG iV T aX bu; have aZ := abY (P := P) (w := w) (base := base) wB T; have fz := wJ mU T bY; have nE := wS np T aX aW a9 fz aZ aS; have nQ := xa nv T aX aW a9 bY aZ aS; have md := vU lU T aX aW a9 bY fz aZ aS; have mQ := wZ nA T aX; have l_ := v9 lQ T aY; have lz := vZ l9 T aY; have qf := zE qm T aY gj cN; have oO := xN o6 T aY bY gj bZ aZ aS; have qR := zw (P := P) (w := w) (base := base) qU T; have eG := m8 (P := P) (w := w) (base := base) eR T; have cV := uq jr T bI cN eG aS; have bo := p9 (P := P) (w := w) (base := base) gB T; have gu := xP oR T bo; have cH := rg (P := P) (w := w) (base := base) gF T; have f6 := pU (P := P) (w := w) (base := base) fW T; have cK := qr gI T bI bo bZ f6; have kJ := uV kb T aR aW qR cV aZ; have oS := xX o4 T aR gu bo aW cH cK aZ aS; have px := xY pf T bu gu bo cH cK aZ aS; have fG := pi (P := P) (w := w) (base := base) fF T; have jo := tP jv T bI cN fG aS; have nk := xf m6 T aR jo aZ; have bd := tH (P := P) (w := w) (base := base) jf T; have fA := xz (P := P) (w := w) (base := base) nj T; have cq := uG kj T fA bd; have a7 := uu jl T aR; have sW := aaC sF T cN fA; have bf := zJ rb T bI bd sW; have a4 := sS iK T bI bd bZ aS; have i9 := aah (P := P) (w := w) (base := base) sM aA; have bO := zm (P := P) (w := w) (base := base) pZ T aA; have a6 := vY (P := P) (w := w) (base := base) me T aA; have gE := xL ph T aA a6; have kd := uy km T aA a6; have mS := wq nY T aA gE; have iM := tf iL T nE nQ md mQ; have ik := rQ ip T l_ lz qf oO; have il := rW iq T kJ oS px; have ju := up jm T bd; have lx := v5 (P := P) (w := w) (base := base) lv T; have m_ := xG nt T a7 ju cq aW bf a4 aZ; have nM := xw nB T a7 lx bf a4 aZ; have ke := uJ kt T a7 cq aW bf a4 aZ; have oK := xR (P := P) (w := w) (base := base) pc T; have cv := zn p5 T oK bY; have dU := u5 kr T cv; have mi := vS lO T dU; have bh := tj iY T aZ; have eu := re (P := P) (w := w) (base := base) gH T; have gD := qV gG T eu; have ii := rY ic T cV cv aS; have dJ := tE jc T a7; have mV := xm nH T aR gD aW ii bh; have ng := xD nS T dJ bf mi bd bh aS; have ny := wo nU T dJ bf dU a4 bh; have kE := va (P := P) (w := w) (base := base) kg T; have fC := wC (P := P) (w := w) (base := base) nV T; have jg := tM (P := P) (w := w) (base := base) jd T; have kN := uE kz T cv; have jk := ub jj T kN aS; have l7 := v0 lW T a7 kE bf a4 aZ; have mN := xr nu T aR jg aZ aS; have mR := ww nG T a7 fC cq aW bf a4 aZ; have mZ := wI mT T bu fC jk bh; have ly := vR (P := P) (w := w) (base := base) lM T; have kl := uK kI T cv; have gc := pT fN T bf kl; have lG := vW lE T aR ly aW gc bh aS; have nr := wX mX T bu; have fB := xk (P := P) (w := w) (base := base) nF T; have qS := y4 qy T fB; have nO := xh nI T aY qS; have cJ := yb oZ T aA bO; have bj := aao sR T aA cJ; have fP := v_ lC T aA cJ; have dl := uA kH T aA fP a6; have n_ := xl n9 T aA bj dl; have jh := tq js T aA bj dl a9; have lI := v7 lN T aA bj n_ a9 fB; have ma := vX lY T aA bj bO jh lI aS; have m9 := xo nq T aA aX i9 ma aZ; have ie := rV ig T nk m_ nM ke; have f_ := pS fQ T mV ng ny; have io := rO ij T l7 mR mN mZ
 have kQ := uW kh T lG nr; have kM := uB kC T nO m9; have ki := u6 ko T iM ik il ie f_ io kQ kM; have kP := uP kD T aA TF a6 kd mS ki; exact y9 F T aA kx i9 bO kP
end Go
theorem PySem.Challenge.cw_arraydesk_s01_answers_holds : PySem.Challenge.rw_arraydesk_s01_answers.Holds := by
 exact Go.main_of Go.wH
#print axioms PySem.Challenge.cw_arraydesk_s01_answers_holds
