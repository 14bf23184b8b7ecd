import PyProof.Rows.All
import Wide.All
import OpenK.AllK
import Wide.FinOn
import PyProof.EqAt
import PyProof.EqKinds
import PyProof.TupleCall
import Open.SpecLaws
import KE.OsHead
import KE.OsGo
import PyProof.Rows.SortShellAny
import KE.KSortTupG
import PySem.Challenge.RW_arraydesk_s01_answers
set_option Elab.async false
set_option linter.all false
set_option maxRecDepth 100000
set_option maxHeartbeats 2000000
abbrev Fg := PySem.W.Frag
namespace L2
open PySem PySem.Spec PyProof.Rows
abbrev jR := Sum Int Str
def iL : jR -> Value -> Bool
 | .inl k,v => Value.isInt k v
 | .inr x,v => Value.isStrOf x v
def adW (w : World) : jR -> Int
 | .inl k => hashInt k
 | .inr x => hashStr w x
theorem cU : ∀ {k : jR} {v : Value},iL k v = true -> (∃ i t,k = Sum.inl i /\ v = Value.int i t) \/ (∃ x t,k = Sum.inr x /\ v = Value.str x t)
 | .inl i,v,h => by
  obtain ⟨t,e⟩ := Value.isInt_shape (k := i) (v := v) h; exact .inl ⟨i,t,rfl,e⟩
 | .inr x,v,h => by
  obtain ⟨t,e⟩ := Value.isStrOf_shape (x := x) (v := v) h; exact .inr ⟨x,t,rfl,e⟩
theorem vC (i : Int) (t : Tok) : iL (.inl i) (.int i t) = true := by simp [iL,Value.isInt]
theorem acl (a b : Int) : decide ((Sum.inl a : jR) = Sum.inl b) = (a == b) := by
 by_cases e : a = b
 ·subst e; simp
 ·have h : ¬ (Sum.inl a : jR) = Sum.inl b := fun q => e (Sum.inl.inj q)
  rw [decide_eq_false h]; exact (beq_eq_false_iff_ne.mpr e).symm
theorem acj (a b : Str) : decide ((Sum.inr a : jR) = Sum.inr b) = decide (a = b) := by
 by_cases e : a = b
 ·subst e; simp
 ·have h : ¬ (Sum.inr a : jR) = Sum.inr b := fun q => e (Sum.inr.inj q)
  rw [decide_eq_false h,decide_eq_false e]
theorem acI (a : Int) (b : Str) : decide ((Sum.inl a : jR) = Sum.inr b) = false := decide_eq_false (fun q => nomatch q)
theorem acy (a : Str) (b : Int) : decide ((Sum.inr a : jR) = Sum.inl b) = false := decide_eq_false (fun q => nomatch q)
def gg (prog : Program) (w : World) : PySem.KeyKind prog w jR where
 is := iL
 hash := adW w
 inj := fun v a b ha hb => by
  rcases cU ha with ⟨i,t,rfl,rfl⟩ | ⟨x,t,rfl,rfl⟩
  ·rcases cU hb with ⟨j,u,rfl,e⟩ | ⟨y,u,rfl,e⟩
   ·injection e with e1 _; rw [e1]
   ·exact nomatch e
  ·rcases cU hb with ⟨j,u,rfl,e⟩ | ⟨y,u,rfl,e⟩
   ·exact nomatch e
   ·injection e with e1 _; rw [e1]
 byValue := fun k v h => by
  rcases cU h with ⟨i,t,rfl,rfl⟩ | ⟨x,t,rfl,rfl⟩ <;> rfl
 pyHash := fun hv h => by
  rcases cU hv with ⟨i,t,rfl,rfl⟩ | ⟨x,t,rfl,rfl⟩
  ·exact wpAny_pyHash_int h
  ·exact wpAny_pyHash_str h
 eqBool := fun hu hv h => by
  rcases cU hu with ⟨i,t,rfl,rfl⟩ | ⟨x,t,rfl,rfl⟩
  ·rcases cU hv with ⟨j,u,rfl,rfl⟩ | ⟨y,u,rfl,rfl⟩
   ·rw [acl] at h; exact wpAny_eqBool_int h
   ·rw [acI] at h; exact SeqAt.EqAt.int_str i t y u _ _ _ _ h
  ·rcases cU hv with ⟨j,u,rfl,rfl⟩ | ⟨y,u,rfl,rfl⟩
   ·rw [acy] at h; exact SeqAt.EqAt.str_int x t j u _ _ _ _ h
   ·rw [acj] at h; exact wpAny_eqBool_str h
 «strs» := fun k x t v h => by
  rcases cU h with ⟨i,u,rfl,e⟩ | ⟨y,u,rfl,e⟩
  ·exact nomatch e
  ·injection e with e1 _
   subst e1; cases v <;> rfl
theorem y6 (prog : Program) (w : World) (k : jR) (v : Value) : (gg prog w).is k v = iL k v := rfl
theorem rZ (prog : Program) (w : World) (i : Int) (t : Tok) : (gg prog w).is (.inl i) (.int i t) = true := vC i t
inductive V where
 | non | bl (b : Bool) | int (i : Int) | str (x : Str) | byt (b : Array UInt8) | flt (b : UInt64) | ref (a : Addr) | ty (n : String)
 deriving DecidableEq
def bu : V -> Value -> Prop
 | .non,u => u = Value.none
 | .bl b,u => u = Value.bool b
 | .int i,u => ∃ t,u = Value.int i t
 | .str x,u => ∃ t,u = Value.str x t
 | .byt b,u => ∃ t,u = Value.bytes b t
 | .flt b,u => ∃ t,u = Value.float b t
 | .ref a,u => u = Value.ref a
 | .ty n,u => u = Value.type n
abbrev aL : List V -> List Value -> Prop := Paired bu
theorem aL.length {xs : List V} {us : List Value} (r : aL xs us) : xs.length = us.length := Paired.length r
theorem aL.get : ∀ {xs : List V} {us : List Value} {i : Nat} {x : V},aL xs us -> xs[i]? = some x -> ∃ u,us[i]? = some u /\ bu x u
 | _,_,_,_,.nil,e => by simp at e
 | _,_,0,_,.cons r _,e => by simp at e; subst e; exact ⟨_,rfl,r⟩
 | _,_,i + 1,x,.cons _ t,e => by
  obtain ⟨u,h1,h2⟩ := aL.get (i := i) (x := x) t (by simpa using e); exact ⟨u,by simpa using h1,h2⟩
theorem aL.set {x : V} {u : Value} (r : bu x u) : ∀ {xs : List V} {us : List Value} (i : Nat),aL xs us -> aL (xs.set i x) (us.set i u)
 | _,_,_,.nil => .nil
 | _,_,0,.cons _ t => .cons r t
 | _,_,i + 1,.cons q t => .cons q (aL.set r i t)
theorem aL.append : ∀ {xs ys : List V} {us ws : List Value},aL xs us -> aL ys ws -> aL (xs ++ ys) (us ++ ws)
 | _,_,_,_,.nil,s => s
 | _,_,_,_,.cons r t,s => .cons r (aL.append t s)
theorem aL.take : ∀ {xs : List V} {us : List Value} (n : Nat),aL xs us -> aL (xs.take n) (us.take n)
 | _,_,0,_ => .nil
 | _,_,_ + 1,.nil => .nil
 | _,_,n + 1,.cons r t => .cons r (aL.take n t)
theorem aL.drop : ∀ {xs : List V} {us : List Value} (n : Nat),aL xs us -> aL (xs.drop n) (us.drop n)
 | _,_,0,r => r
 | _,_,_ + 1,.nil => .nil
 | _,_,n + 1,.cons _ t => aL.drop n t
def nM : Option V -> Option Value -> Prop
 | some v,some u => bu v u
 | none,none => True
 | _,_ => False
def KV {κ : Type} : List (κ × V) -> List (κ × Value) -> Prop := Paired fun (p : κ × V) (q : κ × Value) => p.1 = q.1 /\ bu p.2 q.2
def kV : jR -> V
 | .inl i => .int i
 | .inr x => .str x
inductive HO where
 /-- a list -/
 | lst (xs : List V)
 /-- a tuple (never changes) -/
 | tup (xs : List V)
 /-- a dict whose keys are ints and texts; one whose keys are tuples of ints and texts (the empty one is both) -/
 | dK (kvs : List (jR × V)) | dT (kvs : List (List jR × V))
 /-- a set of ints: its members,its size -/
 | set (S : Int -> Bool) (n : Nat)
 /-- an instance of the class at C,its dict at dx,its attributes -/
 | ins (C dx : Addr) (fs : List (Str × V))
 /-- the dict of the instance at x -/
 | own (x : Addr)
 /-- the dict of an exception -/
 | xd (fs : List (Str × V))
 /-- a bound method,f of x -/
 | met (f x : Addr)
 /-- a range object lo,lo + 1,.. below hi -/
 | rng (lo hi : Int)
 /-- a thing that is known to the object (the script; a dict while a loop walks it): read,never written while it is so -/
 | frz (o : Obj) (u : HO)
 /-- a code object's table -/
 | tbl (ps : Array Value)
 /-- any other thing,by what is true of its one object (a def of one's own: SetO a S n := HO.ext fun h => ..) -/
 | ext (φ : Heap -> Prop)
abbrev Hp := Addr -> Option HO
def upd (H : Hp) (a : Addr) (o : HO) : Hp := fun b => if b = a then some o else H b
theorem am {H : Hp} {a : Addr} {o : HO} : upd H a o a = some o := by unfold upd; rw [if_pos rfl]
theorem aK {H : Hp} {a b : Addr} {o : HO} (h : b ≠ a) : upd H a o b = H b := by unfold upd; rw [if_neg h]
theorem mt {H : Hp} {a b : Addr} {o u : HO} (h : H a = some o) (h' : H b = some u) (d : o ≠ u) : a ≠ b := by
 intro e; subst e; rw [h] at h'; exact d (Option.some.inj h')
theorem aJ {H : Hp} {a b : Addr} {o : HO} (h : H a = some o) (h' : H b = none) : a ≠ b := by
 intro e; subst e; rw [h] at h'; cases h'
section
variable (P : Program) (w : World)
def db (H : Hp) (h : Heap) (a : Addr) : HO -> Prop
 | .lst xs => xs.length <= sizeLine /\ ∃ (its : List Value) (n : Nat),aL xs its /\ h.get? a = some { cls := .type "list",data := .seq its.toArray n }
 | .tup xs => xs.length <= sizeLine /\ ∃ its : List Value,aL xs its /\ IsTup h a its.toArray
 | .dK kvs => kvs.length <= sizeLine /\ (a == sysModules) = false /\ ∃ vs,KV kvs vs /\ h.DictOf (gg P w) a vs
 | .dT kvs => kvs.length <= sizeLine /\ (a == sysModules) = false /\ ∃ xs : List (List jR × Addr × Value),
   Paired (fun (p : List jR × V) (q : List jR × Addr × Value) => p.1 = q.1 /\ H q.2.1 = some (.tup (p.1.map kV)) /\ bu p.2 q.2.2) kvs xs ∧
   ∃ o es ep,h.get? a = some o /\ o.ExactDict /\ o.data = .dict es ep /\ es.toList = xs.map (entryOfKey (tupleKind (gg P w))) /\ (xs.map (·.1)).Nodup
 | .set S n => h.SetOf (intKind P w) a S n
 | .ins C dx fs => H dx = some (.own a) /\ fs.length <= 1000 /\ dx ≠ a /\ h.get? a = some (PySem.W.instObj C dx) ∧
   ∃ mA,h.Ns1 dx mA /\ (∀ f,nM (fs.lookup f) (mA f)) /\ PySem.Within mA (fs.map (·.1))
 | .own _ => ∃ o,h.get? a = some o
 | .xd fs => ∃ mA,h.Ns1 a mA /\ ∀ f,nM (fs.lookup f) (mA f)
 | .rng lo hi => ∃ t u v,h.get? a = some { cls := .type "range",data := .fields #[.int lo t,.int hi u,.int 1 v] }
 | .frz o u => h.get? a = some o /\ db H h a u
 | .tbl ps => h.get? a = some { cls := .none,data := .fields ps }
 | .met f x => h.get? a = some (PySem.W.methodObj (.ref f) (.ref x))
 | .ext φ => φ h /\ (∃ o,h.get? a = some o) /\ ∀ h1 h2 : Heap,φ h1 -> (∀ o,h1.get? a = some o -> h2.get? a = some o) -> φ h2
def dY (H : Hp) (h : Heap) : Prop := ∀ a o,H a = some o -> db P w H h a o
end
section
variable {P : Program} {w : World} {H H' : Hp} {h h' : Heap} {a : Addr} {o : HO}
theorem db.lt (x : db P w H h a o) : a < h.objs.size := by
 cases o with
 | lst xs => obtain ⟨_,_,_,_,e⟩ := x; exact Heap.lt_size e
 | tup xs => obtain ⟨_,_,_,p⟩ := x; exact p.lt
 | dK kvs => obtain ⟨_,_,_,_,o,_,_,e,_⟩ := x; exact Heap.lt_size e
 | dT kvs => obtain ⟨_,_,_,_,o,_,_,e,_⟩ := x; exact Heap.lt_size e
 | set S n => obtain ⟨o,_,_,_,e,_⟩ := x; exact Heap.lt_size e
 | ins C dx fs => obtain ⟨_,_,_,e,_⟩ := x; exact Heap.lt_size e
 | own y => obtain ⟨_,e⟩ := x; exact Heap.lt_size e
 | xd fs => obtain ⟨_,⟨_,_,_,e,_⟩,_⟩ := x; exact Heap.lt_size e
 | rng lo hi => obtain ⟨_,_,_,e⟩ := x; exact Heap.lt_size e
 | frz ob u => obtain ⟨e,_⟩ := x; exact Heap.lt_size e
 | tbl ps => exact Heap.lt_size (show h.get? a = some _ from x)
 | met f y => exact Heap.lt_size (show h.get? a = some _ from x)
 | ext φ => obtain ⟨_,⟨_,e⟩,_⟩ := x; exact Heap.lt_size e
theorem Paired.mapP {α β : Type} {F G : α -> β -> Prop} : ∀ {l₁ : List α} {l₂ : List β},Paired F l₁ l₂ -> (∀ a b,F a b -> G a b) -> Paired G l₁ l₂
 | _,_,.nil,_ => .nil
 | _,_,.cons r t,f => .cons (f _ _ r) (Paired.mapP t f)
theorem db.stay (x : db P w H h a o) (k : ∀ b u,(b = a \/ H b = some (.own a)) -> h.get? b = some u -> h'.get? b = some u)
  (ho : ∀ b,H b = some (.own a) -> H' b = some (.own a)) (ht : ∀ b xs,H b = some (.tup xs) -> H' b = some (.tup xs)) : db P w H' h' a o := by
 induction o with
 | lst xs => obtain ⟨z,its,n,r,e⟩ := x; exact ⟨z,its,n,r,k _ _ (.inl rfl) e⟩
 | tup xs => obtain ⟨z,its,r,ob,e,c⟩ := x; exact ⟨z,its,r,ob,k _ _ (.inl rfl) e,c⟩
 | dK kvs => obtain ⟨z,y,vs,r,ob,es,ep,e,c⟩ := x; exact ⟨z,y,vs,r,ob,es,ep,k _ _ (.inl rfl) e,c⟩
 | dT kvs =>
  obtain ⟨z,y,xs,r,ob,es,ep,e,c⟩ := x; exact ⟨z,y,xs,Paired.mapP r fun p q z => ⟨z.1,ht _ _ z.2.1,z.2.2⟩,ob,es,ep,k _ _ (.inl rfl) e,c⟩
 | set S n => obtain ⟨ob,es,ep,t,e,c⟩ := x; exact ⟨ob,es,ep,t,k _ _ (.inl rfl) e,c⟩
 | ins C dx fs =>
  obtain ⟨d,z,ne,e,mA,⟨od,es,ep,e2,c⟩,r⟩ := x; exact ⟨ho _ d,z,ne,k _ _ (.inl rfl) e,mA,⟨od,es,ep,k _ _ (.inr d) e2,c⟩,r⟩
 | own y => obtain ⟨ob,e⟩ := x; exact ⟨ob,k _ _ (.inl rfl) e⟩
 | xd fs => obtain ⟨mA,⟨od,es,ep,e,c⟩,r⟩ := x; exact ⟨mA,⟨od,es,ep,k _ _ (.inl rfl) e,c⟩,r⟩
 | rng lo hi => obtain ⟨t,u,v,e⟩ := x; exact ⟨t,u,v,k _ _ (.inl rfl) e⟩
 | frz ob u ih => obtain ⟨e,q⟩ := x; exact ⟨k _ _ (.inl rfl) e,ih q⟩
 | tbl ps =>
  have e : h.get? a = some { cls := .none,data := .fields ps } := x; show h'.get? a = some { cls := .none,data := .fields ps }; exact k a _ (.inl rfl) e
 | met f y =>
  have e : h.get? a = some (PySem.W.methodObj (.ref f) (.ref y)) := x; show h'.get? a = some (PySem.W.methodObj (.ref f) (.ref y)); exact k a _ (.inl rfl) e
 | ext φ => obtain ⟨p,⟨o,e⟩,st⟩ := x; exact ⟨st _ _ p fun o q => k _ _ (.inl rfl) q,⟨o,k _ _ (.inl rfl) e⟩,st⟩
theorem dY.lt (x : dY P w H h) (e : H a = some o) : a < h.objs.size := (x a o e).lt
theorem dY.fresh (x : dY P w H h) (e : h.objs.size <= a) : H a = none := by
 cases q : H a with
 | none => rfl
 | some u => exact absurd (Nat.lt_of_lt_of_le (x.lt q) e) (Nat.lt_irrefl _)
theorem dY.kept (x : dY P w H h) (k : ∀ b u,h.get? b = some u -> h'.get? b = some u) : dY P w H h' := fun a o e =>
 (x a o e).stay (fun b u _ q => k b u q) (fun _ q => q) fun _ _ q => q
theorem dY.laid (x : dY P w H h) (k : ∀ b u,h.get? b = some u -> h'.get? b = some u) (hp : h.objs.size <= a) (new : db P w (upd H a o) h' a o) : dY P w (upd H a o) h' := fun b u e => by
 have hn := x.fresh hp
 by_cases hb : b = a
 ·subst hb; rw [am] at e; cases e; exact new
 ·rw [aK hb] at e; exact (x b u e).stay (fun c v _ q => k c v q) (fun c q => by rw [aK (aJ q hn)]; exact q) fun c xs q => by rw [aK (aJ q hn)]; exact q
end
def Rd (H : Hp) (a : Addr) (u : HO) : Prop := H a = some u \/ ∃ o,H a = some (.frz o u)
theorem Rd.ok {P : Program} {w : World} {H : Hp} {h : Heap} {a : Addr} {u : HO} (r : Rd H a u) (x : dY P w H h) : db P w H h a u := by
 rcases r with r | ⟨o,r⟩
 ·exact x a u r
 ·obtain ⟨_,q⟩ := x a _ r; exact q
def xq : Option HO -> Prop
 | some (.lst _) => True
 | some (.dK _) => True
 | some (.dT _) => True
 | some (.set _ _) => True
 | some (.ins _ _ _) => True
 | some (.ext _) => True
 | _ => False
section
variable {P : Program} {w : World} {H : Hp} {h h' : Heap} {x e : Addr} {o' : HO}
theorem dY.write (ok : dY P w H h) (mu : xq (H x)) (he : e = x \/ H e = some (.own x)) (k : ∀ b u,b ≠ e -> h.get? b = some u -> h'.get? b = some u) (heo : ∃ u,h'.get? e = some u)
  (new : db P w (upd H x o') h' x o') : dY P w (upd H x o') h' := fun b u q => by
 have nown : ∀ c y,H c = some (.own y) -> c ≠ x := fun c y r z => by subst z; rw [r] at mu; exact mu
 have ntup : ∀ c xs,H c = some (.tup xs) -> c ≠ x := fun c xs r z => by subst z; rw [r] at mu; exact mu
 by_cases hb : b = x
 ·subst hb; rw [am] at q; cases q; exact new
 ·rw [aK hb] at q
  by_cases hbe : b = e
  ·have q' : H b = some (.own x) := by
    rcases he with z | z
    ·exact absurd (hbe.trans z) hb
    ·rw [hbe]; exact z
   rw [q] at q'; cases q'; obtain ⟨v,hv⟩ := heo; exact ⟨v,by rw [hbe]; exact hv⟩
  ·refine (ok b u q).stay (fun c v hc r => k c v ?_ r) (fun c r => by rw [aK (nown c b r)]; exact r) fun c xs r => by rw [aK (ntup c xs r)]; exact r
   rcases hc with rfl | hc
   ·exact hbe
   ·rintro rfl
    rcases he with z | z
    ·exact nown c b hc z
    ·rw [hc] at z; cases z; exact hb rfl
end
structure Un (fs ex : List Addr) (H H' : Hp) (h h' : Heap) : Prop where
 keep : ∀ b o,h.get? b = some o -> H b = none -> b ∉ fs -> b ∉ ex -> h'.get? b = some o
 slot : ∀ b o,h.get? b = some o -> H b = none -> b ∈ fs -> b ∉ ex -> ∃ sl,h'.get? b = some { o with slots := sl }
 free : ∀ b o,h.get? b = some o -> H b = none -> b ∉ ex -> H' b = none
 there : ∀ b o,h.get? b = some o -> b ∉ ex -> ∃ o',h'.get? b = some o'
 tups : ∀ b xs,H b = some (.tup xs) -> H' b = some (.tup xs)
 frzs : ∀ b o u,H b = some (.frz o u) -> H' b = some (.frz o u)
 tbls : ∀ b ps,H b = some (.tbl ps) -> ∃ more,H' b = some (.tbl (ps ++ more))
section
variable {fs fs' ex ex' : List Addr} {H H1 H2 : Hp} {h h1 h2 h' : Heap} {a x e : Addr} {o : HO}
theorem Un.any (u : Un fs ex H H1 h h1) {b : Addr} {ob : Obj} (q : h.get? b = some ob) (n : H b = none) (hx : b ∉ ex) : ∃ sl,h1.get? b = some { ob with slots := sl } := by
 by_cases hb : b ∈ fs
 ·exact u.slot b ob q n hb hx
 ·exact ⟨ob.slots,u.keep b ob q n hb hx⟩
theorem Un.kept (k : ∀ b u,h.get? b = some u -> h'.get? b = some u) : Un fs ex H H h h' :=
 ⟨fun b ob q _ _ _ => k b ob q,fun b ob q _ _ _ => ⟨ob.slots,k b ob q⟩,fun _ _ _ n _ => n,fun b ob q _ => ⟨ob,k b ob q⟩,fun _ _ q => q,fun _ _ _ q => q,fun _ ps q => ⟨#[],by rw [q]; simp⟩⟩
theorem Un.refl : Un fs ex H H h h := Un.kept fun _ _ q => q
theorem Un.laid (k : ∀ b u,h.get? b = some u -> h'.get? b = some u) (hp : h.objs.size <= a) (hn : H a = none) : Un fs ex H (upd H a o) h h' where
 keep := fun b u q _ _ _ => k b u q
 slot := fun b u q _ _ _ => ⟨u.slots,k b u q⟩
 free := fun b u q n _ => by rw [aK (Nat.ne_of_lt (Nat.lt_of_lt_of_le (Heap.lt_size q) hp))]; exact n
 there := fun b u q _ => ⟨u,k b u q⟩
 tups := fun b xs q => by rw [aK (aJ q hn)]; exact q
 frzs := fun b u xs q => by rw [aK (aJ q hn)]; exact q
 tbls := fun b ps q => ⟨#[],by rw [aK (aJ q hn),q]; simp⟩
theorem Un.write (mu : xq (H x)) (he : e = x \/ H e = some (.own x)) (k : ∀ b u,b ≠ e -> h.get? b = some u -> h'.get? b = some u) (heo : ∃ u,h'.get? e = some u) : Un fs ex H (upd H x o) h h' := by
 have hx : ∀ b,H b = none -> b ≠ x := fun b n z => by subst z; rw [n] at mu; exact mu
 have hb : ∀ b,H b = none -> b ≠ e := fun b n z => by
  subst z
  rcases he with r | r
  ·exact hx b n r
  ·rw [n] at r; cases r
 have hm : ∀ b u,H b = some u -> ¬ xq (some u) -> b ≠ x := fun b u q nm z => by subst z; rw [q] at mu; exact nm mu
 refine ⟨fun b u q n _ _ => k b u (hb b n) q,fun b u q n _ _ => ⟨u.slots,k b u (hb b n) q⟩,fun b u q n _ => by rw [aK (hx b n)]; exact n,fun b u q _ => ?_,
  fun b xs q => by rw [aK (hm b _ q fun z => z)]; exact q,fun b u xs q => by rw [aK (hm b _ q fun z => z)]; exact q,fun b ps q => ⟨#[],by rw [aK (hm b _ q fun z => z),q]; simp⟩⟩
 by_cases hbe : b = e
 ·subst hbe; exact heo
 ·exact ⟨u,k b u hbe q⟩
end
def trk (h : Heap) (H : Hp) : List Addr := (List.range h.objs.size).filter fun a => (H a).isSome
def o6 (h : Heap) (H : Hp) : Heap := PySem.W.hideAll h (trk h H)
theorem aav (h : Heap) (H : Hp) : (o6 h H).objs.size = h.objs.size := PySem.W.hideAll_size _ _
theorem abh {h : Heap} {H : Hp} {b : Addr} {o : Obj} (e : h.get? b = some o) (n : H b = none) : (o6 h H).get? b = some o :=
 PySem.W.hideAll_get _ e fun hm => by
  have q : (H b).isSome = true := (List.mem_filter.mp hm).2; rw [n] at q; simp at q
theorem ab9 {h : Heap} {H : Hp} {b : Addr} {o : Obj} (e : (o6 h H).get? b = some o) : h.get? b = some o /\ H b = none := by
 have e' : h.get? b = some o := PySem.W.of_hideAll (trk h H) e; refine ⟨e',?_⟩
 cases q : H b with
 | none => rfl
 | some x =>
  have hm : b ∈ trk h H := List.mem_filter.mpr ⟨List.mem_range.mpr (Heap.lt_size e'),by simp [q]⟩; have z : (o6 h H).get? b = none := PySem.W.hideAll_none (trk h H) hm; rw [z] at e; cases e
structure Mod (K : Fg) (mg : Str -> Option Value) (base : Heap) : Prop where
 kin : K.In base
 glob : base.Ns mainGlobals mg
 blt : ∃ mb,base.Ns builtinsNs mb /\ ∀ x : Str,x ≠ "__name__" -> mb x = bootBuiltins x
 nolimit : base.NoLimit
structure Cx where
 prog : Program
 w : World
 K : Fg
 mg : Str -> Option Value
 base : Heap
 A : Around
 N : List Str
 s_0 : Shared
 H_0 : Hp
 env : Env
 outer : List Env
 stack : List Env
 ex : List Addr
 fn : Str -> Bool
 calm : Bool
 pn : List (Addr × Obj)
 xe : Value -> Shared -> Prop
def qH (l : List Env) : List Addr := l.filterMap (·.frame)
abbrev Cx.fs (X : Cx) : List Addr := qH X.outer
def zS (sc : Scope) (x : Str) : Prop := sc.names.lookup x = some .local \/ sc.names.lookup x = some .cell \/ sc.names.lookup x = some .free
def yh (sc : Scope) (x : Str) : Prop := sc.names.lookup x = some .local \/ sc.names.lookup x = some .cell
def adY (env : Env) (h : Heap) (m : Str -> Option Value) (x : Str) (u : Value) : Prop :=
 (env.kindOf x = some .local /\ m x = some u) \/ ((env.kindOf x = some .cell \/ env.kindOf x = some .free) /\ ∃ c,env.cells.lookup x = some c /\ h.IsCell c (some u))
structure Cx.Ok (X : Cx) : Prop where
 mod : Mod X.K X.mg X.base
 kind : X.env.scope.kind = .function
 glob : X.env.globals = mainGlobals
 blt : X.env.builtins = builtinsNs
 above : X.s_0.heap.objs.size <= X.env.locals
 inj : ∀ x y c,X.env.cells.lookup x = some c -> X.env.cells.lookup y = some c -> x = y
 has : ∀ x,(X.env.kindOf x = some .cell \/ X.env.kindOf x = some .free) -> ∃ c,X.env.cells.lookup x = some c
 cab : ∀ x c,X.fn x = true -> X.env.cells.lookup x = some c -> X.s_0.heap.objs.size <= c
 hd : X.calm = true -> X.A.handled = none
 frames : X.A.frames = some X.stack
 stk : X.stack = X.outer \/ (X.stack = X.env :: X.outer /\ X.env.frame = some X.env.locals)
 exf : ∀ b ∈ X.ex,b ≠ X.env.locals /\ ∀ x c,X.env.cells.lookup x = some c -> c ≠ b
 bs : ∀ b o,X.base.get? b = some o -> X.s_0.heap.get? b = some o /\ X.H_0 b = none
 bsz : X.base.objs.size <= X.s_0.heap.objs.size
 noex : ∀ b o,X.base.get? b = some o -> b ∉ X.ex
 exfs : ∀ b ∈ X.ex,b ∉ X.fs
 funs : X.s_0.heap.FunFrames X.base X.outer
 frf : ∀ b ∈ X.fs,X.H_0 b = none
structure ay (X : Cx) (pins : List (Addr × Obj)) (σ : List (Option V)) (H : Hp) (s : Shared) : Prop where
 ok : X.Ok
 os : s.os = X.s_0.os
 bare : AllBare s.gens
 base : Un X.fs X.ex X.H_0 H X.s_0.heap s.heap
 loc : ∃ m,s.heap.Ns X.env.locals m /\ ∀ (i : Nat) (x : Str) (v : V),X.N[i]? = some x -> σ[i]? = some (some v) -> zS X.env.scope x -> ∃ u,bu v u /\ adY X.env s.heap m x u
 cell : ∀ x c,X.env.cells.lookup x = some c -> ∃ v,s.heap.IsCell c v
 free : H X.env.locals = none
 freeC : ∀ x c,X.env.cells.lookup x = some c -> H c = none
 pin : ∀ p ∈ X.pn ++ pins,s.heap.get? p.1 = some p.2 /\ H p.1 = none /\ p.1 ≠ X.env.locals /\ p.1 ∉ X.fs /\ ∀ v,p.2.data ≠ .cell v
 hok : dY X.prog X.w H s.heap
 len : σ.length = X.N.length
section
variable {X : Cx} {pins : List (Addr × Obj)} {σ : List (Option V)} {H H' : Hp} {s : Shared} {h' : Heap}
theorem Cx.Ok.nofr (ok : X.Ok) {b : Addr} {o : Obj} (e : X.base.get? b = some o) : b ∉ X.fs := fun hb => by
 have := (ok.funs.mem hb).1; rw [e] at this; cases this
theorem ay.bs (I : ay X pins σ H s) : ∀ b o,X.base.get? b = some o -> s.heap.get? b = some o /\ H b = none := fun b o e =>
 ⟨I.base.keep b o (I.ok.bs b o e).1 (I.ok.bs b o e).2 (I.ok.nofr e) (I.ok.noex b o e),I.base.free b o (I.ok.bs b o e).1 (I.ok.bs b o e).2 (I.ok.noex b o e)⟩
theorem ay.bk (I : ay X pins σ H s) : ∀ b o,X.base.get? b = some o -> s.heap.get? b = some o := fun b o e => (I.bs b o e).1
theorem ay.mod (I : ay X pins σ H s) : Mod X.K X.mg X.base := I.ok.mod
theorem ay.kIn (I : ay X pins σ H s) : X.K.In s.heap := I.ok.mod.kin.keeps I.bk
theorem ay.lt (I : ay X pins σ H s) : X.env.locals < s.heap.objs.size := let ⟨_,hn,_⟩ := I.loc; hn.lt
theorem ay.sz (I : ay X pins σ H s) : X.s_0.heap.objs.size <= s.heap.objs.size := Nat.le_trans I.ok.above (Nat.le_of_lt I.lt)
theorem ay.nofs (I : ay X pins σ H s) {a : Addr} (h : s.heap.objs.size <= a) : a ∉ X.fs := fun hb => by
 obtain ⟨_,o,ho,_⟩ := I.ok.funs.mem hb; exact absurd (Nat.lt_of_lt_of_le (Heap.lt_size ho) (Nat.le_trans I.sz h)) (Nat.lt_irrefl _)
theorem ay.cne (I : ay X pins σ H s) : ∀ x c,X.env.cells.lookup x = some c -> c ≠ X.env.locals := fun x c e z => by
 obtain ⟨v,o,ho,hd⟩ := I.cell x c e; obtain ⟨m,⟨o',es,ep,ho',hd',_⟩,_⟩ := I.loc; rw [z,ho'] at ho; cases ho; rw [hd'] at hd; cases hd
theorem ay.funs (I : ay X pins σ H s) : s.heap.FunFrames X.base X.outer := by
 have all : ∀ (l : List Env),(∀ b ∈ qH l,b ∈ X.fs) -> X.s_0.heap.FunFrames X.base l -> s.heap.FunFrames X.base l := by
  intro l
  induction l with
  | nil => intro _ _; trivial
  | cons env r ih =>
   intro hs hl; obtain ⟨hk,⟨L,o,hf,hn,ho,hd⟩,hr⟩ := hl; have hL : L ∈ X.fs := hs L (by unfold qH; rw [List.filterMap_cons,hf]; exact List.mem_cons_self)
   obtain ⟨sl,e⟩ := I.base.slot L o ho (I.ok.frf L hL) hL fun z => I.ok.exfs L z hL
   exact ⟨hk,⟨L,_,hf,hn,e,hd⟩,ih (fun b hb => hs b (by unfold qH; rw [List.filterMap_cons,hf]; exact List.mem_cons_of_mem _ hb)) hr⟩
 exact all X.outer (fun _ hb => hb) I.ok.funs
theorem ay.stack (I : ay X pins σ H s) : s.heap.FunFrames X.base X.stack := by
 rcases I.ok.stk with e | ⟨e,hf⟩
 ·rw [e]; exact I.funs
 ·rw [e]; obtain ⟨m,hn,_⟩ := I.loc; refine .cons (by rw [I.ok.kind]; decide) hf hn ?_ I.funs; exact Heap.get?_none_of_le (Nat.le_trans I.ok.bsz I.ok.above)
theorem ay.stkSub (I : ay X pins σ H s) : ∀ b ∈ qH X.stack,b ∈ X.env.locals :: X.fs := fun b hb => by
 rcases I.ok.stk with e | ⟨e,hf⟩
 ·rw [e] at hb; exact List.mem_cons_of_mem _ hb
 ·rw [e] at hb; unfold qH at hb; rw [List.filterMap_cons,hf] at hb; exact hb
theorem ay.stkFree (I : ay X pins σ H s) : ∀ b ∈ qH X.stack,H b = none := fun b hb => by
 rcases List.mem_cons.mp (I.stkSub b hb) with e | hb
 ·rw [e]; exact I.free
 ·obtain ⟨_,o,ho,_⟩ := I.ok.funs.mem hb; exact I.base.free b o ho (I.ok.frf b hb) fun z => I.ok.exfs b z hb
theorem ay.step {g' : Array GenState} {t' : Nat} {d' : Drawn} {ch : List Addr} (I : ay X pins σ H s)
  (hch : ∀ b ∈ ch,(b ∈ X.ex \/ X.s_0.heap.objs.size <= b) /\ b ≠ X.env.locals /\ (∀ x c,X.env.cells.lookup x = some c -> c ≠ b) /\ ∀ p ∈ X.pn ++ pins,p.1 ≠ b)
  (keep : ∀ b o,b ≠ X.env.locals -> b ∉ X.fs -> b ∉ ch -> s.heap.get? b = some o -> H b = none -> h'.get? b = some o)
  (slot : ∀ b o,b ≠ X.env.locals -> b ∈ X.fs -> b ∉ ch -> s.heap.get? b = some o -> H b = none -> ∃ sl,h'.get? b = some { o with slots := sl }) (free : ∀ b o,b ∉ ch -> s.heap.get? b = some o -> H b = none -> H' b = none)
  (there : ∀ b o,b ∉ ch -> s.heap.get? b = some o -> ∃ o',h'.get? b = some o')
  (tups : ∀ b xs,H b = some (.tup xs) -> H' b = some (.tup xs)) (frzs : ∀ b o u,H b = some (.frz o u) -> H' b = some (.frz o u)) (tbls : ∀ b ps,H b = some (.tbl ps) -> ∃ more,H' b = some (.tbl (ps ++ more)))
  (ns : ∀ m,s.heap.Ns X.env.locals m -> h'.Ns X.env.locals m) (hok : dY X.prog X.w H' h') (hg : AllBare g') :
  ay X pins σ H' { s with heap := h',gens := g',drawn := d',toks := t' } := by
 have neL : ∀ b o,X.s_0.heap.get? b = some o -> b ≠ X.env.locals := fun b o e => Nat.ne_of_lt (Nat.lt_of_lt_of_le (Heap.lt_size e) I.ok.above)
 have neC : ∀ b o,X.s_0.heap.get? b = some o -> b ∉ X.ex -> b ∉ ch := fun b o e hx hb => by
  rcases (hch b hb).1 with z | z
  ·exact hx z
  ·exact absurd (Nat.lt_of_lt_of_le (Heap.lt_size e) z) (Nat.lt_irrefl _)
 have cellK : ∀ x c,X.env.cells.lookup x = some c -> ∀ v,s.heap.IsCell c v -> h'.IsCell c v := fun x c e v ⟨o,ho,hd⟩ => by
  have nch : c ∉ ch := fun z => (hch c z).2.2.1 x c e rfl
  by_cases hc : c ∈ X.fs
  ·obtain ⟨sl,q⟩ := slot c o (I.cne x c e) hc nch ho (I.freeC x c e); exact ⟨_,q,hd⟩
  ·exact ⟨o,keep c o (I.cne x c e) hc nch ho (I.freeC x c e),hd⟩
 refine ⟨I.ok,I.os,hg,⟨fun b o e n hb hx => ?_,fun b o e n hb hx => ?_,fun b o e n hx => ?_,fun b o e hx => ?_,fun b xs e => tups b xs (I.base.tups b xs e),fun b o xs e => frzs b o xs (I.base.frzs b o xs e),fun b ps e => ?_⟩,?_,fun x c e => ?_,?_,fun x c e => ?_,fun p hp => ?_,hok,I.len⟩
 ·exact keep b o (neL b o e) hb (neC b o e hx) (I.base.keep b o e n hb hx) (I.base.free b o e n hx)
 ·obtain ⟨sl,e1⟩ := I.base.slot b o e n hb hx; obtain ⟨sl',e2⟩ := slot b _ (neL b o e) hb (neC b o e hx) e1 (I.base.free b o e n hx); exact ⟨sl',e2⟩
 ·obtain ⟨o',e1⟩ := I.base.there b o e hx; exact free b o' (neC b o e hx) e1 (I.base.free b o e n hx)
 ·obtain ⟨o',e1⟩ := I.base.there b o e hx; exact there b o' (neC b o e hx) e1
 ·obtain ⟨m1,e1⟩ := I.base.tbls b ps e; obtain ⟨m2,e2⟩ := tbls b _ e1; exact ⟨m1 ++ m2,by rw [e2,Array.append_assoc]⟩
 ·obtain ⟨m,hn,hl⟩ := I.loc; refine ⟨m,ns m hn,fun i x v e1 e2 e3 => ?_⟩; obtain ⟨u,r,l⟩ := hl i x v e1 e2 e3; refine ⟨u,r,?_⟩
  rcases l with l | ⟨k,c,e,z⟩
  ·exact .inl l
  ·exact .inr ⟨k,c,e,cellK x c e _ z⟩
 ·obtain ⟨v,z⟩ := I.cell x c e; exact ⟨v,cellK x c e v z⟩
 ·obtain ⟨m,⟨o,_,_,ho,_⟩,_⟩ := I.loc; exact free _ o (fun z => (hch _ z).2.1 rfl) ho I.free
 ·obtain ⟨v,o,ho,hd⟩ := I.cell x c e; exact free c o (fun z => (hch c z).2.2.1 x c e rfl) ho (I.freeC x c e)
 ·obtain ⟨e,n,ne,nf,d⟩ := I.pin p hp; have nch : p.1 ∉ ch := fun z => (hch p.1 z).2.2.2 p hp rfl
  exact ⟨keep p.1 p.2 ne nf nch e n,free p.1 p.2 nch e n,ne,nf,d⟩
theorem ay.un {t' : Nat} (I : ay X pins σ H s) (u : Un X.fs [] H H' s.heap h') (hok : dY X.prog X.w H' h') : ay X pins σ H' { s with heap := h',toks := t' } := by
 obtain ⟨m,⟨o,es,ep,ho,r⟩,_⟩ := id I.loc; obtain ⟨sl,hL⟩ := u.any ho I.free (by simp)
 exact I.step (g' := s.gens) (d' := s.drawn) (ch := []) (fun _ z => nomatch z) (fun b o _ hb _ e n => u.keep b o e n hb (by simp)) (fun b o _ hb _ e n => u.slot b o e n hb (by simp)) (fun b o _ e n => u.free b o e n (by simp)) (fun b o _ e => u.there b o e (by simp)) u.tups u.frzs u.tbls (fun m' hm => by
  obtain ⟨o',es',ep',ho',r'⟩ := hm; rw [ho] at ho'; cases ho'
  exact ⟨_,es',ep',hL,r'⟩) hok I.bare
theorem ay.call {g' : Array GenState} {t' : Nat} {d' : Drawn} {ch : List Addr} (I : ay X pins σ H s) (u : Un (qH X.stack) ch H H' s.heap h') (hok : dY X.prog X.w H' h') (hg : AllBare g')
  (hch : ∀ b ∈ ch,(b ∈ X.ex \/ X.s_0.heap.objs.size <= b) /\ b ≠ X.env.locals /\ (∀ x c,X.env.cells.lookup x = some c -> c ≠ b) /\ ∀ p ∈ X.pn ++ pins,p.1 ≠ b) :
  ay X pins σ H' { s with heap := h',gens := g',drawn := d',toks := t' } := by
 obtain ⟨m,⟨o,es,ep,ho,r⟩,_⟩ := id I.loc
 obtain ⟨sl,hL⟩ := u.any ho I.free fun z => (hch _ z).2.1 rfl
 exact I.step (ch := ch) hch (fun b o hL hb hc e n => u.keep b o e n (fun z => (List.mem_cons.mp (I.stkSub b z)).elim hL hb) hc) (fun b o _ _ hc e n => u.any e n hc) (fun b o hc e n => u.free b o e n hc) (fun b o hc e => u.there b o e hc) u.tups u.frzs u.tbls (fun m' hm => by
  obtain ⟨o',es',ep',ho',r'⟩ := hm; rw [ho] at ho'; cases ho'
  exact ⟨_,es',ep',hL,r'⟩) hok hg
theorem ay.turned {t' : Nat} {it : Addr} (I : ay X pins σ H s) (k : ∀ b o,b ≠ it -> s.heap.get? b = some o -> h'.get? b = some o) (hn : H it = none) (hL : it ≠ X.env.locals)
  (h1 : it ∈ X.ex \/ X.s_0.heap.objs.size <= it) (h2 : ∀ x c,X.env.cells.lookup x = some c -> c ≠ it) (h3 : ∀ p ∈ X.pn ++ pins,p.1 ≠ it) : ay X pins σ H { s with heap := h',toks := t' } := by
 have nit : ∀ b u,H b = some u -> b ≠ it := fun b u e z => by rw [z,hn] at e; cases e
 refine I.step (g' := s.gens) (d' := s.drawn) (ch := [it]) (fun b hb => ?_) (fun b o _ _ hc e _ => k b o (fun z => hc (by simp [z])) e) (fun b o _ _ hc e _ => ⟨o.slots,k b o (fun z => hc (by simp [z])) e⟩) (fun _ _ _ _ n => n)
  (fun b o hc e => ⟨o,k b o (fun z => hc (by simp [z])) e⟩) (fun _ _ e => e) (fun _ _ _ e => e) (fun b ps e => ⟨#[],by rw [e]; simp⟩) (fun m hm => ?_) (fun b u e => ?_) I.bare
 ·have e : b = it := by simpa using hb
  subst e; exact ⟨h1,hL,h2,h3⟩
 ·obtain ⟨o,es,ep,ho,r⟩ := hm; exact ⟨o,es,ep,k _ o (Ne.symm hL) ho,r⟩
 ·refine (I.hok b u e).stay (fun c v hc q => k c v ?_ q) (fun _ q => q) fun _ _ q => q
  rcases hc with z | z
  ·rw [z]; exact nit b u e
  ·exact nit c _ z
theorem ay.tok (I : ay X pins σ H s) (t : Nat) : ay X pins σ H { s with toks := t } := I.un (h' := s.heap) (t' := t) Un.refl I.hok
theorem ay.kept {t' : Nat} (I : ay X pins σ H s) (k : ∀ b u,s.heap.get? b = some u -> h'.get? b = some u) : ay X pins σ H { s with heap := h',toks := t' } := I.un (Un.kept k) (I.hok.kept k)
theorem ay.laid {a : Addr} {o : HO} {t' : Nat} (I : ay X pins σ H s) (k : ∀ b u,s.heap.get? b = some u -> h'.get? b = some u) (hp : s.heap.objs.size <= a) (new : db X.prog X.w (upd H a o) h' a o) :
  ay X pins σ (upd H a o) { s with heap := h',toks := t' } := I.un (Un.laid k hp (I.hok.fresh hp)) (I.hok.laid k hp new)
theorem ay.write {x e : Addr} {o : HO} {t' : Nat} (I : ay X pins σ H s) (mu : xq (H x)) (he : e = x \/ H e = some (.own x)) (k : ∀ b u,b ≠ e -> s.heap.get? b = some u -> h'.get? b = some u) (heo : ∃ u,h'.get? e = some u)
  (new : db X.prog X.w (upd H x o) h' x o) : ay X pins σ (upd H x o) { s with heap := h',toks := t' } := I.un (Un.write mu he k heo) (I.hok.write mu he k heo new)
theorem ay.weak {σ' : List (Option V)} (I : ay X pins σ H s) (hl : σ'.length = σ.length) (w : ∀ (i : Nat) v,σ'[i]? = some (some v) -> σ[i]? = some (some v)) : ay X pins σ' H s :=
 ⟨I.ok,I.os,I.bare,I.base,let ⟨m,hn,hl'⟩ := I.loc; ⟨m,hn,fun i x v e1 e2 e3 => hl' i x v e1 (w i v e2) e3⟩,I.cell,I.free,I.freeC,I.pin,I.hok,hl.trans I.len⟩
theorem ay.pins_of {pins' : List (Addr × Obj)} (I : ay X pins σ H s) (h : ∀ p ∈ pins',s.heap.get? p.1 = some p.2 /\ H p.1 = none /\ p.1 ≠ X.env.locals /\ p.1 ∉ X.fs /\ ∀ v,p.2.data ≠ .cell v) : ay X pins' σ H s :=
 ⟨I.ok,I.os,I.bare,I.base,I.loc,I.cell,I.free,I.freeC,fun p hp => (List.mem_append.mp hp).elim (fun z => I.pin p (List.mem_append_left _ z)) (h p),I.hok,I.len⟩
theorem sH {N : List Str} (hN : N.Nodup) {i j : Nat} {x : Str} (a : N[i]? = some x) (b : N[j]? = some x) : i = j := by
 obtain ⟨h1,e1⟩ := List.getElem?_eq_some_iff.mp a; obtain ⟨h2,e2⟩ := List.getElem?_eq_some_iff.mp b; exact (List.getElem_inj hN).mp (e1.trans e2.symm)
theorem vx {M : Model} {A : Around} {E : Value -> Shared -> Prop} {i : Nat} {x : Str} {v : V} {u : Value} {Q : Unit -> Shared -> Prop} (I : ay X pins σ H s) (hN : X.N.Nodup) (hi : X.N[i]? = some x) (hx : yh X.env.scope x) (r : bu v u)
  (h : ∀ s',ay X pins (σ.set i (some v)) H s' -> (∃ a,Heap.SameBut a s.heap s'.heap /\ (a = X.env.locals \/ X.env.cells.lookup x = some a)) -> Q () s') (hf : X.fn x = true \/ X.env.scope.names.lookup x = some .local := by first | exact .inl rfl | exact .inr rfl | assumption) : wpAny M A (storeName X.env x u) Q E s := by
 obtain ⟨m,hn,hl⟩ := id I.loc; have hcls : (X.env.scope.kind == .class || (X.env.scope.kind == .module && X.env.locals != X.env.globals)) = false := by rw [I.ok.kind]; rfl
 have hiσ : i < σ.length := by rw [I.len]; exact (List.getElem?_eq_some_iff.mp hi).1
 have cne := I.cne
 have tracked : ∀ {a : Addr} {h' : Heap},(∃ o,s.heap.get? a = some o /\ H a = none) -> Heap.SameBut a s.heap h' -> dY X.prog X.w H h' := fun {a h'} ha hs b ob e => by
  obtain ⟨_,_,hfree⟩ := ha; refine (I.hok b ob e).stay (fun c w' hc q => (hs.2 c ?_).trans q) (fun _ q => q) fun _ _ q => q
  rintro rfl
  rcases hc with rfl | hc
  ·rw [hfree] at e; cases e
  ·rw [hfree] at hc; cases hc
 rcases hx with hk | hk
 ·refine wpAny_storeName_local hk hn (fun h' hn' hs => ?_) hcls; obtain ⟨oL,_,_,hoL,_⟩ := id hn; refine h _ ⟨I.ok,I.os,I.bare,⟨fun b o e n hb hx => ?_,fun b o e n hb hx => ?_,I.base.free,fun b o e hx => ?_,I.base.tups,I.base.frzs,I.base.tbls⟩,⟨_,hn',fun j y v' e1 e2 e3 => ?_⟩,fun y c e => ?_,I.free,I.freeC,fun p hp => ?_,tracked ⟨oL,hoL,I.free⟩ hs,by simpa using I.len⟩ ⟨_,hs,.inl rfl⟩
  ·exact (hs.2 b (Nat.ne_of_lt (Nat.lt_of_lt_of_le (Heap.lt_size e) I.ok.above))).trans (I.base.keep b o e n hb hx)
  ·obtain ⟨sl,e1⟩ := I.base.slot b o e n hb hx; exact ⟨sl,(hs.2 b (Nat.ne_of_lt (Nat.lt_of_lt_of_le (Heap.lt_size e) I.ok.above))).trans e1⟩
  ·obtain ⟨o',e1⟩ := I.base.there b o e hx; exact ⟨o',(hs.2 b (Nat.ne_of_lt (Nat.lt_of_lt_of_le (Heap.lt_size e) I.ok.above))).trans e1⟩
  ·by_cases hj : j = i
   ·subst hj; rw [hi] at e1; cases e1; rw [List.getElem?_set_self hiσ] at e2; cases e2; exact ⟨u,r,.inl ⟨hk,by simp⟩⟩
   ·rw [List.getElem?_set_ne (Ne.symm hj)] at e2; obtain ⟨u',r',q⟩ := hl j y v' e1 e2 e3; refine ⟨u',r',?_⟩
    rcases q with ⟨k,e⟩ | ⟨k,c,e,z⟩
    ·refine .inl ⟨k,?_⟩; have : y ≠ x := fun e => hj (sH hN e1 (e ▸ hi))
     simp [this,e]
    ·exact .inr ⟨k,c,e,z.sameBut hs (cne y c e)⟩
  ·obtain ⟨w',z⟩ := I.cell y c e; exact ⟨w',z.sameBut hs (cne y c e)⟩
  ·obtain ⟨e,n,ne,nf,d⟩ := I.pin p hp; exact ⟨(hs.2 p.1 ne).trans e,n,ne,nf,d⟩
 ·have hfn : X.fn x = true := by
   rcases hf with z | z
   ·exact z
   ·rw [z] at hk; cases hk
  obtain ⟨c,hc⟩ := I.ok.has x (.inl hk); obtain ⟨w',z⟩ := I.cell x c hc; refine wpAny_storeName_cell I.ok.kind hk hc z (fun h' hc' hs => ?_); obtain ⟨oc,hoc,hocd⟩ := id z; refine h { s with heap := h' } ⟨I.ok,I.os,I.bare,⟨fun b o e n hb hx => ?_,fun b o e n hb hx => ?_,I.base.free,fun b o e hx => ?_,I.base.tups,I.base.frzs,I.base.tbls⟩,⟨m,hn.sameBut hs (Ne.symm (cne x c hc)),fun j y v' e1 e2 e3 => ?_⟩,fun y c' e => ?_,I.free,I.freeC,fun p hp => ?_,tracked ⟨oc,hoc,I.freeC x c hc⟩ hs,by simpa using I.len⟩ ⟨c,hs,.inr hc⟩
  ·exact (hs.2 b (Nat.ne_of_lt (Nat.lt_of_lt_of_le (Heap.lt_size e) (I.ok.cab x c hfn hc)))).trans (I.base.keep b o e n hb hx)
  ·obtain ⟨sl,e1⟩ := I.base.slot b o e n hb hx; exact ⟨sl,(hs.2 b (Nat.ne_of_lt (Nat.lt_of_lt_of_le (Heap.lt_size e) (I.ok.cab x c hfn hc)))).trans e1⟩
  ·obtain ⟨o',e1⟩ := I.base.there b o e hx; exact ⟨o',(hs.2 b (Nat.ne_of_lt (Nat.lt_of_lt_of_le (Heap.lt_size e) (I.ok.cab x c hfn hc)))).trans e1⟩
  ·by_cases hj : j = i
   ·subst hj; rw [hi] at e1; cases e1; rw [List.getElem?_set_self hiσ] at e2; cases e2; exact ⟨u,r,.inr ⟨.inl hk,c,hc,hc'⟩⟩
   ·rw [List.getElem?_set_ne (Ne.symm hj)] at e2; obtain ⟨u',r',q⟩ := hl j y v' e1 e2 e3; refine ⟨u',r',?_⟩
    rcases q with q | ⟨k,c',e,z'⟩
    ·exact .inl q
    ·refine .inr ⟨k,c',e,z'.sameBut hs ?_⟩; rintro rfl; exact hj (sH hN e1 (I.ok.inj _ _ _ e hc ▸ hi))
  ·by_cases hcc : c' = c
   ·subst hcc; exact ⟨_,hc'⟩
   ·obtain ⟨w2,z2⟩ := I.cell y c' e; exact ⟨w2,z2.sameBut hs hcc⟩
  ·obtain ⟨e,n,ne,nf,d⟩ := I.pin p hp; refine ⟨(hs.2 p.1 ?_).trans e,n,ne,nf,d⟩; intro q; rw [q,hoc] at e; have q' : oc = p.2 := Option.some.inj e; exact d w' (by rw [← q']; exact hocd)
theorem wC {M : Model} {A : Around} {E : Value -> Shared -> Prop} {i : Nat} {x : Str} {v : V} {u : Value} {Q : Unit -> Shared -> Prop} (I : ay X pins σ H s) (hN : X.N.Nodup) (hi : X.N[i]? = some x) (hx : yh X.env.scope x) (r : bu v u)
  (h : ∀ s',ay X pins (σ.set i (some v)) H s' -> Q () s') (hf : X.fn x = true \/ X.env.scope.names.lookup x = some .local := by first | exact .inl rfl | exact .inr rfl | assumption) : wpAny M A (storeName X.env x u) Q E s :=
 vx I hN hi hx r (fun s' I' _ => h s' I') hf
theorem ay.call' {s' : Shared} {ch : List Addr} (I : ay X pins σ H s) (ho : s'.os = s.os) (u : Un (qH X.stack) ch H H' s.heap s'.heap) (hok : dY X.prog X.w H' s'.heap) (hg : AllBare s'.gens)
  (hch : ∀ b ∈ ch,(b ∈ X.ex \/ X.s_0.heap.objs.size <= b) /\ b ≠ X.env.locals /\ (∀ x c,X.env.cells.lookup x = some c -> c ≠ b) /\ ∀ p ∈ X.pn ++ pins,p.1 ≠ b) : ay X pins σ H' s' := by
 obtain ⟨h',g',d',t',o'⟩ := s'; have e : o' = s.os := ho; subst e; exact I.call (g' := g') (t' := t') (d' := d') u hok hg hch
end
abbrev XK := Value -> Option Addr -> Hp -> Prop
abbrev St := List (Option V)
abbrev VK := V -> Hp -> Prop
abbrev TE := St -> Hp -> VK -> Prop
abbrev TT := St -> Hp -> (Bool -> Hp -> Prop) -> Prop
abbrev TA := St -> Hp -> (List V -> Hp -> Prop) -> Prop
structure kf where
 nx : St -> Hp -> Prop
 rt : VK
 bk : St -> Hp -> Prop := fun _ _ => False
 ct : St -> Hp -> Prop := fun _ _ => False
abbrev TS := kf -> St -> Hp -> Prop
def EP (X : Cx) (pins : List (Addr × Obj)) (σ : St) (Q : VK) (u : Value) (s' : Shared) : Prop := ∃ v H',ay X pins σ H' s' /\ bu v u /\ Q v H'
def TP (X : Cx) (pins : List (Addr × Obj)) (σ : St) (Q : Bool -> Hp -> Prop) (b : Bool) (s' : Shared) : Prop := ∃ H',ay X pins σ H' s' /\ Q b H'
def AP (X : Cx) (pins : List (Addr × Obj)) (σ : St) (Q : List V -> Hp -> Prop) (us : List Value) (s' : Shared) : Prop := ∃ vs H',ay X pins σ H' s' /\ aL vs us /\ Q vs H'
def SP (X : Cx) (pins : List (Addr × Obj)) (D : kf) (f : Flow) (s' : Shared) : Prop :=
 match f with
 | .next => ∃ σ' H',ay X pins σ' H' s' /\ D.nx σ' H'
 | .brk => ∃ σ' H',ay X pins σ' H' s' /\ D.bk σ' H'
 | .cont => ∃ σ' H',ay X pins σ' H' s' /\ D.ct σ' H'
 | .ret u => ∃ v σ' H',ay X pins σ' H' s' /\ bu v u /\ D.rt v H'
def PE (X : Cx) (e : Expr) (t : TE) : Prop :=
 ∀ (pins : List (Addr × Obj)) (s : Shared) (σ : St) (H : Hp) (Q : VK),ay X pins σ H s -> t σ H Q -> wpAny (model X.prog X.w) X.A (eval e X.env) (EP X pins σ Q) X.xe s
def PT (X : Cx) (e : Expr) (t : TT) : Prop :=
 ∀ (pins : List (Addr × Obj)) (s : Shared) (σ : St) (H : Hp) (Q : Bool -> Hp -> Prop),ay X pins σ H s -> t σ H Q -> wpAny (model X.prog X.w) X.A (isTrue e X.env (eval e X.env)) (TP X pins σ Q) X.xe s
def PW (X : Cx) (e : Expr) (t : TT) : Prop :=
 ∀ (whole : Sem Value) (pins : List (Addr × Obj)) (s : Shared) (σ : St) (H : Hp) (Q : Bool -> Hp -> Prop),ay X pins σ H s -> t σ H Q -> wpAny (model X.prog X.w) X.A (isTrue e X.env whole) (TP X pins σ Q) X.xe s
theorem PW.pt {X : Cx} {e : Expr} {t : TT} (h : PW X e t) : PT X e t := h _
def PA (X : Cx) (es : List Expr) (t : TA) : Prop :=
 ∀ (pos : Pos) (pins : List (Addr × Obj)) (s : Shared) (σ : St) (H : Hp) (Q : List V -> Hp -> Prop),ay X pins σ H s -> t σ H Q -> wpAny (model X.prog X.w) X.A (spliced (backTo pos (starEach es X.env))) (AP X pins σ Q) X.xe s
def PS (X : Cx) (st : Stmt) (t : TS) : Prop :=
 ∀ (pins : List (Addr × Obj)) (s : Shared) (σ : St) (H : Hp) (D : kf),ay X pins σ H s -> t D σ H -> wpAny (model X.prog X.w) X.A (exec st X.env) (SP X pins D) X.xe s
def kN (X : Cx) (st : List Stmt) (t : TS) : Prop :=
 ∀ (pins : List (Addr × Obj)) (s : Shared) (σ : St) (H : Hp) (D : kf),ay X pins σ H s -> t D σ H -> wpAny (model X.prog X.w) X.A (execs st X.env) (SP X pins D) X.xe s
theorem bo {α : Type} {t : Sem α} {Q Q' : α -> Shared -> Prop} {M : Model} {A : Around} {E : Value -> Shared -> Prop} {s : Shared} (h : wpAny M A t Q E s) (hQ : ∀ a s,Q a s -> Q' a s) : wpAny M A t Q' E s := wpAny_mono h hQ fun _ _ x => x
section
variable {X : Cx}
def acv (i : Nat) : TE := fun σ H Q => ∃ v,σ[i]? = some (some v) /\ Q v H
def tC (v : V) : TE := fun _ H Q => Q v H
theorem acu {i : Nat} {x : Str} {pos : Pos} (hN : X.N[i]? = some x) (hv : zS X.env.scope x) (hd : (x == ("__debug__" : Str)) = false := by decide) (hcd : (x == ("__classdict__" : Str)) = false := by decide) : PE X (.Name x pos) (acv i) := by
 intro pins s σ H Q I h; obtain ⟨v,e,h⟩ := h; obtain ⟨m,hn,hl⟩ := I.loc; obtain ⟨u,r,l⟩ := hl i x v hN e hv; have fin : EP X pins σ Q u s := ⟨v,H,I,r,h⟩
 rcases l with ⟨hk,hm⟩ | ⟨hk,c,hc,hcell⟩
 ·exact wpAny_Name (wpAny_loadName_local I.ok.kind hk hn hm fin) hd
 ·rcases hk with hk | hk
  ·exact wpAny_Name (wpAny_loadName_cell I.ok.kind hk hc hcell fin) hd
  ·exact wpAny_Name (wpAny_loadName_free I.ok.kind hk hc hcell fin hcd) hd
theorem ai {i j pos} : PE X (.Constant (.int i) j pos) (tC (.int i)) := fun _ _ _ H _ I h => wpAny_Constant_int ⟨.int i,H,I.tok _,⟨_,rfl⟩,h⟩
theorem dB {b j pos} : PE X (.Constant (.bool b) j pos) (tC (.bl b)) := fun _ _ _ H _ I h => Constant_bool ⟨.bl b,H,I,rfl,h⟩
theorem cP {j pos} : PE X (.Constant .none j pos) (tC .non) := fun _ _ _ H _ I h => Constant_none ⟨.non,H,I,rfl,h⟩
theorem cX {x j pos} : PE X (.Constant (.str x) j pos) (tC (.str x)) := fun _ _ _ H _ I h => Calls.Constant_str ⟨.str x,H,I.tok _,⟨_,rfl⟩,h⟩
def Gl (X : Cx) (x : Str) : Prop := X.env.kindOf x = some .globalImplicit
theorem rq {E : Value -> Shared -> Prop} {pins : List (Addr × Obj)} {s : Shared} {σ : St} {H : Hp} {x : Str} {u : Value} {pos : Pos} {Q : Value -> Shared -> Prop} (I : ay X pins σ H s) (hg : Gl X x) (hm : X.mg x = some u) (h : Q u s)
  (hd : (x == ("__debug__" : Str)) = false := by decide) : wpAny (model X.prog X.w) X.A (eval (.Name x pos) X.env) Q E s :=
 Calls.Name_function_global I.ok.kind hg (Calls.loadGlobal_global (by rw [I.ok.glob]; exact I.mod.glob.keeps I.bk) hm h) hd
theorem jN {E : Value -> Shared -> Prop} {pins : List (Addr × Obj)} {s : Shared} {σ : St} {H : Hp} {x : Str} {u : Value} {pos : Pos} {Q : Value -> Shared -> Prop} (I : ay X pins σ H s) (hg : Gl X x) (hm : X.mg x = none) (hv : bootBuiltins x = some u) (h : Q u s)
  (hn : x ≠ "__name__" := by decide) (hd : (x == ("__debug__" : Str)) = false := by decide) : wpAny (model X.prog X.w) X.A (eval (.Name x pos) X.env) Q E s := by
 obtain ⟨mb,h1,h2⟩ := I.mod.blt; exact Calls.Name_function_global I.ok.kind hg (Calls.loadGlobal_builtin (by rw [I.ok.glob]; exact I.mod.glob.keeps I.bk) hm (by rw [I.ok.blt]; exact h1.keeps I.bk) ((h2 x hn).trans hv) h) hd
theorem rc {x : Str} {v : V} {u : Value} {pos : Pos} (hg : Gl X x) (hm : X.mg x = some u) (r : bu v u) (hd : (x == ("__debug__" : Str)) = false := by decide) : PE X (.Name x pos) (tC v) :=
 fun _ _ _ H _ I h => rq I hg hm ⟨v,H,I,r,h⟩ hd
variable {a b : Expr} {ta tb : TE} {pos : Pos}
def PC (X : Cx) (op : CmpOp) (a b : Expr) (t : TE) : Prop :=
 ∀ (pins : List (Addr × Obj)) (s : Shared) (σ : St) (H : Hp) (Q : VK),ay X pins σ H s -> t σ H Q →
  wpAny (model X.prog X.w) X.A (eval a X.env) (fun v s₁ => wpAny (model X.prog X.w) X.A (eval b X.env) (fun u s₂ => wpAny (model X.prog X.w) X.A (compareOp op v u) (EP X pins σ Q) X.xe s₂) X.xe s₁) X.xe s
theorem abd (b : Expr) {op : CmpOp} (h : op ≠ .In) (h2 : op ≠ .NotIn) : behindInMarks op b = false := by
 have e1 : (op == CmpOp.In) = false := by cases op <;> first | rfl | exact absurd rfl h
 have e2 : (op == CmpOp.NotIn) = false := by cases op <;> first | rfl | exact absurd rfl h2
 cases b <;> simp [behindInMarks,e1,e2]
def ad1 (ta : TE) : TE := fun σ H Q => ta σ H fun x H1 => Q (.bl (decide (x = .non))) H1
def ac2 (ta : TE) : TE := fun σ H Q => ta σ H fun x H1 => Q (.bl (!decide (x = .non))) H1
theorem bu.none_iff {x : V} {v : Value} (r : bu x v) : (v == Value.none) = decide (x = .non) := by
 cases x with
 | non => cases r; rfl
 | bl _ => cases r; rfl
 | int _ => obtain ⟨t,rfl⟩ := r; rfl
 | str _ => obtain ⟨t,rfl⟩ := r; rfl
 | byt _ => obtain ⟨t,rfl⟩ := r; rfl
 | flt _ => obtain ⟨t,rfl⟩ := r; rfl
 | ref _ => cases r; rfl
 | ty _ => cases r; rfl
theorem eF {j pos'} (ha : PE X a ta) : PC X .Is a (.Constant .none j pos') (ad1 ta) := by
 intro pins s σ H Q I h; refine bo (ha pins s σ H _ I h) fun v s1 ⟨x,H1,I1,r1,q1⟩ => ?_
 exact Constant_none (is_none_gen ⟨.bl _,H1,I1,by rw [r1.none_iff]; rfl,q1⟩)
theorem abS {j pos'} (ha : PE X a ta) : PC X .IsNot a (.Constant .none j pos') (ac2 ta) := by
 intro pins s σ H Q I h; refine bo (ha pins s σ H _ I h) fun v s1 ⟨x,H1,I1,r1,q1⟩ => ?_
 exact Constant_none (isnot_none_gen ⟨.bl _,H1,I1,by rw [r1.none_iff]; rfl,q1⟩)
def tB (t : TE) : TT := fun σ H Q => t σ H fun x H1 => ∃ c,x = .bl c /\ Q c H1
theorem dS {op : CmpOp} {t : TE} (h : PC X op a b t) (h1 : behindInMarks op b = false := by first | exact abd _ (by decide) (by decide) | rfl) : PT X (.Compare a [op] [b] pos) (tB t) := by
 intro pins s σ H Q I hw; refine wpAny_isTrue_Compare1 (bo (h pins s σ H _ I hw) fun v s1 h1 => bo h1 fun u s2 h2 => bo h2 fun c s3 ⟨x,H1,I1,r1,q1⟩ => ?_) h1; obtain ⟨d,rfl,q⟩ := q1; cases r1; exact wpAny_truthy_bool ⟨H1,I1,q⟩
theorem bg {e : Expr} {t : TE} (h : PE X e t) (he : ∀ whole,isTrue e X.env whole = (do let v ← whole; standAt e.pos; holding [v] (truthy v)) := by intro _; rfl) : PT X e (tB t) := by
 intro pins s σ H Q I hw; refine isTrue_plain (bo (h pins s σ H _ I hw) fun v s1 ⟨x,H1,I1,r1,q1⟩ => ?_) (he _); obtain ⟨d,rfl,q⟩ := q1; cases r1; exact wpAny_truthy_bool ⟨H1,I1,q⟩
variable {tA tB' : TT} {rest : List Expr}
def adH (t u : TT) : TT := fun σ H Q => t σ H fun c H1 => if c = true then u σ H1 Q else Q false H1
def tOr (t u : TT) : TT := fun σ H Q => t σ H fun c H1 => if c = true then Q true H1 else u σ H1 Q
def adP (t : TT) : TT := fun σ H Q => t σ H fun c H1 => Q (!c) H1
theorem rl (ha : PT X a tA) : PW X (.BoolOp .And [a] pos) tA := by
 intro wh pins s σ H Q I h; refine isTrue_and (bo (ha pins s σ H Q I h) fun c s1 e => ?_)
 cases c with
 | true => exact isTrue_and_nil e
 | false => exact e
theorem dm (ha : PT X a tA) : PW X (.BoolOp .Or [a] pos) tA := by
 intro wh pins s σ H Q I h; refine isTrue_or (bo (ha pins s σ H Q I h) fun c s1 e => ?_)
 cases c with
 | false => exact isTrue_or_nil e
 | true => exact e
theorem oh (ha : PT X a tA) (hb : PW X (.BoolOp .And (b :: rest) pos) tB') : PW X (.BoolOp .And (a :: b :: rest) pos) (adH tA tB') := by
 intro wh pins s σ H Q I h; refine isTrue_and (bo (ha pins s σ H _ I h) fun c s1 ⟨H1,I1,q1⟩ => ?_)
 cases c with
 | true => exact hb wh pins s1 σ H1 Q I1 q1
 | false => exact ⟨H1,I1,q1⟩
theorem dv (ha : PT X a tA) (hb : PW X (.BoolOp .Or (b :: rest) pos) tB') : PW X (.BoolOp .Or (a :: b :: rest) pos) (tOr tA tB') := by
 intro wh pins s σ H Q I h; refine isTrue_or (bo (ha pins s σ H _ I h) fun c s1 ⟨H1,I1,q1⟩ => ?_)
 cases c with
 | true => exact ⟨H1,I1,q1⟩
 | false => exact hb wh pins s1 σ H1 Q I1 q1
theorem bw (ha : PT X a tA) : PT X (.UnaryOp .Not a pos) (adP tA) := by
 intro pins s σ H Q I h; exact isTrue_not (ha pins s σ H (fun c H1 => Q (!c) H1) I h)
def ac0 (ta tb : TE) : TE := fun σ H Q => ta σ H fun x H1 => ∃ c,x = .bl c /\ if c = true then tb σ H1 Q else Q (.bl false) H1
theorem tq {op} {t : TE} (h : PE X a t) : PE X (.BoolOp op [a] pos) t := fun pins s σ H Q I hw => BoolOp_one (h pins s σ H Q I hw)
theorem qX (ha : PE X a ta) (hb : PE X (.BoolOp .And (b :: rest) pos) tb) : PE X (.BoolOp .And (a :: b :: rest) pos) (ac0 ta tb) := by
 intro pins s σ H Q I h; refine BoolOp_and (bo (ha pins s σ H _ I h) fun v s1 ⟨x,H1,I1,r1,q1⟩ => ?_); obtain ⟨c,rfl,q1⟩ := q1; cases r1; refine wpAny_truthy_bool ?_
 cases c with
 | true => exact hb pins s1 σ H1 Q I1 q1
 | false => exact ⟨.bl false,H1,I1,rfl,q1⟩
def tIf (t : TT) (ta tb : TE) : TE := fun σ H Q => t σ H fun c H1 => if c = true then ta σ H1 Q else tb σ H1 Q
theorem fV {c : Expr} (hc : PT X c tA) (ha : PE X a ta) (hb : PE X b tb) : PE X (.IfExp c a b pos) (tIf tA ta tb) := by
 intro pins s σ H Q I h; refine wpAny_IfExp (bo (hc pins s σ H _ I h) fun d s1 ⟨H1,I1,q1⟩ => ?_)
 cases d with
 | true => exact ha pins s1 σ H1 Q I1 q1
 | false => exact hb pins s1 σ H1 Q I1 q1
end
def ag (K : Fg) (H : Hp) (a : Addr) (xs : List V) : Prop :=
 Rd H a (.lst xs) ∨
  ∃ (o : Obj) (its : Array Value) (n : Nat),K.lookup a = some o /\ o.cls = .type "list" /\ o.dict = none /\ o.data = .seq its n /\ its.size <= sizeLine /\ aL xs its.toList
def cx (K : Fg) (H : Hp) (a : Addr) (xs : List V) : Prop :=
 Rd H a (.tup xs) ∨
  ∃ (o : Obj) (its : Array Value) (n : Nat),K.lookup a = some o /\ o.cls = .type "tuple" /\ o.data = .seq its n /\ its.size <= sizeLine /\ aL xs its.toList
def aeg : Value -> Option V
 | .none => some .non
 | .bool b => some (.bl b)
 | .int i _ => some (.int i)
 | .str x _ => some (.str x)
 | .bytes b _ => some (.byt b)
 | .float b _ => some (.flt b)
 | .ref a => some (.ref a)
 | .type n => some (.ty n)
 | _ => none
theorem bu.abs {x : V} {u : Value} (r : bu x u) : aeg u = some x := by
 cases x with
 | non => cases r; rfl
 | bl _ => cases r; rfl
 | int _ => obtain ⟨t,rfl⟩ := r; rfl
 | str _ => obtain ⟨t,rfl⟩ := r; rfl
 | byt _ => obtain ⟨t,rfl⟩ := r; rfl
 | flt _ => obtain ⟨t,rfl⟩ := r; rfl
 | ref _ => cases r; rfl
 | ty _ => cases r; rfl
theorem bu.inj {x y : V} {u : Value} (r : bu x u) (q : bu y u) : x = y := Option.some.inj (r.abs.symm.trans q.abs)
theorem aL.inj : ∀ {xs ys : List V} {us : List Value},aL xs us -> aL ys us -> xs = ys
 | _,_,_,.nil,.nil => rfl
 | _,_,_,.cons r t,.cons r' t' => by rw [r.inj r',aL.inj t t']
section
variable {X : Cx} {pins : List (Addr × Obj)} {σ : St} {H : Hp} {s : Shared} {a : Addr} {xs ys : List V}
theorem ag.of {K : Fg} (h : H a = some (.lst xs)) : ag K H a xs := .inl (.inl h)
theorem cx.of {K : Fg} (h : H a = some (.tup xs)) : cx K H a xs := .inl (.inl h)
theorem ay.list (I : ay X pins σ H s) (h : ag X.K H a xs) : ∃ its : List Value,aL xs its /\ PlainL s.heap a its.toArray /\ xs.length <= sizeLine := by
 rcases h with h | ⟨o,its,n,hk,hc,hd,hs,hz,r⟩
 ·obtain ⟨z,its,n,r,e⟩ := h.ok I.hok; exact ⟨its,r,⟨_,n,e,rfl,rfl,rfl⟩,z⟩
 ·refine ⟨its.toList,r,⟨o,n,I.kIn a o hk,hc,hd,by simpa using hs⟩,?_⟩; have e := r.length; simp only [Array.length_toList] at e; omega
theorem ay.tuple (I : ay X pins σ H s) (h : cx X.K H a xs) : ∃ its : List Value,aL xs its /\ IsTup s.heap a its.toArray /\ xs.length <= sizeLine := by
 rcases h with h | ⟨o,its,n,hk,hc,hs,hz,r⟩
 ·obtain ⟨z,its,r,p⟩ := h.ok I.hok; exact ⟨its,r,p,z⟩
 ·refine ⟨its.toList,r,⟨o,I.kIn a o hk,hc,n,by simpa using hs⟩,?_⟩; have e := r.length; simp only [Array.length_toList] at e; omega
theorem ay.list_inj (I : ay X pins σ H s) (h : ag X.K H a xs) (h' : ag X.K H a ys) : xs = ys := by
 obtain ⟨its,r,⟨o,n,e,_,_,d⟩,_⟩ := I.list h; obtain ⟨its',r',⟨o',n',e',_,_,d'⟩,_⟩ := I.list h'; rw [e] at e'; cases e'; rw [d] at d'
 injection d' with d1 _
 have : its = its' := by simpa using congrArg Array.toList d1
 subst this; exact r.inj r'
end
abbrev Cx.wish (X : Cx) (E : Value -> Shared -> Prop) : Cx := { X with xe := E }
abbrev Cx.nox (X : Cx) : Cx := X.wish fun _ _ => False
theorem Cx.Ok.wish {X : Cx} (ok : X.Ok) (E : Value -> Shared -> Prop) : (X.wish E).Ok :=
 ⟨ok.mod,ok.kind,ok.glob,ok.blt,ok.above,ok.inj,ok.has,ok.cab,ok.hd,ok.frames,ok.stk,ok.exf,ok.bs,ok.bsz,ok.noex,ok.exfs,ok.funs,ok.frf⟩
theorem Cx.Ok.unwish {X : Cx} {E : Value -> Shared -> Prop} (ok : (X.wish E).Ok) : X.Ok :=
 ⟨ok.mod,ok.kind,ok.glob,ok.blt,ok.above,ok.inj,ok.has,ok.cab,ok.hd,ok.frames,ok.stk,ok.exf,ok.bs,ok.bsz,ok.noex,ok.exfs,ok.funs,ok.frf⟩
section
variable {X : Cx} {pins : List (Addr × Obj)} {σ : St} {H : Hp} {s : Shared} {E : Value -> Shared -> Prop}
theorem ay.wish (I : ay X pins σ H s) (E : Value -> Shared -> Prop) : ay (X.wish E) pins σ H s := ⟨I.ok.wish E,I.os,I.bare,I.base,I.loc,I.cell,I.free,I.freeC,I.pin,I.hok,I.len⟩
theorem ay.unwish (I : ay (X.wish E) pins σ H s) : ay X pins σ H s := ⟨I.ok.unwish,I.os,I.bare,I.base,I.loc,I.cell,I.free,I.freeC,I.pin,I.hok,I.len⟩
theorem SP.unwish {D : kf} {f : Flow} {s' : Shared} (h : SP (X.wish E) pins D f s') : SP X pins D f s' := by
 cases f with
 | next => obtain ⟨σ',H',I,q⟩ := h; exact ⟨σ',H',I.unwish,q⟩
 | brk => obtain ⟨σ',H',I,q⟩ := h; exact ⟨σ',H',I.unwish,q⟩
 | cont => obtain ⟨σ',H',I,q⟩ := h; exact ⟨σ',H',I.unwish,q⟩
 | ret u => obtain ⟨v,σ',H',I,r,q⟩ := h; exact ⟨v,σ',H',I.unwish,r,q⟩
theorem kN.nox {st : List Stmt} {t : TS} (h : kN X.nox st t) : kN X st t := fun pins s σ H D I hw =>
 wpAny_mono (h pins s σ H D (I.wish _) hw) (fun _ _ q => q.unwish) fun _ _ z => False.elim z
end
section
variable {X : Cx} {st : Stmt} {rest : List Stmt} {t u : TS} {e : Expr} {te : TE} {pos : Pos}
def ac6 : TS := fun D σ H => D.nx σ H
def ad8 (t u : TS) : TS := fun D σ H => t { D with nx := u D } σ H
theorem ao : kN X [] ac6 := fun _ _ σ H _ I h => wpAny_execs_nil ⟨σ,H,I,h⟩
theorem ad (h1 : PS X st t) (h2 : kN X rest u) : kN X (st :: rest) (ad8 t u) := by
 intro pins s σ H D I h; refine wpAny_execs_cons (bo (h1 pins s σ H { D with nx := u D } I h) fun f s1 q => ?_)
 cases f with
 | next =>
  obtain ⟨σ',H',I',q⟩ := q; exact h2 pins s1 σ' H' D I' q
 | ret v => exact q
 | brk => exact q
 | cont => exact q
theorem ae (h1 : PS X st t) : kN X [st] t := by
 intro pins s σ H D I h; refine wpAny_execs_cons (bo (h1 pins s σ H D I h) fun f s1 q => ?_)
 cases f with
 | next => exact wpAny_execs_nil q
 | ret v => exact q
 | brk => exact q
 | cont => exact q
theorem ay.quiet {pins : List (Addr × Obj)} {σ : St} {H : Hp} {s : Shared} (I : ay X pins σ H s) : interactive X.env = false := by simp [interactive,I.ok.kind]
def ac9 (te : TE) : TS := fun D σ H => te σ H fun _ H1 => D.nx σ H1
theorem cE (he : PE X e te) (hs : swapsWith e none pos.line X.env = pure false := by rfl) : PS X (.Expr e pos) (ac9 te) := by
 intro pins s σ H D I h; exact wpAny_Expr_any (bo (he pins s σ H _ I h) fun v s1 ⟨x,H1,I1,r1,q1⟩ => ⟨σ,H1,I1,q1⟩) I.quiet hs
def adT (te : TE) : TS := fun D σ H => te σ H D.rt
theorem ah (he : PE X e te) : PS X (.Return (some e) pos) (adT te) := by
 intro pins s σ H D I h; exact wpAny_Return_some (bo (he pins s σ H _ I h) fun v s1 ⟨x,H1,I1,r1,q1⟩ => ⟨x,σ,H1,I1,r1,q1⟩)
def ad2 (c : TT) (t u : TS) : TS := fun D σ H => c σ H fun b H1 => if b = true then t D σ H1 else u D σ H1
theorem aw {c : Expr} {a b : List Stmt} {tc : TT} (hc : PT X c tc) (ha : kN X a t) (hb : kN X b u) : PS X (.If c a b pos) (ad2 tc t u) := by
 intro pins s σ H D I h; refine wpAny_If (bo (hc pins s σ H _ I h) fun d s1 ⟨H1,I1,q1⟩ => ?_)
 cases d with
 | true => exact ha pins s1 σ H1 D I1 q1
 | false => exact hb pins s1 σ H1 D I1 q1
end
abbrev TG := V -> St -> Hp -> (St -> Hp -> Prop) -> Prop
abbrev vD := List V -> St -> Hp -> (St -> Hp -> Prop) -> Prop
def PG (X : Cx) (target : Expr) (t : TG) : Prop :=
 ∀ (pins : List (Addr × Obj)) (s : Shared) (σ : St) (H : Hp) (v : V) (u : Value) (Q : St -> Hp -> Prop),ay X pins σ H s -> bu v u -> t v σ H Q →
  wpAny (model X.prog X.w) X.A (assign target X.env u) (fun _ s' => ∃ σ' H',ay X pins σ' H' s' /\ Q σ' H') X.xe s
def PGs (X : Cx) (ts : List Expr) (t : vD) : Prop :=
 ∀ (pins : List (Addr × Obj)) (s : Shared) (σ : St) (H : Hp) (vs : List V) (us : List Value) (Q : St -> Hp -> Prop),ay X pins σ H s -> aL vs us -> t vs σ H Q →
  wpAny (model X.prog X.w) X.A (assignInOrder ((assignEach ts X.env).map (·.2)) us) (fun _ s' => ∃ σ' H',ay X pins σ' H' s' /\ Q σ' H') X.xe s
abbrev abf := V -> V -> V -> Hp -> (Hp -> Prop) -> Prop
def acR (X : Cx) (t : abf) : Prop :=
 ∀ (pins : List (Addr × Obj)) (s : Shared) (σ : St) (H : Hp) (o i v : V) (ov iv u : Value) (Q : Hp -> Prop),ay X pins σ H s -> bu o ov -> bu i iv -> bu v u -> t o i v H Q →
  wpAny (model X.prog X.w) X.A (setItem ov iv u) (fun _ s' => ∃ H',ay X pins σ H' s' /\ Q H') X.xe s
section
variable {X : Cx} {pos : Pos}
def gX (i : Nat) : TG := fun v σ H Q => Q (σ.set i (some v)) H
theorem abM {i : Nat} {x : Str} (hN : X.N.Nodup) (hi : X.N[i]? = some x) (hx : yh X.env.scope x) (hf : X.fn x = true \/ X.env.scope.names.lookup x = some .local := by first | exact .inl rfl | exact .inr rfl | assumption) : PG X (.Name x pos) (gX i) := by
 intro pins s σ H v u Q I r h; exact wpAny_assign_Name (wC I hN hi hx r (fun s' I' => ⟨_,H,I',h⟩) hf)
def abw : vD := fun vs σ H Q => vs = [] /\ Q σ H
def uo (t : TG) (u : vD) : vD := fun vs σ H Q => ∃ v r,vs = v :: r /\ t v σ H fun σ' H' => u r σ' H' Q
theorem cQ : PGs X [] abw := by
 intro pins s σ H vs us Q I r h; obtain ⟨e,h⟩ := h; subst e; cases r; exact assignInOrder_nil ⟨σ,H,I,h⟩
theorem bd {e : Expr} {es : List Expr} {t : TG} {u : vD} (h1 : PG X e t) (h2 : PGs X es u)
  (hs : (assignEach (e :: es) X.env).map (·.2) = assign e X.env :: (assignEach es X.env).map (·.2) := by rfl) : PGs X (e :: es) (uo t u) := by
 intro pins s σ H vs us Q I r h; obtain ⟨v,vr,e1,h⟩ := h; subst e1
 cases r with
 | cons r rr =>
  rw [hs]; refine assignInOrder_cons (bo (h1 pins s σ H _ _ _ I r h) fun _ s1 ⟨σ1,H1,I1,q1⟩ => ?_); exact h2 pins s1 σ1 H1 _ _ Q I1 rr q1
def zF (K : Fg) (n : Nat) (t : vD) : TG := fun v σ H Q => ∃ a xs,v = .ref a /\ cx K H a xs /\ xs.length = n /\ t xs σ H Q
theorem gF {es : List Expr} {k : Nat} {t : vD} {n : Nat} (hc : X.calm = true) (h : PGs X es t)
  (hn : (assignEach es X.env).length = n := by rfl) (hst : (assignEach es X.env).findIdx? (·.1) = none := by rfl) : PG X (.Tuple es k pos) (zF X.K n t) := by
 intro pins s σ H v u Q I r hw; obtain ⟨a,xs,e1,hq,hl,hw⟩ := hw; subst e1; cases r; obtain ⟨its,rv,ht,hz⟩ := I.tuple hq; refine assign_Tuple_tuple (I.ok.hd hc) ht (by simp [hn,← hl,rv.length]) hst fun h' hx => ?_
 have I1 : ay X pins σ H { s with heap := h' } := I.kept (t' := s.toks) fun b o e => hx b o (Nat.ne_of_lt (Heap.lt_size e)) e
 exact h pins _ σ H xs _ Q I1 (by simpa using rv) hw
def ad3 (to ti : TE) (t : abf) : TG := fun v σ H Q => to σ H fun o H1 => ti σ H1 fun i H2 => t o i v H2 fun H3 => Q σ H3
theorem ow {o i : Expr} {to ti : TE} {t : abf} (ho : PE X o to) (hi : PE X i ti) (hs : acR X t)
  (ha : ∀ v,assign (.Subscript o i pos) X.env v = (do
   let ov ← holding [v] (eval o X.env)
   let iv ← holding [v,ov] (eval i X.env)
   standAt pos
   holding [v,ov,iv] (setItem ov iv v)
   release [v,ov,iv] []) := by intro _; rfl) : PG X (.Subscript o i pos) (ad3 to ti t) := by
 intro pins s σ H v u Q I r h; rw [ha]; refine wpAny_bind (wpAny_holding (bo (ho pins s σ H _ I h) fun ov s1 ⟨x,H1,I1,r1,q1⟩ => ?_)); refine wpAny_bind (wpAny_holding (bo (hi pins s1 σ H1 _ I1 q1) fun iv s2 ⟨y,H2,I2,r2,q2⟩ => ?_)); refine wpAny_bind (wpAny_standAt (wpAny_bind (wpAny_holding (bo (hs pins s2 σ H2 x y v ov iv u _ I2 r1 r2 r q2) fun _ s3 ⟨H3,I3,q3⟩ => ?_)))); exact wpAny_release ⟨σ,H3,I3,q3⟩
def zM (te : TE) (g : TG) : TS := fun D σ H => te σ H fun x H1 => g x σ H1 D.nx
theorem nY {tg e : Expr} {te : TE} {g : TG} (he : PE X e te) (hg : PG X tg g) (hs : swapsWithSole [tg] e pos.line X.env = pure false := by rfl) (hw : swappedStores [tg] e X.env = pure none := by rfl)
  (h1 : (assignEach [tg] X.env).map (·.2) = [assign tg X.env] := by rfl) : PS X (.Assign [tg] e pos) (zM te g) := by
 intro pins s σ H D I h; refine wpAny_Assign_stores (bo (he pins s σ H _ I h) fun v s1 ⟨x,H1,I1,r1,q1⟩ => ?_) hs hw; rw [h1]; exact bo (hg pins s1 σ H1 x v _ I1 r1 q1) fun _ s2 q => q
theorem acF {i : Nat} {x : Str} {e : Expr} {te : TE} {pos' : Pos} (hN : X.N.Nodup) (hi : X.N[i]? = some x) (hx : yh X.env.scope x) (he : PE X e te) (hs : swapsWith e (some (.Name x pos')) pos.line X.env = pure false := by rfl) (hf : X.fn x = true \/ X.env.scope.names.lookup x = some .local := by first | exact .inl rfl | exact .inr rfl | assumption) :
  PS X (.Assign [.Name x pos'] e pos) (zM te (gX i)) := by
 intro pins s σ H D I h; refine wpAny_Assign_Name (bo (he pins s σ H _ I h) fun v s1 ⟨y,H1,I1,r1,q1⟩ => ?_) hs; exact wC I1 hN hi hx r1 (fun s2 I2 => ⟨_,H1,I2,q1⟩) hf
end
section
variable {X : Cx} {pos : Pos}
def acQ (c : TT) (tb : TS) : TS := fun D σ H => ∃ W : Nat -> St -> Hp -> Prop,(∃ m,W m σ H) /\ ∀ m σ H,W m σ H →
 c σ H fun b H1 => if b = true then ∃ N : St -> Hp -> Prop,(∀ σ' H',N σ' H' -> ∃ m',m' < m /\ W m' σ' H') /\ tb { D with nx := N,ct := N,bk := D.nx } σ H1 else D.nx σ H1
theorem sX {c : Expr} {body : List Stmt} {tc : TT} {tb : TS} (hp : PassesOwn (model X.prog X.w) X.A X.env X.xe) (hc : PT X c tc) (hb : kN X body tb) : PS X (.While c body [] pos) (acQ tc tb) := by
 intro pins s σ H D I h; obtain ⟨W,⟨m0,w0⟩,turn⟩ := h; refine wpAny_While (codeAny_whileLoop (fun n s' => ∃ σ' H',ay X pins σ' H' s' /\ W n σ' H') ?_ m0 ⟨σ,H,I,w0⟩); rintro n s1 ⟨σ1,H1,I1,w1⟩; refine wpAny_passesOwn hp (bo (hc pins s1 σ1 H1 _ I1 (turn n σ1 H1 w1)) fun b s2 ⟨H2,I2,q2⟩ => ?_)
 cases b with
 | true =>
  obtain ⟨N,hN,q2⟩ := q2; rw [if_pos rfl]; refine wpAny_passesOwn hp (bo (hb pins s2 σ1 H2 _ I2 q2) fun f s3 q3 => ?_)
  cases f with
  | next =>
   obtain ⟨σ3,H3,I3,n3⟩ := q3; obtain ⟨m',hm,w3⟩ := hN σ3 H3 n3; exact ⟨m',hm,σ3,H3,I3,w3⟩
  | cont =>
   obtain ⟨σ3,H3,I3,n3⟩ := q3; obtain ⟨m',hm,w3⟩ := hN σ3 H3 n3; exact ⟨m',hm,σ3,H3,I3,w3⟩
  | brk => exact q3
  | ret v => exact q3
 | false =>
  rw [if_neg Bool.false_ne_true]; exact wpAny_execs_nil ⟨σ1,H2,I2,q2⟩
end
structure It where
 go : Nat -> Hp -> Prop
 yld : Nat -> Hp -> V -> Hp -> Prop
 stop : Nat -> Hp -> Prop
def kb (X : Cx) (pins : List (Addr × Obj)) (H : Hp) (b : Addr) : Prop :=
 H b = none /\ b ≠ X.env.locals /\ b ∉ X.fs /\ (b ∈ X.ex \/ X.s_0.heap.objs.size <= b) /\ (∀ x c,X.env.cells.lookup x = some c -> c ≠ b) /\ ∀ p ∈ X.pn ++ pins,p.1 ≠ b
theorem ay.fpOk {X : Cx} {pins : List (Addr × Obj)} {σ : St} {H H' : Hp} {s : Shared} {b : Addr} (I : ay X pins σ H s) (hb : s.heap.objs.size <= b) (hn : H' b = none) : kb X pins H' b := by
 refine ⟨hn,Nat.ne_of_gt (Nat.lt_of_lt_of_le I.lt hb),I.nofs hb,.inr (Nat.le_trans I.sz hb),fun x c e z => ?_,fun p hp z => ?_⟩
 ·obtain ⟨v,q⟩ := I.cell x c e; exact absurd (Nat.lt_of_lt_of_le q.lt (by rw [z]; exact hb)) (Nat.lt_irrefl _)
 ·exact absurd (Nat.lt_of_lt_of_le (Heap.lt_size (I.pin p hp).1) (by rw [z]; exact hb)) (Nat.lt_irrefl _)
structure oT (P : Program) (w : World) (K : Fg) (tg : Expr) (J : It) (fp : List Addr) (it : Addr) (tn : Nat -> Heap -> Prop) : Prop where
 mem : it ∈ fp
 obj : ∀ i h,tn i h -> ∀ b ∈ fp,∃ o,h.get? b = some o /\ ∀ v,o.data ≠ .cell v
 keep : ∀ i h h',tn i h -> (∀ b ∈ fp,∀ o,h.get? b = some o -> h'.get? b = some o) -> tn i h'
 item : ∀ (X : Cx),X.prog = P -> X.w = w -> X.K = K -> X.calm = true -> ∀ (i : Nat) (pins : List (Addr × Obj)) (s : Shared) (σ : St) (H : Hp) (E : Value -> Shared -> Prop),ay X pins σ H s -> (∀ b ∈ fp,kb X pins H b) -> tn i s.heap -> J.go i H →
  wpAny (model P w) X.A (pyNext (.ref it)) (fun r s1 => ∃ u,r = some u ∧
   wpAny (model P w) X.A (letOwnedTupleGo tg (.ref it) u) (fun _ s2 => ∃ x H',ay X pins σ H' s2 /\ bu x u /\ J.yld i H x H' /\ tn (i + 1) s2.heap /\ ∀ b ∈ fp,H' b = none) E s1) E s
 done : ∀ (X : Cx),X.prog = P -> X.w = w -> X.K = K -> X.calm = true -> ∀ (i : Nat) (pins : List (Addr × Obj)) (s : Shared) (σ : St) (H : Hp) (E : Value -> Shared -> Prop),ay X pins σ H s -> (∀ b ∈ fp,kb X pins H b) -> tn i s.heap -> J.stop i H →
  wpAny (model P w) X.A (pyNext (.ref it)) (fun r s1 => r = none /\ ay X pins σ H s1) E s
 self : ∀ (A : Around) (i : Nat) (s : Shared) (Q : Value -> Shared -> Prop) (E : Value -> Shared -> Prop),tn i s.heap -> Q (.ref it) s -> wpAny (model P w) A (pyIter (.ref it)) Q E s
abbrev TI := St -> Hp -> (It -> Hp -> Prop) -> Prop
def PIE (X : Cx) (pins : List (Addr × Obj)) (σ : St) (tg : Expr) (R : It -> Hp -> Prop) (itv : Value) (s2 : Shared) : Prop :=
 ∃ (it : Addr) (fp : List Addr) (tn : Nat -> Heap -> Prop) (J : It) (H' : Hp),itv = .ref it /\ ay X pins σ H' s2 /\ oT X.prog X.w X.K tg J fp it tn /\ tn 0 s2.heap /\ (∀ b ∈ fp,kb X pins H' b) /\ R J H'
def PI (X : Cx) (tg iter : Expr) (wi : TI) : Prop :=
 ∀ (pins : List (Addr × Obj)) (s : Shared) (σ : St) (H : Hp) (R : It -> Hp -> Prop),ay X pins σ H s -> wi σ H R →
  wpAny (model X.prog X.w) X.A (eval iter X.env) (fun v s1 => wpAny (model X.prog X.w) X.A (pyIter v) (PIE X pins σ tg R) X.xe s1) X.xe s
theorem tP {M : Model} {A : Around} {E : Value -> Shared -> Prop} {s : Shared} {tg : Expr} {it : Addr} {u : Value} {o : Obj} {n : String} {vs : Array Value} {Q : Unit -> Shared -> Prop} (ho : s.heap.get? it = some o) (hc : o.cls = .type n) (hd : o.data = .fields vs)
  (hn : ["enumerate","zip","dict_itemiterator","dict_reverseitemiterator","odict_iterator","itertools.zip_longest","itertools.pairwise"].contains n = false) (hQ : Q () s) : wpAny M A (letOwnedTupleGo tg (.ref it) u) Q E s := by
 unfold letOwnedTupleGo
 cases tg <;> first
  | exact wpAny_pure hQ
  | (cases u <;> first
    | exact wpAny_pure hQ
    | (refine wpAny_bind (wpAny_load ho ?_)
       rw [hc,hd]; show wpAny M A (if (["enumerate","zip","dict_itemiterator","dict_reverseitemiterator","odict_iterator","itertools.zip_longest","itertools.pairwise"].contains n && vs[0]? == some (rawInt _)) = true then _ else _) Q E s; rw [if_neg (by intro h; rw [hn,Bool.false_and] at h; cases h)]
       exact wpAny_pure hQ))
def yl (K : Fg) (a : Addr) : It :=
 ⟨fun i H => ∃ xs x,ag K H a xs /\ xs[i]? = some x,fun i H x H' => H' = H /\ ∀ xs,ag K H a xs -> xs[i]? = some x,fun i H => ∃ xs,ag K H a xs /\ xs.length <= i⟩
def vw (lo : Int) (n : Nat) : It := ⟨fun i _ => i < n,fun i H x H' => H' = H /\ x = .int (lo + i),fun i _ => n <= i⟩
theorem aal {P : Program} {w : World} {K : Fg} {tg : Expr} (a it : Addr) : oT P w K tg (yl K a) [it] it (fun i h => h.IsListIter it a i) where
 mem := by simp
 obj := fun i h st b hb => by
  have e : b = it := by simpa using hb
  subst e; obtain ⟨o,e,c,d⟩ := st; exact ⟨o,e,fun v z => by rw [d] at z; cases z⟩
 keep := fun i h h' st k => st.at fun o e => k it (by simp) o e
 item := by
  intro X hP hw hK hc i pins s σ H E I hf st hg; subst hP hw hK; obtain ⟨xs,x,hq,hx⟩ := hg; obtain ⟨its,rv,p,hz⟩ := I.list hq; obtain ⟨u,hu,ru⟩ := rv.get hx; obtain ⟨f0,f1,f2,f3,f4,f5⟩ := hf it (by simp); refine wpAny_pyNext_list_item st p.isList (x := u) (by simpa using hu) fun h' st' sb => ?_
  have I1 : ay X pins σ H { s with heap := h' } := I.turned (t' := s.toks) (fun b o hb e => (sb.2 b hb).trans e) f0 f1 f3 f4 f5; obtain ⟨o,e,c,d⟩ := id st'; exact ⟨u,rfl,tP (s := { s with heap := h' }) e c d (by decide) ⟨x,H,I1,ru,⟨rfl,fun ys hy => by rw [I.list_inj hy hq]; exact hx⟩,st',fun b hb => (hf b hb).1⟩⟩
 done := by
  intro X hP hw hK hc i pins s σ H E I hf st hg; subst hP hw hK; obtain ⟨xs,hq,hx⟩ := hg; obtain ⟨its,rv,p,hz⟩ := I.list hq; obtain ⟨f0,f1,f2,f3,f4,f5⟩ := hf it (by simp); have hl := rv.length; exact wpAny_pyNext_list_end (I.ok.hd hc) st p.isList (by simp; omega) fun h' eb => ⟨rfl,I.turned (t' := s.toks) (fun b o hb e => eb b o hb e) f0 f1 f3 f4 f5⟩
 self := fun _ _ _ _ _ st h => wpAny_pyIter_listiter st h
theorem zf {P : Program} {w : World} {K : Fg} {tg : Expr} (it : Addr) (lo : Int) (n : Nat) : oT P w K tg (vw lo n) [it] it (fun i h => IsRangeIter h it (lo + (i : Nat) * 1) ((n : Int) - (i : Nat)) 1) where
 mem := by simp
 obj := fun i h st b hb => by
  have e : b = it := by simpa using hb
  subst e
  exact ⟨_,st,fun v z => by
   have z' : Data.fields _ = Data.cell v := z
   cases z'⟩
 keep := fun i h h' st k => k it (by simp) _ st
 item := by
  intro X hP hw hK hc i pins s σ H E I hf st hg; subst hP hw hK; obtain ⟨f0,f1,f2,f3,f4,f5⟩ := hf it (by simp); have W := Walks.range (prog := X.prog) (w := X.w) (I.ok.hd hc) it lo 1 n; refine W.item i s _ _ hg st fun v h' tk hv st' kk => ?_
  obtain ⟨t,rfl⟩ := hv; have I1 : ay X pins σ H { s with heap := h',toks := tk } := I.turned (fun b o hb e => kk b o (by simpa using hb) e) f0 f1 f3 f4 f5; refine ⟨_,rfl,tP (s := { s with heap := h',toks := tk }) (n := "range_iterator") st' rfl rfl (by decide) ⟨.int (lo + i),H,I1,⟨t,?_⟩,⟨rfl,rfl⟩,st',fun b hb => (hf b hb).1⟩⟩; rw [Int.mul_one]
 done := by
  intro X hP hw hK hc i pins s σ H E I hf st hg; subst hP hw hK; obtain ⟨f0,f1,f2,f3,f4,f5⟩ := hf it (by simp); exact wpAny_pyNext_range_end (I.ok.hd hc) st (by have : n <= i := hg; omega) fun h' eb => ⟨rfl,I.turned (t' := s.toks) (fun b o hb e => eb b o hb e) f0 f1 f3 f4 f5⟩
 self := fun _ _ _ _ _ st h => wpAny_pyIter_rangeiter st h
section
variable {X : Cx} {tg : Expr}
def adg (K : Fg) (tl : TE) : TI := fun σ H R => tl σ H fun x H1 => ∃ a,x = .ref a /\ (∃ xs,ag K H1 a xs) /\ R (yl K a) H1
theorem bD {l : Expr} {tl : TE} (hl : PE X l tl) : PI X tg l (adg X.K tl) := by
 intro pins s σ H R I h; refine bo (hl pins s σ H _ I h) fun v s1 ⟨x,H1,I1,r1,q1⟩ => ?_
 obtain ⟨a,e,⟨xs,hq⟩,q⟩ := q1; subst e; cases r1; obtain ⟨its,rv,p,hz⟩ := I1.list hq; refine wpAny_pyIter_list p.isList ?_; refine ⟨s1.heap.objs.size,[s1.heap.objs.size],_,_,H1,rfl,I1.kept (t' := s1.toks) fun b o e => Heap.get?_push_of_some _ e,aal a _,⟨_,Heap.get?_push_size _ rfl,rfl,rfl⟩,fun b hb => ?_,q⟩; have e : b = s1.heap.objs.size := by simpa using hb
 subst e; exact I1.fpOk (Nat.le_refl _) (I1.hok.fresh (Nat.le_refl _))
theorem xt {pins : List (Addr × Obj)} {σ : St} {H : Hp} {s : Shared} {R : It -> Hp -> Prop} {E : Value -> Shared -> Prop} {lo hi : Int} {t u v : Tok} {tk : Nat} (I : ay X pins σ H s) (h1 : -(2 ^ 62) <= lo) (h2 : lo < 2 ^ 62) (h3 : -(2 ^ 62) <= hi) (h4 : hi < 2 ^ 62)
  (q : R (vw lo (hi - lo).toNat) H) : wpAny (model X.prog X.w) X.A (pyIter (.ref s.heap.objs.size)) (PIE X pins σ tg R) E { s with heap := s.heap.push { cls := .type "range",data := .fields #[.int lo t,.int hi u,.int 1 v] },toks := tk } := by
 refine wpAny_pyIter_range (IsRange.new ..) (small_one h1 h2 h3 h4) ?_; have I1 : ay X pins σ H { s with heap := s.heap.push { cls := .type "range",data := .fields #[.int lo t,.int hi u,.int 1 v] },toks := tk } := I.kept fun b o e => Heap.get?_push_of_some _ e
 refine ⟨(s.heap.push { cls := .type "range",data := .fields #[.int lo t,.int hi u,.int 1 v] }).objs.size,[(s.heap.push { cls := .type "range",data := .fields #[.int lo t,.int hi u,.int 1 v] }).objs.size],_,_,H,rfl,
  I1.kept (t' := tk) fun b o e => Heap.get?_push_of_some _ e,zf _ lo (hi - lo).toNat,?_,fun b hb => ?_,q⟩
 ·have e1 : lo + ((0 : Nat) : Int) * 1 = lo := by simp
  have e2 : (((hi - lo).toNat : Nat) : Int) - ((0 : Nat) : Int) = Builtin.Range.rangeSize lo hi 1 := by rw [rangeSize_one]; split <;> omega
  show IsRangeIter _ _ (lo + ((0 : Nat) : Int) * 1) ((((hi - lo).toNat : Nat) : Int) - ((0 : Nat) : Int)) 1; rw [e1,e2]; exact Heap.get?_push_size _ rfl
 ·have e : b = (s.heap.push { cls := .type "range",data := .fields #[.int lo t,.int hi u,.int 1 v] }).objs.size := by simpa using hb
  subst e; exact I1.fpOk (Nat.le_refl _) (I1.hok.fresh (Nat.le_refl _))
def ade (ta : TA) : TI := fun σ H R => ta σ H fun vs H1 => ∃ j : Int,vs = [.int j] /\ -(2 ^ 62) <= j /\ j < 2 ^ 62 /\ R (vw 0 j.toNat) H1
def adn (ta : TA) : TI := fun σ H R => ta σ H fun vs H1 => ∃ i j : Int,vs = [.int i,.int j] /\ (-(2 ^ 62) <= i /\ i < 2 ^ 62 /\ -(2 ^ 62) <= j /\ j < 2 ^ 62) /\ R (vw i (j - i).toNat) H1
theorem dX {a : Expr} {ta : TA} {p pos : Pos} (hg : Gl X "range") (hm : X.mg "range" = none) (ha : PA X [a] ta) (hs : starEach [a] X.env = [(false,eval a X.env)] := by rfl) : PI X tg (.Call (.Name "range" p) [a] [] pos) (ade ta) := by
 intro pins s σ H R I h; refine Call_ (jN I hg hm boot_range (PyProof.Rows.callWith_type1 (bo (ha pos pins s σ H _ I h) fun us s1 ⟨vs,H1,I1,r1,q1⟩ => ?_) hs rfl)); obtain ⟨j,e,q1,q2,q⟩ := q1; subst e
 cases r1 with
 | cons r rr =>
  cases rr; obtain ⟨t,rfl⟩ := r; exact call_range_1 (xt I1 (by omega) (by omega) q1 q2 (by simpa using q))
theorem aag {a b : Expr} {ta : TA} {p pos : Pos} (hg : Gl X "range") (hm : X.mg "range" = none) (ha : PA X [a,b] ta) (hs : starEach [a,b] X.env = [(false,eval a X.env),(false,eval b X.env)] := by rfl) (hs2 : starEach [b] X.env = [(false,eval b X.env)] := by rfl) :
  PI X tg (.Call (.Name "range" p) [a,b] [] pos) (adn ta) := by
 intro pins s σ H R I h; refine Call_ (jN I hg hm boot_range (PyProof.Rows.callWith_type1 (bo (ha pos pins s σ H _ I h) fun us s1 ⟨vs,H1,I1,r1,q1⟩ => ?_) (by rw [hs,hs2]) (by rw [hs2]; rfl))); obtain ⟨i,j,e,⟨q1,q2,q3,q4⟩,q⟩ := q1; subst e
 cases r1 with
 | cons r rr =>
  cases rr with
  | cons r' rr =>
   cases rr; obtain ⟨t,rfl⟩ := r; obtain ⟨t',rfl⟩ := r'; exact call_range_2 (xt I1 q1 q2 q3 q4 q)
def ad4 (wi : TI) (g : TG) (tb : TS) : TS := fun D σ H => wi σ H fun J H1 => ∃ W : Nat -> Nat -> St -> Hp -> Prop,(∃ m,W 0 m σ H1) /\ ∀ i m σ H,W i m σ H →
 (J.stop i H /\ D.nx σ H) \/ (J.go i H /\ ∃ N : St -> Hp -> Prop,(∀ σ' H',N σ' H' -> ∃ m',m' < m /\ W (i + 1) m' σ' H') /\ ∀ x H',J.yld i H x H' -> g x σ H' fun σ2 H2 => tb { D with nx := N,ct := N,bk := D.nx } σ2 H2)
def pY (fp : List Addr) (h : Heap) : List (Addr × Obj) := fp.filterMap fun b => (h.get? b).map fun o => (b,o)
theorem o4 {fp : List Addr} {h : Heap} {b : Addr} {o : Obj} (hb : b ∈ fp) (e : h.get? b = some o) : (b,o) ∈ pY fp h := List.mem_filterMap.mpr ⟨b,hb,by rw [e]; rfl⟩
theorem zT {fp : List Addr} {h : Heap} {p : Addr × Obj} (hp : p ∈ pY fp h) : p.1 ∈ fp /\ h.get? p.1 = some p.2 := by
 obtain ⟨b,hb,e⟩ := List.mem_filterMap.mp hp
 cases q : h.get? b with
 | none => rw [q] at e; cases e
 | some o =>
  rw [q] at e; have e' : (b,o) = p := Option.some.inj e; subst e'; exact ⟨hb,q⟩
theorem ay.pinned {pins : List (Addr × Obj)} {σ : St} {H : Hp} {s : Shared} {fp : List Addr} (I : ay X pins σ H s) (hf : ∀ b ∈ fp,kb X pins H b) (ho : ∀ b ∈ fp,∃ o,s.heap.get? b = some o /\ ∀ v,o.data ≠ .cell v) : ay X (pins ++ pY fp s.heap) σ H s :=
 I.pins_of fun p hp => (List.mem_append.mp hp).elim (fun z => I.pin p (List.mem_append_right _ z)) fun z => by
  obtain ⟨hb,e⟩ := zT z; obtain ⟨f0,f1,f2,_⟩ := hf p.1 hb; obtain ⟨o,e',d⟩ := ho p.1 hb; rw [e] at e'; cases e'; exact ⟨e,f0,f1,f2,d⟩
theorem ay.unpinned {pins pl : List (Addr × Obj)} {σ : St} {H : Hp} {s : Shared} (I : ay X (pins ++ pl) σ H s) : ay X pins σ H s := I.pins_of fun p hp => I.pin p (List.mem_append_right _ (List.mem_append_left _ hp))
theorem bQ {iter : Expr} {body : List Stmt} {wi : TI} {g : TG} {tb : TS} {pos : Pos} (hp : PassesOwn (model X.prog X.w) X.A X.env X.xe) (hc : X.calm = true) (hi : PI X tg iter wi) (hg : PG X tg g) (hb : kN X body tb)
  (hs : ∀ x,foldedSetIterable iter X.env x = pure x := by intro _; rfl) : PS X (.For tg iter body [] pos) (ad4 wi g tb) := by
 intro pins s σ H D I h; refine wpAny_For (bo (hi pins s σ H _ I h) fun v s1 h1 => bo h1 fun itv s2 h2 => ?_) hs; obtain ⟨it,fp,tn,J,H2,e,I2,T,st2,f2,W,⟨m0,w0⟩,turn⟩ := h2; subst e; have stat : ∀ {H' : Hp},(∀ b ∈ fp,H' b = none) -> ∀ b ∈ fp,kb X pins H' b := fun hn b hb => ⟨hn b hb,(f2 b hb).2⟩
 refine codeAny_forLoop_any (fun n s' => ∃ i σ' H',ay X pins σ' H' s' /\ tn i s'.heap /\ (∀ b ∈ fp,H' b = none) /\ W i n σ' H') ?_ m0 ⟨0,σ,H2,I2,st2,fun b hb => (f2 b hb).1,w0⟩; rintro n s3 ⟨i,σ3,H3,I3,st3,fr3,w3⟩
 rcases turn i n σ3 H3 w3 with ⟨stop,qn⟩ | ⟨go,N,hN,step⟩
 ·refine wpAny_passesOwn hp (bo (T.done X rfl rfl rfl hc i pins s3 σ3 H3 X.xe I3 (stat fr3) st3 stop) fun r s4 ⟨hr,I4⟩ => ?_); subst hr; exact wpAny_execs_nil ⟨σ3,H3,I4,qn⟩
 ·refine wpAny_passesOwn hp (bo (T.item X rfl rfl rfl hc i pins s3 σ3 H3 X.xe I3 (stat fr3) st3 go) fun r s4 ⟨u,hr,h4⟩ => ?_); subst hr; refine wpAny_passesOwn hp (bo h4 fun _ s5 ⟨x,H5,I5,r5,y5,st5,fr5⟩ => ?_); have I5' := I5.pinned (stat fr5) (T.obj _ _ st5); refine wpAny_passesOwn hp (bo (hg _ s5 σ3 H5 x u _ I5' r5 (step x H5 y5)) fun _ s6 ⟨σ6,H6,I6,q6⟩ => ?_); refine wpAny_passesOwn hp (bo (hb _ s6 σ6 H6 _ I6 q6) fun f s7 q7 => ?_)
  have again : ∀ {σ7 : St} {H7 : Hp},ay X (pins ++ pY fp s5.heap) σ7 H7 s7 -> N σ7 H7 -> ∃ m,m < n /\ ∃ i σ' H',ay X pins σ' H' s7 /\ tn i s7.heap /\ (∀ b ∈ fp,H' b = none) /\ W i m σ' H' := fun {σ7 H7} I7 n7 => by
   obtain ⟨m',hm,w7⟩ := hN σ7 H7 n7; refine ⟨m',hm,i + 1,σ7,H7,I7.unpinned,T.keep _ _ _ st5 fun b hb o e => (I7.pin (b,o) (List.mem_append_right _ (List.mem_append_right _ (o4 hb e)))).1,fun b hb => ?_,w7⟩; obtain ⟨o,e,d⟩ := T.obj _ _ st5 b hb; exact (I7.pin (b,o) (List.mem_append_right _ (List.mem_append_right _ (o4 hb e)))).2.1
  cases f with
  | next => obtain ⟨σ7,H7,I7,n7⟩ := q7; exact again I7 n7
  | cont => obtain ⟨σ7,H7,I7,n7⟩ := q7; exact again I7 n7
  | brk => obtain ⟨σ7,H7,I7,q7⟩ := q7; exact ⟨σ7,H7,I7.unpinned,q7⟩
  | ret v => obtain ⟨x7,σ7,H7,I7,r7,q7⟩ := q7; exact ⟨x7,σ7,H7,I7.unpinned,r7,q7⟩
end
theorem d7 {K : Fg} {a : Addr} {xs : List V} {g : TG} {tb : TS} {D : kf} {σ : St} {H : Hp} (Pv : Nat -> St -> Hp -> Prop) (h0 : Pv 0 σ H) (hl : ∀ i σ H,i <= xs.length -> Pv i σ H -> ag K H a xs)
  (hs : ∀ i x σ H,xs[i]? = some x -> Pv i σ H -> g x σ H fun σ2 H2 => tb { D with nx := Pv (i + 1),ct := Pv (i + 1),bk := D.nx } σ2 H2) (hd : ∀ σ H,Pv xs.length σ H -> D.nx σ H) :
  ∃ W : Nat -> Nat -> St -> Hp -> Prop,(∃ m,W 0 m σ H) /\ ∀ i m σ H,W i m σ H →
   ((yl K a).stop i H /\ D.nx σ H) \/ ((yl K a).go i H /\ ∃ N : St -> Hp -> Prop,(∀ σ' H',N σ' H' -> ∃ m',m' < m /\ W (i + 1) m' σ' H') /\ ∀ x H',(yl K a).yld i H x H' -> g x σ H' fun σ2 H2 => tb { D with nx := N,ct := N,bk := D.nx } σ2 H2) := by
 refine ⟨fun i m σ H => m = xs.length - i /\ i <= xs.length /\ Pv i σ H,⟨xs.length,by simp,Nat.zero_le _,h0⟩,?_⟩; rintro i m σ H ⟨rfl,hi,p⟩; have q := hl i σ H hi p
 by_cases hlt : i < xs.length
 ·refine .inr ⟨⟨xs,xs[i],q,by simp [hlt]⟩,Pv (i + 1),fun σ' H' p' => ⟨xs.length - (i + 1),by omega,rfl,hlt,p'⟩,fun x H' y => ?_⟩; obtain ⟨e,y⟩ := y; subst e; exact hs i x σ _ (y xs q) p
 ·have e : i = xs.length := by omega
  subst e; exact .inl ⟨⟨xs,q,Nat.le_refl _⟩,hd σ H p⟩
theorem pS {lo : Int} {n : Nat} {g : TG} {tb : TS} {D : kf} {σ : St} {H : Hp} (Pv : Nat -> St -> Hp -> Prop) (h0 : Pv 0 σ H)
  (hs : ∀ i σ H,i < n -> Pv i σ H -> g (.int (lo + i)) σ H fun σ2 H2 => tb { D with nx := Pv (i + 1),ct := Pv (i + 1),bk := D.nx } σ2 H2) (hd : ∀ σ H,Pv n σ H -> D.nx σ H) :
  ∃ W : Nat -> Nat -> St -> Hp -> Prop,(∃ m,W 0 m σ H) /\ ∀ i m σ H,W i m σ H →
   ((vw lo n).stop i H /\ D.nx σ H) \/ ((vw lo n).go i H /\ ∃ N : St -> Hp -> Prop,(∀ σ' H',N σ' H' -> ∃ m',m' < m /\ W (i + 1) m' σ' H') /\ ∀ x H',(vw lo n).yld i H x H' -> g x σ H' fun σ2 H2 => tb { D with nx := N,ct := N,bk := D.nx } σ2 H2) := by
 refine ⟨fun i m σ H => m = n - i /\ i <= n /\ Pv i σ H,⟨n,by simp,Nat.zero_le _,h0⟩,?_⟩; rintro i m σ H ⟨rfl,hi,p⟩
 by_cases hlt : i < n
 ·refine .inr ⟨hlt,Pv (i + 1),fun σ' H' p' => ⟨n - (i + 1),by omega,rfl,hlt,p'⟩,fun x H' y => ?_⟩; obtain ⟨e,y⟩ := y; subst e y; exact hs i σ _ hlt p
 ·have e : i = n := by omega
  subst e; exact .inl ⟨Nat.le_refl _,hd σ H p⟩
abbrev R2 := V -> V -> Hp -> VK -> Prop
def d8 (X : Cx) (f : Value -> Value -> Sem Value) (r : R2) : Prop :=
 ∀ (pins : List (Addr × Obj)) (s : Shared) (σ : St) (H : Hp) (x y : V) (v u : Value) (Q : VK),ay X pins σ H s -> bu x v -> bu y u -> r x y H Q →
  wpAny (model X.prog X.w) X.A (f v u) (EP X pins σ Q) X.xe s
def UnR (X : Cx) (f : Value -> Sem Value) (r : V -> Hp -> VK -> Prop) : Prop :=
 ∀ (pins : List (Addr × Obj)) (s : Shared) (σ : St) (H : Hp) (x : V) (v : Value) (Q : VK),ay X pins σ H s -> bu x v -> r x H Q →
  wpAny (model X.prog X.w) X.A (f v) (EP X pins σ Q) X.xe s
def gr (X : Cx) (f : Value) (r : List V -> Hp -> VK -> Prop) : Prop :=
 ∀ (pins : List (Addr × Obj)) (s : Shared) (σ : St) (H : Hp) (xs : List V) (us : List Value) (Q : VK),ay X pins σ H s -> aL xs us -> r xs H Q →
  wpAny (model X.prog X.w) X.A (call f us) (EP X pins σ Q) X.xe s
def vv (r : R2) (ta tb : TE) : TE := fun σ H Q => ta σ H fun x H1 => tb σ H1 fun y H2 => r x y H2 Q
def tUn (r : V -> Hp -> VK -> Prop) (ta : TE) : TE := fun σ H Q => ta σ H fun x H1 => r x H1 Q
def rI (C : Int -> Int -> Prop) (g : Int -> Int -> V) : R2 := fun x y H Q => ∃ i j,x = .int i /\ y = .int j /\ C i j /\ Q (g i j) H
def vF (g : Int -> Int -> V) : R2 := fun x y H Q => ∃ i j,x = .int i /\ y = .int j /\ Q (g i j) H
def rU (g : Int -> V) : V -> Hp -> VK -> Prop := fun x H Q => ∃ i,x = .int i /\ Q (g i) H
section
variable {X : Cx} {a b c : Expr} {ta tb tc : TE} {pos : Pos}
theorem abc (ha : PE X a ta) (hb : PE X b tb) {pins : List (Addr × Obj)} {s : Shared} {σ : St} {H : Hp} {R : V -> V -> Hp -> Prop} (I : ay X pins σ H s)
  (h : ta σ H fun x H1 => tb σ H1 fun y H2 => R x y H2) {Q : Value -> Shared -> Prop} {f : Value -> Value -> Sem Value}
  (hf : ∀ v u s2 x y H2,ay X pins σ H2 s2 -> bu x v -> bu y u -> R x y H2 -> wpAny (model X.prog X.w) X.A (f v u) Q X.xe s2) :
  wpAny (model X.prog X.w) X.A (eval a X.env) (fun v s₁ => wpAny (model X.prog X.w) X.A (eval b X.env) (fun u s₂ => wpAny (model X.prog X.w) X.A (f v u) Q X.xe s₂) X.xe s₁) X.xe s := by
 refine bo (ha pins s σ H _ I h) fun v s1 ⟨x,H1,I1,r1,q1⟩ => ?_
 refine bo (hb pins s1 σ H1 _ I1 q1) fun u s2 ⟨y,H2,I2,r2,q2⟩ => ?_
 exact hf v u s2 x y H2 I2 r1 r2 q2
theorem aV {op : Operator} {r : R2} (ho : d8 X (binaryOp op) r) (ha : PE X a ta) (hb : PE X b tb) : PE X (.BinOp a op b pos) (vv r ta tb) := by
 intro pins s σ H Q I h; exact wpAny_BinOp (abc ha hb I h fun v u s2 x y H2 I2 rx ry q => ho pins s2 σ H2 x y v u Q I2 rx ry q)
theorem rk {op : UnaryOp} {r : V -> Hp -> VK -> Prop} (ho : UnR X (unaryOp op) r) (ha : PE X a ta) : PE X (.UnaryOp op a pos) (tUn r ta) := by
 intro pins s σ H Q I h; exact UnaryOp_ (bo (ha pins s σ H _ I h) fun v s1 ⟨x,H1,I1,r1,q1⟩ => ho pins s1 σ H1 x v Q I1 r1 q1)
theorem opI {f : Value -> Value -> Sem Value} {C : Int -> Int -> Prop} {g : Int -> Int -> Int}
  (rule : ∀ (i j : Int) (t u : Tok) (s : Shared) (Q : Value -> Shared -> Prop) (E : Value -> Shared -> Prop),C i j -> Q (.int (g i j) s.toks) { s with toks := s.toks + 1 } -> wpAny (model X.prog X.w) X.A (f (.int i t) (.int j u)) Q E s) :
  d8 X f (rI C fun i j => .int (g i j)) := by
 intro pins s σ H x y v u Q I rx ry h; obtain ⟨i,j,rfl,rfl,hc,q⟩ := h; obtain ⟨t,rfl⟩ := rx; obtain ⟨t',rfl⟩ := ry; exact rule i j t t' s _ _ hc ⟨.int (g i j),H,I.tok _,⟨_,rfl⟩,q⟩
theorem acr {f : Value -> Value -> Sem Value} {g : Int -> Int -> Int}
  (rule : ∀ (i j : Int) (t u : Tok) (s : Shared) (Q : Value -> Shared -> Prop) (E : Value -> Shared -> Prop),Q (.int (g i j) s.toks) { s with toks := s.toks + 1 } -> wpAny (model X.prog X.w) X.A (f (.int i t) (.int j u)) Q E s) :
  d8 X f (vF fun i j => .int (g i j)) := by
 intro pins s σ H x y v u Q I rx ry h; obtain ⟨i,j,rfl,rfl,q⟩ := h; obtain ⟨t,rfl⟩ := rx; obtain ⟨t',rfl⟩ := ry; exact rule i j t t' s _ _ ⟨.int (g i j),H,I.tok _,⟨_,rfl⟩,q⟩
theorem zq {f : Value -> Value -> Sem Value} {g : Int -> Int -> Bool}
  (rule : ∀ (i j : Int) (t u : Tok) (s : Shared) (Q : Value -> Shared -> Prop) (E : Value -> Shared -> Prop),Q (.bool (g i j)) s -> wpAny (model X.prog X.w) X.A (f (.int i t) (.int j u)) Q E s) :
  d8 X f (vF fun i j => .bl (g i j)) := by
 intro pins s σ H x y v u Q I rx ry h; obtain ⟨i,j,rfl,rfl,q⟩ := h; obtain ⟨t,rfl⟩ := rx; obtain ⟨t',rfl⟩ := ry; exact rule i j t t' s _ _ ⟨.bl (g i j),H,I,rfl,q⟩
def adI (i j : Int) : Prop := 0 < j /\ j < 1073741824
def aa8 (i j : Int) : Prop := (-(2 ^ 64) < i /\ i < 2 ^ 64) \/ (-(2 ^ 64) < j /\ j < 2 ^ 64)
theorem aa8.ok {i j : Int} (h : aa8 i j) : IntMulOk i j := by
 rcases h with ⟨h1,h2⟩ | ⟨h1,h2⟩
 ·exact .of_left (intBits_le_64 h1 h2)
 ·exact .of_right (intBits_le_64 h1 h2)
theorem cM : d8 X (binaryOp .Add) (vF fun i j => .int (i + j)) := acr fun _ _ _ _ _ _ _ q => add_int q
theorem jY : d8 X (binaryOp .Sub) (vF fun i j => .int (i - j)) := acr fun _ _ _ _ _ _ _ q => sub_int q
theorem dj : d8 X (binaryOp .Mult) (rI aa8 fun i j => .int (i * j)) := opI fun _ _ _ _ _ _ _ hc q => mul_int q hc.ok
theorem x9 : d8 X (binaryOp .FloorDiv) (rI adI fun i j => .int (i / j)) := opI fun i j _ _ _ _ _ hc q => by
 have h1 : (0 : Int) < j := hc.1; have h2 : j < 1073741824 := hc.2; exact floordiv_int (by omega) (by rw [Int.fdiv_eq_ediv_of_nonneg i (by omega)]; exact q) (.inl (PyProof.noPylong_small (by omega)))
theorem wP : d8 X (binaryOp .Mod) (rI (fun _ j => 0 < j) fun i j => .int (i % j)) := opI fun i j _ _ _ _ _ hc q => by
 have h1 : (0 : Int) < j := hc; exact mod_int' (by omega) (by rw [Int.fmod_eq_emod_of_nonneg i (by omega)]; exact q)
theorem unI {f : Value -> Sem Value} {g : Int -> Int}
  (rule : ∀ (i : Int) (t : Tok) (s : Shared) (Q : Value -> Shared -> Prop) (E : Value -> Shared -> Prop),Q (.int (g i) s.toks) { s with toks := s.toks + 1 } -> wpAny (model X.prog X.w) X.A (f (.int i t)) Q E s) :
  UnR X f (rU fun i => .int (g i)) := by
 intro pins s σ H x v Q I rx h; obtain ⟨i,rfl,q⟩ := h; obtain ⟨t,rfl⟩ := rx; exact rule i t s _ _ ⟨.int (g i),H,I.tok _,⟨_,rfl⟩,q⟩
theorem nZ : UnR X (unaryOp .USub) (rU fun i => .int (-i)) := unI fun _ _ _ _ _ q => neg_int q
end
def acK : V -> V -> Bool
 | .non,.non => true | .non,.int _ => true | .int _,.non => true | .non,.bl _ => true | .bl _,.non => true | .non,.str _ => true | .str _,.non => true
 | .int _,.int _ => true | .bl _,.bl _ => true | .str _,.str _ => true | .byt _,.byt _ => true
 | .int _,.str _ => true | .str _,.int _ => true | .bl _,.str _ => true | .str _,.bl _ => true
 | _,_ => false
def rEq : R2 := fun x y H Q => acK x y = true /\ Q (.bl (decide (x = y))) H
def rNe : R2 := fun x y H Q => acK x y = true /\ Q (.bl (!decide (x = y))) H
theorem yJ {i j : Int} : decide (V.int i = V.int j) = (i == j) := by
 rw [Bool.eq_iff_iff]
 simp
theorem aam {i j : Bool} : decide (V.bl i = V.bl j) = (i == j) := by
 rw [Bool.eq_iff_iff]
 simp
theorem ym {i j : Str} : decide (V.str i = V.str j) = (i == j) := by
 rw [Bool.eq_iff_iff]
 simp
theorem ya {i j : Array UInt8} : decide (V.byt i = V.byt j) = (i.toList == j.toList) := by
 rw [Bool.eq_iff_iff]; cases i; cases j
 simp
section
variable {X : Cx} {a b c : Expr} {ta tb tc : TE} {pos : Pos}
theorem bF {pins : List (Addr × Obj)} {σ : St} {H : Hp} {s : Shared} {Q : VK} {k k' : Bool} (I : ay X pins σ H s) (q : Q (.bl k) H) (e : k = k') : EP X pins σ Q (.bool k') s := by
 subst e; exact ⟨.bl k,H,I,rfl,q⟩
theorem bB : d8 X (compareOp .Eq) rEq := by
 intro pins s σ H x y v u Q I rx ry h; obtain ⟨hs,q⟩ := h
 cases x with
 | non =>
  cases rx
  cases y with
  | non => cases ry; exact PySem.EqNone.eq_none_none (bF I q (by simp))
  | bl j => cases ry; exact PySem.EqNone.eq_none_bool (bF I q (by simp))
  | int j => obtain ⟨t',rfl⟩ := ry; exact PySem.EqNone.eq_none_int (bF I q (by simp))
  | str j => obtain ⟨t',rfl⟩ := ry; exact PySem.EqNone.eq_none_str (bF I q (by simp))
  | _ => exact absurd (show false = true from hs) Bool.false_ne_true
 | bl i =>
  cases rx
  cases y with
  | non => cases ry; exact PySem.EqNone.eq_bool_none (bF I q (by simp))
  | bl j => cases ry; exact eq_bool (bF I q aam)
  | str j => obtain ⟨t',rfl⟩ := ry; exact PySem.EqMixed.eq_bool_str (bF I q (by simp))
  | _ => exact absurd (show false = true from hs) Bool.false_ne_true
 | int i =>
  obtain ⟨t,rfl⟩ := rx
  cases y with
  | non => cases ry; exact PySem.EqNone.eq_int_none (bF I q (by simp))
  | int j => obtain ⟨t',rfl⟩ := ry; exact eq_int (bF I q yJ)
  | str j => obtain ⟨t',rfl⟩ := ry; exact PySem.EqMixed.eq_int_str (bF I q (by simp))
  | _ => exact absurd (show false = true from hs) Bool.false_ne_true
 | str i =>
  obtain ⟨t,rfl⟩ := rx
  cases y with
  | non => cases ry; exact PySem.EqNone.eq_str_none (bF I q (by simp))
  | bl j => cases ry; exact PySem.EqMixed.eq_str_bool (bF I q (by simp))
  | int j => obtain ⟨t',rfl⟩ := ry; exact PySem.EqMixed.eq_str_int (bF I q (by simp))
  | str j => obtain ⟨t',rfl⟩ := ry; exact eq_str (bF I q ym)
  | _ => exact absurd (show false = true from hs) Bool.false_ne_true
 | byt i =>
  obtain ⟨t,rfl⟩ := rx
  cases y with
  | byt j => obtain ⟨t',rfl⟩ := ry; exact PySem.W.eq_bytes (bF I q ya)
  | _ => exact absurd (show false = true from hs) Bool.false_ne_true
 | _ => cases y <;> exact absurd (show false = true from hs) Bool.false_ne_true
theorem bz : d8 X (compareOp .NotEq) rNe := by
 intro pins s σ H x y v u Q I rx ry h; obtain ⟨hs,q⟩ := h
 cases x with
 | non =>
  cases rx
  cases y with
  | non => cases ry; exact PySem.EqNone.ne_none_none (bF I q (by simp))
  | bl j => cases ry; exact PySem.EqNone.ne_none_bool (bF I q (by simp))
  | int j => obtain ⟨t',rfl⟩ := ry; exact PySem.EqNone.ne_none_int (bF I q (by simp))
  | str j => obtain ⟨t',rfl⟩ := ry; exact PySem.EqNone.ne_none_str (bF I q (by simp))
  | _ => exact absurd (show false = true from hs) Bool.false_ne_true
 | bl i =>
  cases rx
  cases y with
  | non => cases ry; exact PySem.EqNone.ne_bool_none (bF I q (by simp))
  | bl j => cases ry; exact ne_bool (bF I q (congrArg not aam))
  | str j => obtain ⟨t',rfl⟩ := ry; exact PySem.EqMixed.ne_bool_str (bF I q (by simp))
  | _ => exact absurd (show false = true from hs) Bool.false_ne_true
 | int i =>
  obtain ⟨t,rfl⟩ := rx
  cases y with
  | non => cases ry; exact PySem.EqNone.ne_int_none (bF I q (by simp))
  | int j => obtain ⟨t',rfl⟩ := ry; exact ne_int (bF I q (congrArg not yJ))
  | str j => obtain ⟨t',rfl⟩ := ry; exact PySem.EqMixed.ne_int_str (bF I q (by simp))
  | _ => exact absurd (show false = true from hs) Bool.false_ne_true
 | str i =>
  obtain ⟨t,rfl⟩ := rx
  cases y with
  | non => cases ry; exact PySem.EqNone.ne_str_none (bF I q (by simp))
  | bl j => cases ry; exact PySem.EqMixed.ne_str_bool (bF I q (by simp))
  | int j => obtain ⟨t',rfl⟩ := ry; exact PySem.EqMixed.ne_str_int (bF I q (by simp))
  | str j => obtain ⟨t',rfl⟩ := ry; exact ne_str (bF I q (congrArg not ym))
  | _ => exact absurd (show false = true from hs) Bool.false_ne_true
 | byt i =>
  obtain ⟨t,rfl⟩ := rx
  cases y with
  | byt j => obtain ⟨t',rfl⟩ := ry; exact PySem.W.ne_bytes (bF I q (congrArg not ya))
  | _ => exact absurd (show false = true from hs) Bool.false_ne_true
 | _ => cases y <;> exact absurd (show false = true from hs) Bool.false_ne_true
theorem iG : d8 X (compareOp .Lt) (vF fun i j => .bl (decide (i < j))) := zq fun _ _ _ _ _ _ _ q => lt_int q
theorem iW : d8 X (compareOp .LtE) (vF fun i j => .bl (decide (i <= j))) := zq fun _ _ _ _ _ _ _ q => le_int q
theorem k7 : d8 X (compareOp .Gt) (vF fun i j => .bl (decide (j < i))) := zq fun _ _ _ _ _ _ _ q => gt_int q
theorem ml : d8 X (compareOp .GtE) (vF fun i j => .bl (decide (j <= i))) := zq fun _ _ _ _ _ _ _ q => ge_int q
theorem aaG (b : Expr) {op : CmpOp} (h : op ≠ .In := by decide) (h2 : op ≠ .NotIn := by decide) : behindInMarks op b = false := by
 have e1 : (op == CmpOp.In) = false := by cases op <;> first | rfl | exact absurd rfl h
 have e2 : (op == CmpOp.NotIn) = false := by cases op <;> first | rfl | exact absurd rfl h2
 cases b <;> simp [behindInMarks,e1,e2]
theorem ab4 {op : CmpOp} {r : R2} (ho : d8 X (compareOp op) r) (ha : PE X a ta) (hb : PE X b tb) (hm : behindInMarks op b = false) : PE X (.Compare a [op] [b] pos) (vv r ta tb) := by
 intro pins s σ H Q I h; exact wpAny_Compare1 (abc ha hb I h fun v u s2 x y H2 I2 rx ry q => ho pins s2 σ H2 x y v u Q I2 rx ry q) hm
def abB (t : TE) : TT := fun σ H Q => t σ H fun x H' => ∃ k,x = .bl k /\ Q k H'
theorem yb {op : CmpOp} {r : R2} (ho : d8 X (compareOp op) r) (ha : PE X a ta) (hb : PE X b tb) (hm : behindInMarks op b = false) : PT X (.Compare a [op] [b] pos) (abB (vv r ta tb)) := by
 intro pins s σ H Q I h
 refine wpAny_isTrue_Compare1 (bo (ha pins s σ H _ I h) fun v s1 ⟨x,H1,I1,r1,q1⟩ => bo (hb pins s1 σ H1 _ I1 q1) fun u s2 ⟨y,H2,I2,r2,q2⟩ =>
  bo (ho pins s2 σ H2 x y v u _ I2 r1 r2 q2) fun c s3 ⟨z,H3,I3,r3,k,e,q3⟩ => ?_) hm
 subst e; cases r3; exact wpAny_truthy_bool ⟨H3,I3,q3⟩
theorem uk : (sizeLine : Nat) < 2 ^ 63 := by rw [sizeLine_eq]; decide
theorem pi : d8 X (binaryOp .Add) (fun x y H Q => ∃ i j,x = .str i /\ y = .str j /\ i.length + j.length <= sizeLine /\ Q (.str (i ++ j)) H) := by
 intro pins s σ H x y v u Q I rx ry h; obtain ⟨i,j,rfl,rfl,hz,q⟩ := h; obtain ⟨t,rfl⟩ := rx; obtain ⟨t',rfl⟩ := ry; exact add_str (fun t' tk => ⟨.str (i ++ j),H,I.tok _,⟨_,rfl⟩,q⟩) hz
theorem wc {x : V} {us : List Value} (r : aL [x] us) : ∃ u,us = [u] /\ bu x u := by
 cases r with
 | cons r1 r2 => cases r2; exact ⟨_,rfl,r1⟩
theorem abF {x y : V} {us : List Value} (r : aL [x,y] us) : ∃ u w',us = [u,w'] /\ bu x u /\ bu y w' := by
 cases r with
 | cons r1 r2 =>
  cases r2 with
  | cons r3 r4 => cases r4; exact ⟨_,_,rfl,r1,r3⟩
theorem mh (hc : X.calm = true) : gr X (.builtin "max") (fun xs H Q => ∃ i j,xs = [.int i,.int j] /\ Q (.int (if j > i then j else i)) H) := by
 intro pins s σ H xs us Q I r h; obtain ⟨i,j,rfl,q⟩ := h; obtain ⟨u,w',rfl,⟨t,rfl⟩,⟨t',rfl⟩⟩ := abF r; refine max_two_ints (I.ok.hd hc) fun h' tk k => ⟨_,H,I.kept k,?_,q⟩
 by_cases hj : j > i
 ·rw [if_pos hj,if_pos hj]; exact ⟨_,rfl⟩
 ·rw [if_neg hj,if_neg hj]; exact ⟨_,rfl⟩
theorem vg (hc : X.calm = true) : gr X (.builtin "min") (fun xs H Q => ∃ i j,xs = [.int i,.int j] /\ Q (.int (if j < i then j else i)) H) := by
 intro pins s σ H xs us Q I r h; obtain ⟨i,j,rfl,q⟩ := h; obtain ⟨u,w',rfl,⟨t,rfl⟩,⟨t',rfl⟩⟩ := abF r; refine min_two_ints (I.ok.hd hc) fun h' tk k => ⟨_,H,I.kept k,?_,q⟩
 by_cases hj : j < i
 ·rw [if_pos hj,if_pos hj]; exact ⟨_,rfl⟩
 ·rw [if_neg hj,if_neg hj]; exact ⟨_,rfl⟩
theorem qV : gr X (.type "str") (fun xs H Q => ∃ i,xs = [.int i] /\ i.natAbs.log2 < 1920 /\ Q (.str (toString i)) H) := by
 intro pins s σ H xs us Q I r h; obtain ⟨i,rfl,hz,q⟩ := h; obtain ⟨u,rfl,t,rfl⟩ := wc r; exact PySem.P.str_of_int hz ⟨.str _,H,I.tok _,⟨_,rfl⟩,q⟩
theorem dg : gr X (.builtin "ord") (fun xs H Q => ∃ x,xs = [.str x] /\ x.length = 1 /\ Q (.int (x.cps.getD 0 0 : Nat)) H) := by
 intro pins s σ H xs us Q I r h; obtain ⟨x,rfl,hz,q⟩ := h; obtain ⟨u,rfl,t,rfl⟩ := wc r; exact ord_of_one hz ⟨.int _,H,I.tok _,⟨_,rfl⟩,q⟩
end
structure sK (h : Heap) (x dx C : Addr) (mA : Str -> Option Value) : Prop where
 obj : h.get? x = some (PySem.W.instObj C dx)
 ns : h.Ns1 dx mA
 ne : dx ≠ x
theorem aaw {h : Heap} {dx : Addr} {mA : Str -> Option Value} (n : h.Ns1 dx mA) : ∃ od,h.get? dx = some od /\ ∀ name,PySem.W.lookIn name od = some (mA name) := by
 obtain ⟨o,es,ep,ho,hd,hk,_,hm⟩ := n; refine ⟨o,ho,fun name => ?_⟩; have e := hm name; unfold nsFind findBy at e; rw [← Array.find?_toList] at e; unfold PySem.W.lookIn; rw [hd]
 dsimp only
 split
 ·rename_i y q; rw [q] at e; exact congrArg some e
 ·rename_i q; rw [q] at e
  have a : es.toList.any (·.refKey) = false := by
   rw [List.any_eq_false]; intro y hy; obtain ⟨z,t,hkey⟩ := hk y (Array.mem_toList_iff.mp hy); simp [DictEntry.refKey,hkey]
  have a' : ¬ es.toList.any (·.refKey) = true := by rw [a]; exact Bool.false_ne_true
  rw [if_neg a']; exact congrArg some e
theorem sK.look {h : Heap} {x dx C : Addr} {mA : Str -> Option Value} (I : sK h x dx C mA) : ∃ od,PySem.W.InstAt h x (PySem.W.instObj C dx) C (some od) /\ ∀ name,PySem.W.lookIn name od = some (mA name) :=
 let ⟨od,ho,hl⟩ := aaw I.ns
 ⟨od,⟨I.obj,rfl,rfl,ho⟩,hl⟩
section
variable {prog : Program} {w : World} {A : Around} {E : Value -> Shared -> Prop} {s : Shared} {K : Fg} {x dx C f : Addr} {mA : Str -> Option Value} {name : Str} {v : Value}
theorem abP {expr : Bool} {Q : Value -> Shared -> Prop} (X : K.In s.heap) (I : sK s.heap x dx C mA) (hg : PySem.W.plainGet K C name = true) (hh : PySem.W.hasDictIn K C = true)
  (ha : PySem.W.findIn K (.ref C) name = some none) (hv : mA name = some v) (hv' : PySem.W.handedIn v = true) (h : Q v { s with toks := s.toks + 1 }) :
  wpAny (model prog w) A (getAttr (.ref x) name expr) Q E s := by
 obtain ⟨od,J,hl⟩ := I.look; exact PySem.W.get_value X J (PySem.W.plainGet_of hg).1 (PySem.W.findObj_own hh ha rfl (by rw [hl,hv])) hv' h
theorem abe {pl : Sem Bool} {Q : Value × List Value -> Shared -> Prop} (X : K.In s.heap) (I : sK s.heap x dx C mA) (hg : PySem.W.plainGet K C name = true)
  (hf : PySem.W.findIn K (.ref C) name = some (some (.ref f))) (ht : PySem.W.isFn K (.ref f) = true) (hv : mA name = none) (h : Q (.ref f,[.ref x]) s) :
  wpAny (model prog w) A (getMethod (.ref x) name pl) Q E s := by
 obtain ⟨od,J,hl⟩ := I.look; exact PySem.W.method_fn X J (PySem.W.plainGet_of hg).1 (PySem.W.plainGet_of hg).2 hf (beq_iff_eq.mp ht) (by show (PySem.W.lookIn name od).map (·.isSome) = some false; rw [hl,hv]; rfl) h
theorem ab1 {ns : List Str} {Q : Unit -> Shared -> Prop} (X : K.In s.heap) (I : sK s.heap x dx C mA)
  (hs : PySem.W.findIn K (.ref C) "__setattr__" = some (some (.builtin "object.__setattr__"))) (hp : PySem.W.plainOver K C = true) (ht : PySem.W.takerIn K C name = some none) (hh : PySem.W.hasDictIn K C = true)
  (hw : PySem.Within mA ns) (hsz : ns.length <= sizeLine)
  (h : ∀ h',sK h' x dx C (fun y => if y = name then some v else mA y) -> Heap.SameBut dx s.heap h' -> Q () { s with heap := h',toks := s.toks + 2 }) :
  wpAny (model prog w) A (setAttr (.ref x) name v) Q E s := by
 obtain ⟨od,J,hl⟩ := I.look; refine PySem.W.set_plain X J hs (PySem.W.osa_open (s := { s with toks := s.toks + 1 }) (r := none) X J hp ht fun b => ?_); obtain ⟨cd,hc,hd'⟩ := PySem.W.any_some hh; have hx : s.heap.get? x = some ⟨.ref C,some dx,.plain,#[]⟩ := I.obj; refine wpAny_bind (wpAny_pure (wpAny_bind (wpAny_bind (wpAny_loadPart hx (wpAny_bind (PySem.W.Looks.here (s := { s with toks := s.toks + 1 }) (PySem.W.looks_clsIn X hc) ?_)))))); rw [hd']; refine wpAny_pure (a := some dx) (wpAny_bind (wpAny_pure (wpAny_bind ?_))); refine wpAny_nsSet1 (s := { s with toks := s.toks + 1 }) I.ns fun h' hn2 hs2 => ?_
 obtain ⟨oD,esD,epD,hoD,hdD,hcD⟩ := hn2.count (PySem.Within.cons name v hw); refine wpAny_bind (wpAny_lookBehind hoD (by rw [hdD]; exact pastItsLine_dict (Nat.le_trans hcD (by rw [List.length_cons]; omega))) ?_); exact wpAny_pure (h _ ⟨(hs2.2 _ (Ne.symm I.ne)).trans I.obj,hn2,I.ne⟩ hs2)
theorem abx {R : Result -> Shared -> Prop} {vs : List Value} {kw : List (Str × Value)} (X : K.In s.heap) (hm : PySem.W.makesIn K C = true)
  (hi : PySem.W.findIn K (.ref C) "__init__" = some (some (.ref f))) (hf : PySem.W.typeIn K (.ref f) = some (.type "function"))
  (h : codeAny (model prog w) (A.under (.builtin "type.__call__" ⟨.ref C :: vs,kw⟩)) (.call (.ref f) ⟨.ref (s.heap.objs.size + 1) :: vs,kw⟩) (PySem.W.InitBack (s.heap.objs.size + 1) R)
   { s with heap := (s.heap.push PySem.W.emptyDict).push (PySem.W.instObj C s.heap.objs.size) }) :
  codeAny (model prog w) A (.call (.ref C) ⟨vs,kw⟩) R s := by
 obtain ⟨hh,g,d,t,os⟩ := s; exact PySem.W.make_core (PySem.W.makes_of X hm) (PySem.W.looks_findIn X hi) (fun self => PySem.W.bind_fn X self hf) (.inl rfl) h
end
def cT (f : Str) (v : V) : List (Str × V) -> List (Str × V)
 | [] => [(f,v)]
 | (g,x) :: r => if g = f then (g,v) :: r else (g,x) :: cT f v r
theorem gL (f g : Str) (v : V) : ∀ fs : List (Str × V),(cT f v fs).lookup g = if g = f then some v else fs.lookup g
 | [] => by
  show List.lookup g [(f,v)] = _
  by_cases h : g = f
  ·have hb : (g == f) = true := beq_iff_eq.mpr h; simp only [List.lookup,hb,if_pos h]
  ·have hb : (g == f) = false := beq_eq_false_iff_ne.mpr h; simp only [List.lookup,hb,if_neg h]
 | (k,x) :: r => by
  have ih := gL f g v r; rw [show cT f v ((k,x) :: r) = (if k = f then (k,v) :: r else (k,x) :: cT f v r) from rfl]
  by_cases hk : k = f
  ·rw [if_pos hk]
   by_cases h : g = k
   ·have hb : (g == k) = true := beq_iff_eq.mpr h; simp only [List.lookup,hb,if_pos (h.trans hk)]
   ·have hb : (g == k) = false := beq_eq_false_iff_ne.mpr h; simp only [List.lookup,hb,if_neg (fun e : g = f => h (e.trans hk.symm))]
  ·rw [if_neg hk]
   by_cases h : g = k
   ·have hb : (g == k) = true := beq_iff_eq.mpr h; simp only [List.lookup,hb,if_neg (fun e : g = f => hk (h.symm.trans e))]
   ·have hb : (g == k) = false := beq_eq_false_iff_ne.mpr h; simp only [List.lookup,hb]; exact ih
theorem pU (f : Str) (v : V) : ∀ fs : List (Str × V),f ∈ (cT f v fs).map (·.1) /\ ∀ g,g ∈ fs.map (·.1) -> g ∈ (cT f v fs).map (·.1)
 | [] => ⟨by simp [cT],fun g h => by simp at h⟩
 | (k,x) :: r => by
  obtain ⟨i1,i2⟩ := pU f v r; rw [show cT f v ((k,x) :: r) = (if k = f then (k,v) :: r else (k,x) :: cT f v r) from rfl]
  by_cases hk : k = f
  ·rw [if_pos hk]; subst hk; exact ⟨by simp,fun g h => by simpa using h⟩
  ·rw [if_neg hk]; refine ⟨?_,fun g h => ?_⟩
   ·rw [List.map_cons]; exact List.mem_cons_of_mem _ i1
   ·rw [List.map_cons] at h ⊢
    rcases List.mem_cons.mp h with e | e
    ·exact List.mem_cons.mpr (.inl e)
    ·exact List.mem_cons_of_mem _ (i2 g e)
theorem rY (f : Str) (v : V) : ∀ fs : List (Str × V),(cT f v fs).length <= fs.length + 1
 | [] => by simp [cT]
 | (k,x) :: r => by
  have ih := rY f v r; rw [show cT f v ((k,x) :: r) = (if k = f then (k,v) :: r else (k,x) :: cT f v r) from rfl]
  by_cases hk : k = f
  ·rw [if_pos hk,List.length_cons,List.length_cons]; omega
  ·rw [if_neg hk,List.length_cons,List.length_cons]; omega
theorem nM.some_of {v : V} {o : Option Value} (r : nM (some v) o) : ∃ u,o = some u /\ bu v u := by
 cases o with
 | none => exact (show False from r).elim
 | some u => exact ⟨u,rfl,r⟩
theorem nM.none_of {o : Option Value} (r : nM none o) : o = none := by
 cases o with
 | none => rfl
 | some u => exact (show False from r).elim
theorem aan {v : V} {u : Value} (r : bu v u) : PySem.W.handedIn u = true := by
 cases v with
 | non => cases (show u = Value.none from r); rfl
 | bl b => cases (show u = Value.bool b from r); rfl
 | int i => obtain ⟨t,e⟩ := (show ∃ t,u = Value.int i t from r); cases e; rfl
 | str x => obtain ⟨t,e⟩ := (show ∃ t,u = Value.str x t from r); cases e; rfl
 | byt b => obtain ⟨t,e⟩ := (show ∃ t,u = Value.bytes b t from r); cases e; rfl
 | flt b => obtain ⟨t,e⟩ := (show ∃ t,u = Value.float b t from r); cases e; rfl
 | ref a => cases (show u = Value.ref a from r); rfl
 | ty n => cases (show u = Value.type n from r); rfl
section
variable {P : Program} {w : World} {H H' : Hp} {h h' : Heap} {a C dx : Addr} {fs fs' : List (Str × V)}
theorem ut (hok : dY P w H h) (e : H a = some (.ins C dx fs)) : ∃ mA,sK h a dx C mA /\ (∀ f,nM (fs.lookup f) (mA f)) /\ PySem.Within mA (fs.map (·.1)) /\ fs.length <= 1000 /\ H dx = some (.own a) := by
 obtain ⟨d,z,ne,ob,mA,n,r,q⟩ := (show db P w H h a (.ins C dx fs) from hok a _ e); exact ⟨mA,⟨ob,n,ne⟩,r,q,z,d⟩
end
structure kM (K : Fg) (C : Addr) : Prop where
 pg : PySem.W.plainGet K C Str.empty = true
 hd : PySem.W.hasDictIn K C = true
 po : PySem.W.plainOver K C = true
 sa : PySem.W.findIn K (.ref C) "__setattr__" = some (some (.builtin "object.__setattr__"))
theorem kM.get {K : Fg} {C : Addr} (c : kM K C) (f : Str) : PySem.W.plainGet K C f = true := c.pg
def fX (K : Fg) (C : Addr) (f : Str) : Prop := PySem.W.findIn K (.ref C) f = some none
theorem fX.taker {K : Fg} {C : Addr} {f : Str} (n : fX K C f) : PySem.W.takerIn K C f = some none := by
 unfold PySem.W.takerIn; rw [show PySem.W.findIn K (.ref C) f = some none from n]; rfl
structure wA (K : Fg) (C : Addr) (m : Str) (f : Addr) : Prop where
 at_ : PySem.W.findIn K (.ref C) m = some (some (.ref f))
 fn : PySem.W.isFn K (.ref f) = true
 kp : PySem.W.keepIn K (.ref f) = true
section
variable {X : Cx} {pins : List (Addr × Obj)} {σ : St} {H : Hp} {s : Shared} {a C dx : Addr} {fs : List (Str × V)} {f : Str} {v : V} {A : Around} {E : Value -> Shared -> Prop}
theorem y4 {b : Bool} {Q : Value -> Shared -> Prop} (I : ay X pins σ H s) (e : H a = some (.ins C dx fs)) (c : kM X.K C) (n : fX X.K C f) (l : fs.lookup f = some v)
  (h : ∀ u s',ay X pins σ H s' -> bu v u -> Q u s') : wpAny (model X.prog X.w) A (getAttr (.ref a) f b) Q E s := by
 obtain ⟨mA,O,r,_,_,_⟩ := ut I.hok e; obtain ⟨u,hu,ru⟩ := nM.some_of (v := v) (o := mA f) (by rw [← l]; exact r f); exact abP I.kIn O (c.get f) c.hd n hu (aan ru) (h u _ (I.tok _) ru)
theorem ug {m : Str} {g : Addr} {pl : Sem Bool} {Q : Value × List Value -> Shared -> Prop} (I : ay X pins σ H s) (e : H a = some (.ins C dx fs)) (c : kM X.K C) (k : wA X.K C m g) (l : fs.lookup m = none)
  (h : Q (.ref g,[.ref a]) s) : wpAny (model X.prog X.w) A (getMethod (.ref a) m pl) Q E s := by
 obtain ⟨mA,O,r,_,_,_⟩ := ut I.hok e; have hn : mA m = none := nM.none_of (by rw [← l]; exact r m); exact abe I.kIn O (c.get m) k.at_ k.fn hn h
theorem zc {y : V} {u : Value} {Q : Unit -> Shared -> Prop} (I : ay X pins σ H s) (e : H a = some (.ins C dx fs)) (c : kM X.K C) (n : fX X.K C f) (hl : fs.length < 1000) (ry : bu y u)
  (h : ∀ s',ay X pins σ (upd H a (.ins C dx (cT f y fs))) s' -> Q () s') : wpAny (model X.prog X.w) A (setAttr (.ref a) f u) Q E s := by
 obtain ⟨mA,O,r,wi,_,ho⟩ := ut I.hok e; have hz : (fs.map (·.1)).length <= sizeLine := by rw [List.length_map,sizeLine_eq]; omega
 refine ab1 I.kIn O c.sa c.po n.taker c.hd wi hz fun h' O' sb => h _ ?_
 have hd : ∃ o,h'.get? dx = some o := let ⟨o,_,_,e',_⟩ := O'.ns; ⟨o,e'⟩; refine I.write (x := a) (e := dx) (by rw [e]; exact True.intro) (.inr ho) (fun b q hb z => (sb.2 b hb).trans z) hd ?_; refine ⟨by rw [aK O.ne]; exact ho,?_,O.ne,O'.obj,_,O'.ns,fun g => ?_,fun g hg => ?_⟩
 ·have := rY f y fs; omega
 ·show nM ((cT f y fs).lookup g) (if g = f then some u else mA g); rw [gL]
  by_cases q : g = f
  ·rw [if_pos q,if_pos q]; exact ry
  ·rw [if_neg q,if_neg q]; exact r g
 ·by_cases q : g = f
  ·rw [q]; exact (pU f y fs).1
  ·refine (pU f y fs).2 g (wi g fun z => hg ?_); show (if g = f then some u else mA g) = none; rw [if_neg q]; exact z
theorem ay.made (I : ay X pins σ H s) : ay X pins σ (upd (upd H s.heap.objs.size (.own (s.heap.objs.size + 1))) (s.heap.objs.size + 1) (.ins C s.heap.objs.size []))
  { s with heap := (s.heap.push PySem.W.emptyDict).push (PySem.W.instObj C s.heap.objs.size) } := by
 have e1 : (s.heap.push PySem.W.emptyDict).get? s.heap.objs.size = some PySem.W.emptyDict := Heap.get?_push_size s.heap rfl
 have e2 : ((s.heap.push PySem.W.emptyDict).push (PySem.W.instObj C s.heap.objs.size)).get? (s.heap.objs.size + 1) = some (PySem.W.instObj C s.heap.objs.size) := by
  have := Heap.get?_push_size (s.heap.push PySem.W.emptyDict) (o := PySem.W.instObj C s.heap.objs.size) rfl
  rwa [Heap.size_push] at this
 have e3 : (s.heap.push PySem.W.emptyDict).Ns s.heap.objs.size (fun _ => none) := ⟨PySem.W.emptyDict,#[],_,e1,rfl,(fun e he => absurd he (by simp)),fun _ => rfl⟩; have I1 := I.laid (a := s.heap.objs.size) (o := .own (s.heap.objs.size + 1)) (h' := s.heap.push PySem.W.emptyDict) (t' := s.toks) (fun b u q => Heap.get?_push_of_some _ q) (Nat.le_refl _) ⟨_,e1⟩; refine I1.laid (a := s.heap.objs.size + 1) (o := .ins C s.heap.objs.size []) (t' := s.toks) (fun b u q => Heap.get?_push_of_some _ q) (Nat.le_of_eq (Heap.size_push _ _)) ?_; have ne : s.heap.objs.size ≠ s.heap.objs.size + 1 := Nat.ne_of_lt (Nat.lt_succ_self _); refine ⟨by rw [aK ne,am],Nat.zero_le _,ne,e2,fun _ => none,(Heap.Ns1.of_empty e3).at fun o q => Heap.get?_push_of_some _ q,fun _ => True.intro,fun y hy => absurd rfl hy⟩
theorem ab2 {prog : Program} {w : World} {env : Env} {e : Expr} {f : Str} {pos : Pos} {s : Shared} {Q : Value -> Shared -> Prop} (hb : attributeBase e f env (eval e env) = eval e env)
  (h : wpAny (model prog w) A (eval e env) (fun o s₁ => wpAny (model prog w) A (getAttr o f true) Q E s₁) E s) : wpAny (model prog w) A (eval (.Attribute e f pos) env) Q E s :=
 Attribute_any_ h (by rw [arm_eval_Attribute,hb])
end
def ack (K : Fg) (ta : TE) (f : Str) : TE := fun σ H Q => ta σ H fun x H1 => ∃ a C dx fs v,x = .ref a /\ H1 a = some (.ins C dx fs) /\ kM K C /\ fX K C f /\ fs.lookup f = some v /\ Q v H1
def adU (K : Fg) (ta tv : TE) (f : Str) : TS := fun D σ H => tv σ H fun y H1 => ta σ H1 fun x H2 => ∃ a C dx fs,x = .ref a /\ H2 a = some (.ins C dx fs) /\ kM K C /\ fX K C f /\ fs.length < 1000 ∧
 D.nx σ (upd H2 a (.ins C dx (cT f y fs)))
section
variable {X : Cx} {o e value : Expr} {f : Str} {pos pos' tpos : Pos} {ta tv : TE}
theorem aD (he : PE X e ta) (hb : attributeBase e f X.env (eval e X.env) = eval e X.env) : PE X (.Attribute e f pos) (ack X.K ta f) := by
 intro pins s σ H Q I h; refine ab2 hb (bo (he pins s σ H _ I h) fun u s1 ⟨x,H1,I1,rx,a,C,dx,fs,v,ex,ea,c,n,l,q⟩ => ?_); subst ex; obtain rfl : u = Value.ref a := rx; exact y4 I1 ea c n l fun u' s2 I2 ru => ⟨v,H1,I2,ru,q⟩
theorem lm (ha : PE X o ta) (hv : PE X value tv) (hs : swapsWith value (some (.Attribute o f pos')) pos.line X.env = pure false) : PS X (.Assign [.Attribute o f pos'] value pos) (adU X.K ta tv f) := by
 intro pins s σ H D I h; refine plainObj_wpAny_Assign_Attribute (bo (hv pins s σ H _ I h) fun u s1 ⟨y,H1,I1,ry,q⟩ => bo (ha pins s1 σ H1 _ I1 q) fun ov s2 ⟨x,H2,I2,rx,a,C,dx,fs,ex,ea,c,n,l,q2⟩ => ?_) hs; subst ex; obtain rfl : ov = Value.ref a := rx; exact zc I2 ea c n l ry fun s3 I3 => ⟨σ,_,I3,q2⟩
end
structure bM (k : Nat) (A : Around) : Prop where
 hd : A.handled = none
 dp : A.depth + 3 * k + 5 < recursionLimit
 un : A.units + 16 * k + 200 < cLine
theorem bM.mono {j k : Nat} {A : Around} (r : bM k A) (h : j <= k) : bM j A := ⟨r.hd,by have := r.dp; omega,by have := r.un; omega⟩
theorem bM.deeper {k : Nat} {A : Around} (r : bM (k + 1) A) (env : Env) : bM k (A.deeper env) :=
 ⟨r.hd,by have := r.dp; show A.depth + 1 + 3 * k + 5 < _; omega,by have := r.un; show A.units + 3 + 16 * k + 200 < _; omega⟩
theorem zl {A : Around} {C : Addr} {us : List Value} {kw : List (Str × Value)} : (A.under (.builtin "type.__call__" ⟨.ref C :: us,kw⟩)).depth = A.depth + 1 := by
 first | rfl | simp [Around.under,Code.weight,Code.isCreation,Code.isGuard,Code.isCaller,Code.frames,Code.isFrame,guardIds]
theorem y_ {A : Around} {C : Addr} {us : List Value} {kw : List (Str × Value)} : (A.under (.builtin "type.__call__" ⟨.ref C :: us,kw⟩)).units = A.units + 1 := by
 first | rfl | simp [Around.under,Code.cUnits,Code.frames,Code.isFrame]
theorem bM.make {k : Nat} {A : Around} (r : bM (k + 1) A) (C : Addr) (us : List Value) (kw : List (Str × Value)) : bM k (A.under (.builtin "type.__call__" ⟨.ref C :: us,kw⟩)) :=
 ⟨r.hd,by have := r.dp; rw [zl]; omega,by have := r.un; rw [y_]; omega⟩
theorem bM.depth {k : Nat} {A : Around} (r : bM k A) : A.depth < recursionLimit := by have := r.dp; omega
theorem bM.units {k : Nat} {A : Around} (r : bM k A) : A.units + 64 < cLine := by have := r.un; omega
def uW : TA := fun _ H Q => Q [] H
def abH (ta : TE) (tr : TA) : TA := fun σ H Q => ta σ H fun x H1 => tr σ H1 fun xs H2 => Q (x :: xs) H2
section
variable {X : Cx} {e : Expr} {es : List Expr} {te : TE} {t : TA} {pos : Pos}
theorem ac : PA X [] uW := fun _ _ _ _ H Q I h => Calls.spliced_nil ⟨[],H,I,.nil,h⟩
theorem ab (ha : PE X e te) (hr : PA X es t) (hs : starEach (e :: es) X.env = (false,eval e X.env) :: starEach es X.env := by rfl) : PA X (e :: es) (abH te t) := by
 intro pos pins s σ H Q I h; rw [hs]; show wpAny _ _ (spliced ((false,eval e X.env) :: backTo pos (starEach es X.env))) _ _ s; refine Calls.spliced_cons (bo (ha pins s σ H _ I h) fun u s1 ⟨x,H1,I1,r1,q1⟩ => ?_); exact bo (hr pos pins s1 σ H1 _ I1 q1) fun us s2 ⟨xs,H2,I2,r2,q2⟩ => ⟨x :: xs,H2,I2,.cons r1 r2,q2⟩
def ad9 (t : TA) : TE := fun σ H Q => t σ H fun xs H1 => xs.length <= sizeLine /\ ∀ p,H1 p = none -> Q (.ref p) (upd H1 p (.tup xs))
def aej (t : TA) : TE := fun σ H Q => t σ H fun xs H1 => xs.length <= sizeLine /\ ∀ p,H1 p = none -> Q (.ref p) (upd H1 p (.lst xs))
theorem acs {x1} (h : PA X es t) : PE X (.Tuple es x1 pos) (ad9 t) := by
 intro pins s σ H Q I hq; refine wpAny_Tuple_spliced (bo (h pos pins s σ H _ I hq) fun us s1 ⟨xs,H1,I1,r,z,q⟩ => ⟨by rw [← r.length]; exact z,?_⟩); have hf : H1 s1.heap.objs.size = none := I1.hok.fresh (Nat.le_refl _); refine ⟨.ref s1.heap.objs.size,upd H1 s1.heap.objs.size (.tup xs),I1.laid (t' := s1.toks) (fun b u e => Heap.get?_push_of_some _ e) (Nat.le_refl _) ?_,rfl,q _ hf⟩; exact ⟨z,us,r,⟨_,Heap.get?_push_size _ rfl,rfl,_,rfl⟩⟩
theorem az (h : PA X es t) : PE X (.List es pos) (aej t) := by
 intro pins s σ H Q I hq; refine wpAny_List_spliced (bo (h pos pins s σ H _ I hq) fun us s1 ⟨xs,H1,I1,r,z,q⟩ => ⟨by rw [← r.length]; exact z,?_⟩); have hf : H1 s1.heap.objs.size = none := I1.hok.fresh (Nat.le_refl _); refine ⟨.ref s1.heap.objs.size,upd H1 s1.heap.objs.size (.lst xs),I1.laid (t' := s1.toks) (fun b u e => Heap.get?_push_of_some _ e) (Nat.le_refl _) ?_,rfl,q _ hf⟩; exact ⟨z,us,0,r,Heap.get?_push_size _ rfl⟩
end
abbrev Sp := List V -> Hp -> VK -> XK -> Prop
abbrev qc := List Env -> Hp -> Shared -> XK -> Value -> Shared -> Prop
structure sQ (P : Program) (w : World) (K : Fg) (mg : Str -> Option Value) (base : Heap) (A : Around) (outer : List Env) (s : Shared) (H : Hp) : Prop where
 frames : A.frames = some outer
 mod : Mod K mg base
 bs : ∀ b o,base.get? b = some o -> s.heap.get? b = some o /\ H b = none
 bsz : base.objs.size <= s.heap.objs.size
 funs : s.heap.FunFrames base outer
 frf : ∀ b ∈ qH outer,H b = none
 hok : dY P w H s.heap
 bare : AllBare s.gens
def CE (outer : List Env) (P : Program) (w : World) (H : Hp) (s : Shared) (Q : VK) (u : Value) (s' : Shared) : Prop :=
 ∃ v H',s'.os = s.os /\ AllBare s'.gens /\ Un (qH outer) [] H H' s.heap s'.heap /\ dY P w H' s'.heap /\ bu v u /\ Q v H'
def CR (CX : qc) (outer : List Env) (P : Program) (w : World) (H : Hp) (s : Shared) (Q : VK) (E : XK) (r : Result) (s' : Shared) : Prop :=
 match r with
 | .ok (.ret u) => CE outer P w H s Q u s'
 | .ok _ => False
 | .error e => CX outer H s E e s'
structure f7 (P : Program) (w : World) (K : Fg) (mg : Str -> Option Value) (base : Heap) (CX : qc) (k : Nat) (f : Addr) (fd : FuncData) (ps : List Str) (sp : Sp) : Prop where
 len : ∀ vs H Q E,sp vs H Q E -> vs.length = ps.length
 run : ∀ (A : Around) (outer : List Env) (s : Shared) (H : Hp) (args : Args) (us : List Value) (vs : List V) (Q : VK) (E : XK),bM k A -> sQ P w K mg base A outer s H -> BindsTo s fd args (ps.zip us) -> aL vs us -> sp vs H Q E →
  codeAny (model P w) A (.call (.ref f) args) (CR CX outer P w H s Q E) s
theorem sQ.make {P : Program} {w : World} {K : Fg} {mg : Str -> Option Value} {base : Heap} {A : Around} {outer : List Env} {s : Shared} {H : Hp} (e : sQ P w K mg base A outer s H) (C : Addr) (us : List Value) (kw : List (Str × Value)) :
  sQ P w K mg base (A.under (.builtin "type.__call__" ⟨.ref C :: us,kw⟩)) outer s H := ⟨by first | exact e.frames | (simpa [Around.under,Code.envs,Code.isFrame,pushEnvs] using e.frames),e.mod,e.bs,e.bsz,e.funs,e.frf,e.hok,e.bare⟩
section
variable {X : Cx} {pins : List (Addr × Obj)} {σ : St} {H : Hp} {s s' : Shared}
theorem ay.env0 (I : ay X pins σ H s) : sQ X.prog X.w X.K X.mg X.base X.A X.stack s H :=
 ⟨I.ok.frames,I.ok.mod,I.bs,Nat.le_trans I.ok.bsz I.sz,I.stack,I.stkFree,I.hok,I.bare⟩
theorem ay.after {Q : VK} {u : Value} (I : ay X pins σ H s) (h : CE X.stack X.prog X.w H s Q u s') : EP X pins σ Q u s' := by
 obtain ⟨v,H',os,bare,un,hok,r,q⟩ := h; obtain ⟨hh,g,d,t,os'⟩ := s'; obtain rfl : os' = s.os := os; exact ⟨v,H',I.call (h' := hh) (g' := g) (d' := d) (t' := t) (ch := []) un hok bare (fun b z => absurd z (by simp)),r,q⟩
end
def t0 (sp : Sp) (dvs : List V) (E : XK) (t : TA) : TE := fun σ H Q => t σ H fun vs H1 => sp (vs ++ dvs) H1 Q E
def we (C : Addr) (m : Str) (sp : Sp) (dvs : List V) (E : XK) (ta : TE) (t : TA) : TE := fun σ H Q => ta σ H fun x H1 => ∃ a dx fs,x = .ref a /\ H1 a = some (.ins C dx fs) /\ fs.lookup m = none ∧
 t σ H1 fun vs H2 => sp (x :: (vs ++ dvs)) H2 Q E
def zB (C : Addr) (sp : Sp) (dvs : List V) (E : XK) (t : TA) : TE := fun σ H Q => t σ H fun vs H1 => ∀ x dx,H1 x = none -> H1 dx = none -> dx ≠ x →
 sp (.ref x :: (vs ++ dvs)) (upd (upd H1 dx (.own x)) x (.ins C dx [])) (fun v H2 => v = .non /\ Q (.ref x) H2) E
def d9 (K : Fg) (fd : FuncData) (ps : List Str) (ds : List Value) : Prop :=
 ∀ (s : Shared) (us : List Value),K.In s.heap -> (us ++ ds).length = ps.length -> BindsTo s fd ⟨us,[]⟩ (ps.zip (us ++ ds))
theorem d9.all {K : Fg} {fd : FuncData} {ps : List Str} (h : ∀ us : List Value,us.length = ps.length -> bindArgs fd ⟨us,[]⟩ = pure (ps.zip us)) : d9 K fd ps [] := fun s us _ hl => by
 rw [List.append_nil] at hl ⊢; exact .of_eq (h us hl)
def jW (CX : qc) (X : Cx) (E : XK) : Prop := ∀ (pins : List (Addr × Obj)) (σ : St) (H : Hp) (s : Shared) (e : Value) (s' : Shared),ay X pins σ H s -> CX X.stack H s E e s' -> X.xe e s'
section
variable {X : Cx} {CX : qc} {k : Nat} {f C : Addr} {fd : FuncData} {ps : List Str} {sp : Sp} {dvs : List V} {ds : List Value} {E : XK} {x m : Str} {p pos apos : Pos} {e o : Expr} {es : List Expr} {ta : TE} {t : TA}
theorem t_ {pins : List (Addr × Obj)} {σ : St} {H : Hp} {s : Shared} {Q : VK} {us : List Value} {vs : List V} (F : f7 X.prog X.w X.K X.mg X.base CX k f fd ps sp) (hr : bM k X.A) (hb : d9 X.K fd ps ds) (hd : aL dvs ds) (hx : jW CX X E)
  (I : ay X pins σ H s) (r : aL vs us) (h : sp (vs ++ dvs) H Q E) : wpAny (model X.prog X.w) X.A (call (.ref f) us) (EP X pins σ Q) X.xe s := by
 have r2 : aL (vs ++ dvs) (us ++ ds) := r.append hd; have hl : (us ++ ds).length = ps.length := by rw [← r2.length]; exact F.len _ _ _ _ h
 refine wpAny_call (codeAny_mono (F.run X.A X.stack s H ⟨us,[]⟩ (us ++ ds) (vs ++ dvs) Q E hr I.env0 (hb s us I.kIn hl) r2 h) fun r s' hq => ?_)
 cases r with
 | error e => exact hx pins σ H s e s' I hq
 | ok fl =>
  cases fl with
  | ret u => exact I.after hq
  | next => exact False.elim hq
  | brk => exact False.elim hq
  | cont => exact False.elim hq
theorem ab0 (F : f7 X.prog X.w X.K X.mg X.base CX k f fd ps sp) (hr : bM k X.A) (hg : Gl X x) (hm : X.mg x = some (.ref f)) (hk : PySem.W.keepIn X.K (.ref f) = true) (hb : d9 X.K fd ps ds) (hd : aL dvs ds) (hx : jW CX X E)
  (ha : PA X (e :: es) t) (hdb : (x == ("__debug__" : Str)) = false := by decide) (he : starEach (e :: es) X.env = (false,eval e X.env) :: starEach es X.env := by rfl) (hpl : (backTo pos (starEach es X.env)).any (·.1) = false := by rfl) :
  PE X (.Call (.Name x p) (e :: es) [] pos) (t0 sp dvs E t) := by
 intro pins s σ H Q I h; refine wpAny_Call_Name_kw (rq I hg hm ?_ hdb); refine PySem.W.callWith_K (h₀ := X.base) I.ok.mod.kin hk (bo (ha pos pins s σ H _ I h) fun us s1 ⟨vs,H1,I1,r,q⟩ => ⟨I1.kIn,?_⟩) he hpl; exact t_ F hr hb hd hx I1 r q
theorem aa7 (F : f7 X.prog X.w X.K X.mg X.base CX k f fd ps sp) (hr : bM k X.A) (hg : Gl X x) (hm : X.mg x = some (.ref f)) (hk : PySem.W.keepIn X.K (.ref f) = true) (hb : d9 X.K fd ps ds) (hd : aL dvs ds) (hx : jW CX X E)
  (hdb : (x == ("__debug__" : Str)) = false := by decide) : PE X (.Call (.Name x p) [] [] pos) (t0 sp dvs E uW) := by
 intro pins s σ H Q I h; refine wpAny_Call_Name_kw (rq I hg hm ?_ hdb); exact PySem.W.callWith_K0 I.kIn hk (t_ (us := []) F hr hb hd hx I .nil h)
theorem abQ {pl : Sem Bool} (he : PE X o ta) (c : kM X.K C) (hm : wA X.K C m f) (F : f7 X.prog X.w X.K X.mg X.base CX k f fd ps sp) (hr : bM k X.A) (hb : d9 X.K fd ps ds) (hd : aL dvs ds) (hx : jW CX X E) (ha : PA X (e :: es) t)
  (hst : starEach (e :: es) X.env = (false,eval e X.env) :: starEach es X.env := by rfl) (hpl : (backTo pos (starEach es X.env)).any (·.1) = false := by rfl)
  (ht : eval (.Call (.Attribute o m apos) (e :: es) [] pos) X.env = (do
   let ov ← eval o X.env
   standAt apos.atName
   let (f,first) ← holding [ov] (getMethod ov m pl)
   callWith pos f first (backTo pos (starEach (e :: es) X.env)) (backToKw pos (keywordEach [] X.env))) := by rfl) :
  PE X (.Call (.Attribute o m apos) (e :: es) [] pos) (we C m sp dvs E ta t) := by
 intro pins s σ H Q I h; refine PySem.W.methodCall_KW (pl := pl) (bo (he pins s σ H _ I h) fun u s1 ⟨x,H1,I1,rx,a,dx,fs,ex,ea,l,q⟩ => ?_) ht; subst ex; obtain rfl : u = Value.ref a := rx; refine ug I1 ea c hm l ?_; refine PySem.W.callWith_K (first := [.ref a]) (h₀ := X.base) I.ok.mod.kin hm.kp (bo (ha pos pins s1 σ H1 _ I1 q) fun us s2 ⟨vs,H2,I2,r,q2⟩ => ⟨I2.kIn,?_⟩) hst hpl; exact t_ (us := .ref a :: us) (vs := .ref a :: vs) F hr hb hd hx I2 (.cons rfl r) q2
theorem abn {pl : Sem Bool} (he : PE X o ta) (c : kM X.K C) (hm : wA X.K C m f) (F : f7 X.prog X.w X.K X.mg X.base CX k f fd ps sp) (hr : bM k X.A) (hb : d9 X.K fd ps ds) (hd : aL dvs ds) (hx : jW CX X E)
  (ht : eval (.Call (.Attribute o m apos) [] [] pos) X.env = (do
   let ov ← eval o X.env
   standAt apos.atName
   let (f,first) ← holding [ov] (getMethod ov m pl)
   callWith pos f first (backTo pos (starEach [] X.env)) (backToKw pos (keywordEach [] X.env))) := by rfl) :
  PE X (.Call (.Attribute o m apos) [] [] pos) (we C m sp dvs E ta uW) := by
 intro pins s σ H Q I h; refine PySem.W.methodCall_KW (pl := pl) (bo (he pins s σ H _ I h) fun u s1 ⟨x,H1,I1,rx,a,dx,fs,ex,ea,l,q⟩ => ?_) ht; subst ex; obtain rfl : u = Value.ref a := rx; refine ug I1 ea c hm l ?_; exact PySem.W.callWith_K0 (first := [.ref a]) I1.kIn hm.kp (t_ (us := [.ref a]) (vs := [.ref a]) F hr hb hd hx I1 (.cons rfl .nil) q)
structure Mk (K : Fg) (C f : Addr) : Prop where
 makes : PySem.W.makesIn K C = true
 init : PySem.W.findIn K (.ref C) "__init__" = some (some (.ref f))
 fn : PySem.W.isFn K (.ref f) = true
 kp : PySem.W.keepIn K (.ref C) = true
theorem abl {pins : List (Addr × Obj)} {σ : St} {H : Hp} {s : Shared} {Q : VK} {us : List Value} {vs : List V} (M : Mk X.K C f) (F : f7 X.prog X.w X.K X.mg X.base CX k f fd ps sp) (hr : bM (k + 1) X.A) (hb : d9 X.K fd ps ds) (hd : aL dvs ds)
  (hx : jW CX X E) (I : ay X pins σ H s) (r : aL vs us)
  (h : ∀ x dx,H x = none -> H dx = none -> dx ≠ x -> sp (.ref x :: (vs ++ dvs)) (upd (upd H dx (.own x)) x (.ins C dx [])) (fun v H2 => v = .non /\ Q (.ref x) H2) E) :
  wpAny (model X.prog X.w) X.A (call (.ref C) us) (EP X pins σ Q) X.xe s := by
 have hq := h (s.heap.objs.size + 1) s.heap.objs.size (I.hok.fresh (Nat.le_succ _)) (I.hok.fresh (Nat.le_refl _)) (Nat.ne_of_lt (Nat.lt_succ_self _)); have I2 := ay.made (C := C) I; have r2 : aL (V.ref (s.heap.objs.size + 1) :: (vs ++ dvs)) (Value.ref (s.heap.objs.size + 1) :: (us ++ ds)) := .cons rfl (r.append hd)
 have hl : (Value.ref (s.heap.objs.size + 1) :: us ++ ds).length = ps.length := by
  have e := r2.length; rw [F.len _ _ _ _ hq] at e; exact e.symm
 refine wpAny_call (abx (f := f) I.kIn M.makes M.init (beq_iff_eq.mp M.fn) (codeAny_mono (F.run _ X.stack _ _ ⟨Value.ref (s.heap.objs.size + 1) :: us,[]⟩ (Value.ref (s.heap.objs.size + 1) :: (us ++ ds)) _ _ E (hr.make C us [])
  (I2.env0.make C us []) (hb _ (Value.ref (s.heap.objs.size + 1) :: us) I2.kIn hl) r2 hq) fun r s' hq' => ?_))
 cases r with
 | error e => exact hx pins σ _ _ e s' I2 hq'
 | ok fl =>
  cases fl with
  | ret u =>
   obtain ⟨v,H',I3,rv,ev,q3⟩ := I2.after hq'; subst ev; exact ⟨rv,⟨V.ref (s.heap.objs.size + 1),H',I3,rfl,q3⟩⟩
  | next => exact False.elim hq'
  | brk => exact False.elim hq'
  | cont => exact False.elim hq'
theorem ace (M : Mk X.K C f) (F : f7 X.prog X.w X.K X.mg X.base CX k f fd ps sp) (hr : bM (k + 1) X.A) (hg : Gl X x) (hm : X.mg x = some (.ref C)) (hb : d9 X.K fd ps ds) (hd : aL dvs ds) (hx : jW CX X E)
  (ha : PA X (e :: es) t) (hdb : (x == ("__debug__" : Str)) = false := by decide) (he : starEach (e :: es) X.env = (false,eval e X.env) :: starEach es X.env := by rfl) (hpl : (backTo pos (starEach es X.env)).any (·.1) = false := by rfl) :
  PE X (.Call (.Name x p) (e :: es) [] pos) (zB C sp dvs E t) := by
 intro pins s σ H Q I h; refine wpAny_Call_Name_kw (rq I hg hm ?_ hdb); refine PySem.W.callWith_K (h₀ := X.base) I.ok.mod.kin M.kp (bo (ha pos pins s σ H _ I h) fun us s1 ⟨vs,H1,I1,r,q⟩ => ⟨I1.kIn,?_⟩) he hpl; exact abl M F hr hb hd hx I1 r q
end
structure aq (N P : List Str) (sc : Scope) : Prop where
 kind : sc.kind = .function
 co : sc.isCoroutine = false
 gen : sc.isGenerator = false
 nd : N.Nodup
 pre : N.take P.length = P
 par : ∀ x ∈ P,sc.names.lookup x = some .local \/ sc.names.lookup x = some .cell
 nofree : ∀ y ∈ sc.names,y.2 ≠ .free
theorem vf {kindOf : Str -> Option NameKind} {x : Str} : ∀ {binds : List (Str × Value)} {m : Str -> Option Value},(∀ v,(x,v) ∉ binds) -> bindL kindOf binds m x = m x
 | [],_,_ => rfl
 | (n,v) :: r,m,h => by
  unfold bindL; rw [vf fun w hw => h w (List.mem_cons_of_mem _ hw)]
  split
  ·have : x ≠ n := by rintro rfl; exact h v List.mem_cons_self
   simp [this]
  ·rfl
theorem vy {kindOf : Str -> Option NameKind} {x : Str} : ∀ {binds : List (Str × Value)} {m : Str -> Option Value},(∀ v,(x,v) ∉ binds) -> bindC kindOf binds m x = m x
 | [],_,_ => rfl
 | (n,v) :: r,m,h => by
  unfold bindC; rw [vy fun w hw => h w (List.mem_cons_of_mem _ hw)]
  split
  ·rfl
  ·have : x ≠ n := by rintro rfl; exact h v List.mem_cons_self
   simp [this]
theorem vq {kindOf : Str -> Option NameKind} {x : Str} {v : Value} : ∀ {P : List Str} {vs : List Value} {i : Nat} {m : Str -> Option Value},P.Nodup -> P[i]? = some x -> vs[i]? = some v -> kindOf x = some .local →
  bindL kindOf (P.zip vs) m x = some v
 | [],_,_,_,_,h,_,_ => by simp at h
 | _ :: _,[],_,_,_,_,h,_ => by simp at h
 | p :: P,w :: vs,0,m,nd,h1,h2,hk => by
  simp at h1 h2; subst h1; subst h2; show bindL kindOf ((p,w) :: P.zip vs) m p = _; unfold bindL; rw [vf fun v hv => (List.nodup_cons.mp nd).1 (List.of_mem_zip hv).1,if_pos hk]
  simp
 | p :: P,w :: vs,i + 1,m,nd,h1,h2,hk => by
  show bindL kindOf ((p,w) :: P.zip vs) m x = _; unfold bindL; exact vq (i := i) (List.nodup_cons.mp nd).2 (by simpa using h1) (by simpa using h2) hk
theorem u_ {kindOf : Str -> Option NameKind} {x : Str} {v : Value} : ∀ {P : List Str} {vs : List Value} {i : Nat} {m : Str -> Option Value},P.Nodup -> P[i]? = some x -> vs[i]? = some v -> kindOf x ≠ some .local →
  bindC kindOf (P.zip vs) m x = some v
 | [],_,_,_,_,h,_,_ => by simp at h
 | _ :: _,[],_,_,_,_,h,_ => by simp at h
 | p :: P,w :: vs,0,m,nd,h1,h2,hk => by
  simp at h1 h2; subst h1; subst h2; show bindC kindOf ((p,w) :: P.zip vs) m p = _; unfold bindC; rw [vy fun v hv => (List.nodup_cons.mp nd).1 (List.of_mem_zip hv).1,if_neg hk]
  simp
 | p :: P,w :: vs,i + 1,m,nd,h1,h2,hk => by
  show bindC kindOf ((p,w) :: P.zip vs) m x = _; unfold bindC; exact u_ (i := i) (List.nodup_cons.mp nd).2 (by simpa using h1) (by simpa using h2) hk
def start (N : List Str) (vs : List V) : St := vs.map some ++ List.replicate (N.length - vs.length) none
def o5 (CX : qc) (P : Program) (w : World) (K : Fg) (mg : Str -> Option Value) (base : Heap) (N : List Str) (qual : Str) (scope : Scope) (f : Addr) (cd : Value) (A : Around) (outer : List Env) (s : Shared) (H : Hp) (E : XK) : Cx where
 prog := P
 w := w
 K := K
 mg := mg
 base := base
 A := A.deeper (envOfC qual scope s.heap.objs.size f cd)
 N := N
 s_0 := s
 H_0 := H
 env := envOfC qual scope s.heap.objs.size f cd
 outer := outer
 stack := envOfC qual scope s.heap.objs.size f cd :: outer
 ex := []
 calm := true
 fn := fun _ => true
 pn := []
 xe := fun e s' => wpAny (model P w) (A.deeper (envOfC qual scope s.heap.objs.size f cd)) (leaving (envOfC qual scope s.heap.objs.size f cd) e) (fun _ s'' => CX outer H s E e s'') (fun e' s'' => CX outer H s E e' s'') s'
theorem w_ {sc : Scope} {n : Nat} {x : Str} (h : sc.names.lookup x = some .cell) : ∃ c,(cellsFrom n sc.names []).lookup x = some c := by
 have q := PySem.W.cellsFrom_some sc.names n [] (.inl h); exact Option.isSome_iff_exists.mp q
theorem z_ {CX : qc} {P : Program} {w : World} {K : Fg} {mg : Str -> Option Value} {base : Heap} {N ps : List Str} {qual : Str} {scope : Scope} {f : Addr} {cd : Value} {A : Around} {outer : List Env} {s s1 : Shared} {H : Hp} {E : XK} {us : List Value} {vs : List V}
  (S : aq N ps scope) (hd : A.handled = none) (e0 : sQ P w K mg base A outer s H) (hl : vs.length = ps.length) (r : aL vs us)
  (x : InCallC s s.heap.objs.size (bindL (envOfC qual scope s.heap.objs.size f cd).kindOf (ps.zip us) fun _ => none) (cellsFrom (s.heap.objs.size + 1) scope.names []) (bindC (envOfC qual scope s.heap.objs.size f cd).kindOf (ps.zip us) fun _ => none) s1) :
  ay (o5 CX P w K mg base N qual scope f cd A outer s H E) [] (start N vs) H s1 := by
 have hpl : ps.length <= N.length := by have := congrArg List.length S.pre; rw [List.length_take] at this; omega
 obtain ⟨h1,tk,rfl,hk⟩ := x.done; have noA : ∀ b : Addr,b ∉ (o5 CX P w K mg base N qual scope f cd A outer s H E).ex := fun b z => absurd (show b ∈ ([] : List Addr) from z) (by simp)
 refine ⟨⟨e0.mod,S.kind,rfl,rfl,Nat.le_refl _,fun y z c h1 h2 => ?_,fun y hy => ?_,fun y c _ h => ?_,fun _ => hd,Around.frames_deeper e0.frames,.inr ⟨rfl,rfl⟩,fun b z => absurd z (noA b),e0.bs,e0.bsz,fun b _ _ => noA b,fun b z => absurd z (noA b),e0.funs,e0.frf⟩,
  rfl,e0.bare,Un.kept hk,⟨_,x.toInCall.ns,fun i y v h1 h2 h3 => ?_⟩,fun y c h => ⟨_,x.cell y c h⟩,e0.hok.fresh (Nat.le_refl _),fun y c h => ?_,fun p hp => absurd (show p ∈ ([] : List (Addr × Obj)) from hp) (by simp),e0.hok.kept hk,?_⟩
 ·exact name_of_addr x.apart (PySem.mem_of_lookup h1) (PySem.mem_of_lookup h2)
 ·have hy : scope.names.lookup y = some .cell \/ scope.names.lookup y = some .free := hy
  rcases hy with hy | hy
  ·exact w_ hy
  ·exact absurd rfl (S.nofree _ (PySem.mem_of_lookup hy))
 ·exact Nat.le_of_lt (x.above y c (PySem.mem_of_lookup h))
 ·have hi : i < vs.length := by
   unfold start at h2
   by_cases hi : i < vs.length
   ·exact hi
   ·rw [List.getElem?_append_right (by simpa using hi)] at h2; rw [List.getElem?_replicate] at h2
    split at h2 <;> cases h2
  have ha : vs[i]? = some v := by
   unfold start at h2; rw [List.getElem?_append_left (by simpa using hi),List.getElem?_map] at h2
   cases e : vs[i]? with
   | none => rw [e] at h2; cases h2
   | some a => rw [e] at h2; cases h2; rfl
  obtain ⟨u,hu,rv⟩ := r.get ha
  have hp : ps[i]? = some y := by
   rw [← S.pre,List.getElem?_take_of_lt (by omega)]; exact h1
  have ndP : ps.Nodup := by rw [← S.pre]; exact S.nd.sublist (List.take_sublist _ _)
  refine ⟨u,rv,?_⟩
  rcases S.par y (List.mem_of_getElem? hp) with k | k
  ·exact .inl ⟨k,vq ndP hp hu k⟩
  ·obtain ⟨c,e⟩ := w_ (n := s.heap.objs.size + 1) k; refine .inr ⟨.inl k,c,e,?_⟩; have q := x.cell y c e; rw [u_ ndP hp hu (by show scope.names.lookup y ≠ _; rw [k]; decide)] at q; exact q
 ·exact e0.hok.fresh (Nat.le_of_lt (x.above y c (PySem.mem_of_lookup h)))
 ·unfold start; show _ = N.length; rw [List.length_append,List.length_map,List.length_replicate]; omega
theorem adz {CX : qc} {P : Program} {w : World} {K : Fg} {mg : Str -> Option Value} {base : Heap} {k : Nat} {f : Addr} {name qual : Str} {params : Arguments} {body : List Stmt} {scope : Scope} {dV kV doc pm cdv ct oc : Value} {an od : Option Addr}
  {osl : Array (Option Value)} {N ps : List Str} {sp : Sp} (lk : K.lookup f = some ⟨oc,od,.func (PySem.W.fnOf name qual params body scope dV kV doc pm an cdv ct),osl⟩) (hcd : PySem.W.codeIn K cdv qual = true) (S : aq N ps scope)
  (len : ∀ vs H Q E,sp vs H Q E -> vs.length = ps.length)
  (hbody : ∀ (A : Around) (outer : List Env) (s : Shared) (H : Hp) (vs : List V) (Q : VK) (E : XK),bM k (A.deeper (envOfC qual scope s.heap.objs.size f cdv)) -> sp vs H Q E →
   ∃ t,kN (o5 CX P w K mg base N qual scope f cdv A outer s H E) body t /\ t { nx := fun _ H' => Q .non H',rt := Q } (start N vs) H) :
  f7 P w K mg base CX (k + 1) f (PySem.W.fnOf name qual params body scope dV kV doc pm an cdv ct) ps sp := by
 refine ⟨len,fun A outer s H args us vs Q E hr e0 hb r hsp => ?_⟩; have hl := len _ _ _ _ hsp; have KX : K.In s.heap := e0.mod.kin.keeps fun b o e => (e0.bs b o e).1
 have lim : s.heap.NoLimit := e0.mod.nolimit.keeps fun b o e => (e0.bs b o e).1
 have hkind : ∀ y ∈ ps.zip us,scope.names.lookup y.1 = some .local \/ (scope.names.lookup y.1 = some .cell /\ ((cellsFrom (s.heap.objs.size + 1) scope.names []).lookup y.1).isSome = true) := fun ⟨n,v⟩ hy => by
  rcases S.par n (List.of_mem_zip hy).1 with q | q
  ·exact .inl q
  ·exact .inr ⟨q,PySem.W.cellsFrom_some _ _ _ (.inl q)⟩
 refine codeAny_call_function hr.depth (KX _ _ lk) rfl S.co S.gen rfl (PySem.W.codeRec_of KX hcd) (hb _ _ _ _ ?_); refine wpAny_newFunctionEnv_cells S.kind hkind fun env he s1 x => ?_
 subst he; refine ⟨lim.keeps x.toInCall.keep,codeAny_func ?_⟩; obtain ⟨t,ht,hq⟩ := hbody A outer s H vs Q E (hr.deeper _) hsp; have I : ay (o5 CX P w K mg base N qual scope f cdv A outer s H E) [] (start N vs) H s1 := z_ S hr.hd e0 hl r x; refine wpAny_mono (ht [] s1 (start N vs) H _ I hq) (fun fl s' hs => ?_) fun e s' hs => hs
 have fin : ∀ {σ' : St} {H' : Hp} {v : V} {u : Value},ay (o5 CX P w K mg base N qual scope f cdv A outer s H E) [] σ' H' s' -> bu v u -> Q v H' -> CE outer P w H s Q u s' :=
  fun {σ' H' v u} J rv q => ⟨v,H',J.os,J.bare,J.base,J.hok,rv,q⟩
 cases fl with
 | ret u =>
  obtain ⟨v,σ',H',J,rv,q⟩ := hs; exact fin J rv q
 | next =>
  obtain ⟨σ',H',J,q⟩ := hs; exact fin (v := V.non) (u := Value.none) J rfl q
 | brk =>
  obtain ⟨_,_,_,q⟩ := hs; exact False.elim q
 | cont =>
  obtain ⟨_,_,_,q⟩ := hs; exact False.elim q
section
variable {X : Cx} {x : Str} {p pos : Pos} {e : Expr} {es : List Expr} {t : TA} {id T : String} {r : List V -> Hp -> VK -> Prop}
def tCB (r : List V -> Hp -> VK -> Prop) (t : TA) : TE := fun σ H Q => t σ H fun vs H1 => r vs H1 Q
theorem bG (hc : gr X (.builtin id) r) (hg : Gl X x) (hm : X.mg x = none) (hv : bootBuiltins x = some (.builtin id)) (ha : PA X (e :: es) t) (hn : x ≠ "__name__" := by decide) (hdb : (x == ("__debug__" : Str)) = false := by decide)
  (he : starEach (e :: es) X.env = (false,eval e X.env) :: starEach es X.env := by rfl) (hpl : (backTo pos (starEach es X.env)).any (·.1) = false := by rfl) : PE X (.Call (.Name x p) (e :: es) [] pos) (tCB r t) := by
 intro pins s σ H Q I h; refine wpAny_Call_Name_kw (jN I hg hm hv ?_ hn hdb); exact PyProof.Rows.callWith_builtin1 (bo (ha pos pins s σ H _ I h) fun us s1 ⟨vs,H1,I1,r1,q1⟩ => hc pins s1 σ H1 vs us Q I1 r1 q1) he hpl
theorem f9 (hc : gr X (.type T) r) (hg : Gl X x) (hm : X.mg x = none) (hv : bootBuiltins x = some (.type T)) (ha : PA X (e :: es) t) (hn : x ≠ "__name__" := by decide) (hdb : (x == ("__debug__" : Str)) = false := by decide)
  (he : starEach (e :: es) X.env = (false,eval e X.env) :: starEach es X.env := by rfl) (hpl : (backTo pos (starEach es X.env)).any (·.1) = false := by rfl) : PE X (.Call (.Name x p) (e :: es) [] pos) (tCB r t) := by
 intro pins s σ H Q I h; refine wpAny_Call_Name_kw (jN I hg hm hv ?_ hn hdb); exact PyProof.Rows.callWith_type1 (bo (ha pos pins s σ H _ I h) fun us s1 ⟨vs,H1,I1,r1,q1⟩ => hc pins s1 σ H1 vs us Q I1 r1 q1) he hpl
end
end L2
namespace HT
open PySem PyProof.Rows
section
variable {prog : Program} {w : World} {A : Around} {E : Value -> Shared -> Prop} {s : Shared}
def jX (n d : Nat) : Option Int -> Nat
 | none => d
 | some v => if v < 0 then (v + (n : Int)).toNat else min v.toNat n
theorem wz (n d : Nat) : jX n d none = d := rfl
theorem re (n d k : Nat) : jX n d (some (k : Int)) = min k n := by
 show (if (k : Int) < 0 then ((k : Int) + (n : Int)).toNat else min (k : Int).toNat n) = min k n; rw [if_neg (by omega),Int.toNat_natCast]
end
end HT
namespace L2
open PySem PySem.Spec PyProof.Rows
abbrev TO := St -> Hp -> (Option Int -> Hp -> Prop) -> Prop
def PO (X : Cx) (e : Option Expr) (t : TO) : Prop :=
 ∀ (pins : List (Addr × Obj)) (s : Shared) (σ : St) (H : Hp) (Q : Option Int -> Hp -> Prop),ay X pins σ H s -> t σ H Q →
  wpAny (model X.prog X.w) X.A (evalPart e X.env) (fun u s' => ∃ o H',ay X pins σ H' s' /\ IsPart u o /\ Q o H') X.xe s
def acb : TO := fun _ H Q => Q none H
def adC (t : TE) : TO := fun σ H Q => t σ H fun x H1 => ∃ i,x = .int i /\ Q (some i) H1
section
variable {X : Cx} {e : Expr} {te : TE} {lo hi : Option Expr} {tl th : TO} {pos p2 : Pos}
theorem i_ : PO X none acb := by
 intro pins s σ H Q I h; rw [evalPart_none]; exact wpAny_pure ⟨none,H,I,.none,h⟩
theorem eL (h : PE X e te) : PO X (some e) (adC te) := by
 intro pins s σ H Q I hw; rw [evalPart_some]; refine bo (h pins s σ H _ I hw) fun u s1 ⟨x,H1,I1,r1,q1⟩ => ?_
 obtain ⟨i,rfl,q⟩ := q1; obtain ⟨t,rfl⟩ := r1; exact ⟨some i,H1,I1,.int i t,q⟩
def SlR (X : Cx) (r : V -> Option Int -> Option Int -> Hp -> VK -> Prop) : Prop :=
 ∀ (pins : List (Addr × Obj)) (s : Shared) (σ : St) (H : Hp) (x : V) (v vl vu : Value) (lo hi : Option Int) (sl : Addr) (Q : VK),ay X pins σ H s -> bu x v -> s.heap.IsSliceOf sl vl vu .none -> IsPart vl lo -> IsPart vu hi -> r x lo hi H Q →
  ∃ T id,typeLookup (.type T) "__getitem__" = pure (some (.builtin id)) /\ s.TypeIs v T /\ wpAny (model X.prog X.w) X.A (getItem v (.ref sl)) (EP X pins σ Q) X.xe s
def tSl (r : V -> Option Int -> Option Int -> Hp -> VK -> Prop) (te : TE) (tl th : TO) : TE := fun σ H Q => te σ H fun x H1 => tl σ H1 fun l H2 => th σ H2 fun u H3 => r x l u H3 Q
theorem e_ {r : V -> Option Int -> Option Int -> Hp -> VK -> Prop} (hr : SlR X r) (he : PE X e te) (hl : PO X lo tl) (hu : PO X hi th) : PE X (.Subscript e (.Slice lo hi none p2) pos) (tSl r te tl th) := by
 intro pins s σ H Q I h; refine Subscript_ (bo (he pins s σ H _ I h) fun v s1 ⟨x,H1,I1,r1,q1⟩ => ?_); refine wpAny_Slice (bo (hl pins s1 σ H1 _ I1 q1) fun vl s2 ⟨l,H2,I2,pl,q2⟩ => bo (hu pins s2 σ H2 _ I2 q2) fun vu s3 ⟨u,H3,I3,pu,q3⟩ => ?_); rw [evalPart_none]; refine wpAny_pure ?_; have I4 : ay X pins σ H3 { s3 with heap := s3.heap.push { cls := .type "slice",data := .fields #[vl,vu,.none] } } := I3.kept (t' := s3.toks) fun b ob q => Heap.get?_push_of_some _ q
 obtain ⟨T,id,hT,ht,hg⟩ := hr pins { s3 with heap := s3.heap.push { cls := .type "slice",data := .fields #[vl,vu,.none] } } σ H3 x v vl vu l u s3.heap.objs.size Q I4 r1 (Heap.IsSliceOf.new ..) pl pu q3; show wpAny (model X.prog X.w) X.A (subscriptTail e (.Slice lo hi none p2) v (.ref s3.heap.objs.size)) (EP X pins σ Q) X.xe { s3 with heap := s3.heap.push { cls := .type "slice",data := .fields #[vl,vu,.none] } }; exact tail_any (ops := [.ref s3.heap.objs.size,v]) ht hT hg (by with_unfolding_all rfl)
def eN (xs : List V) (lo hi : Option Int) : List V := (xs.drop (HT.jX xs.length 0 lo)).take (HT.jX xs.length xs.length hi - HT.jX xs.length 0 lo)
theorem xJ (xs : List V) (lo hi : Option Int) : (eN xs lo hi).length <= xs.length := by
 unfold eN; rw [List.length_take,List.length_drop]; omega
end
def fU (n : Nat) (i : Int) : Option Nat := if 0 <= i then (if i < n then some i.toNat else none) else if -(n : Int) <= i then some (i + n).toNat else none
def fj {α : Type} (xs : List α) (i : Int) : Option α := (fU xs.length i).bind fun j => xs[j]?
theorem yc {n : Nat} {i : Int} {j : Nat} (h : fU n i = some j) : seqIndex? i n = some j /\ j < n /\ -(n : Int) <= i /\ i < n := by
 unfold fU at h
 by_cases h0 : 0 <= i
 ·rw [if_pos h0] at h
  by_cases h1 : i < n
  ·rw [if_pos h1] at h; have e : i.toNat = j := Option.some.inj h; exact ⟨by rw [seqIndex_of h0 h1,e],by omega,by omega,h1⟩
  ·rw [if_neg h1] at h; cases h
 ·rw [if_neg h0] at h
  by_cases h1 : -(n : Int) <= i
  ·rw [if_pos h1] at h; have e : (i + n).toNat = j := Option.some.inj h; exact ⟨by rw [seqIndex_neg (by omega) h1,e],by omega,h1,by omega⟩
  ·rw [if_neg h1] at h; cases h
theorem yE {α : Type} {xs : List α} {i : Int} {v : α} (h : fj xs i = some v) : ∃ j,seqIndex? i xs.length = some j /\ xs[j]? = some v /\ j < xs.length /\ -(xs.length : Int) <= i /\ i < xs.length := by
 unfold fj at h
 cases e : fU xs.length i with
 | none => rw [e] at h; cases h
 | some j =>
  rw [e] at h; obtain ⟨h1,h2,h3,h4⟩ := yc e; exact ⟨j,h1,h,h2,h3,h4⟩
theorem bC {α : Type} {xs : List α} {j : Nat} {v : α} (h : xs[j]? = some v) : fj xs (j : Int) = some v := by
 have hj : j < xs.length := (List.getElem?_eq_some_iff.mp h).1
 have e : fU xs.length (j : Int) = some j := by
  unfold fU; rw [if_pos (by omega),if_pos (by omega)]; simp
 unfold fj; rw [e]; exact h
theorem aaW {α : Type} (xs : List α) (v : α) : fj (xs ++ [v]) (-1) = some v := by
 have hl : (xs ++ [v]).length = xs.length + 1 := by simp
 have e : fU (xs ++ [v]).length (-1) = some xs.length := by
  unfold fU; rw [hl,if_neg (by decide),if_pos (by omega)]; congr 1; omega
 unfold fj; rw [e]; show (xs ++ [v])[xs.length]? = some v
 simp
def uw (b : Expr) : Prop := ∀ o i,subscripted b false o i = operate [o,i] (getItem o i)
def IxR (X : Cx) (r : R2) : Prop :=
 ∀ (value slice : Expr) (pins : List (Addr × Obj)) (s : Shared) (σ : St) (H : Hp) (x y : V) (v u : Value) (Q : VK),ay X pins σ H s -> bu x v -> bu y u -> r x y H Q →
  subscripted slice false v u = operate [v,u] (getItem v u) -> wpAny (model X.prog X.w) X.A (subscriptTail value slice v u) (EP X pins σ Q) X.xe s
def MtR (X : Cx) (id : String) (r : V -> List V -> Hp -> VK -> Prop) : Prop :=
 ∀ (pins : List (Addr × Obj)) (s : Shared) (σ : St) (H : Hp) (x : V) (xs : List V) (v : Value) (us : List Value) (Q : VK),ay X pins σ H s -> bu x v -> aL xs us -> r x xs H Q →
  wpAny (model X.prog X.w) X.A (call (.builtin id) (v :: us)) (EP X pins σ Q) X.xe s
section
variable {X : Cx} {a b : Expr} {ta tb : TE} {pos : Pos}
theorem rA {r : R2} (hr : IxR X r) (ha : PE X a ta) (hb : PE X b tb) (hs : uw b) : PE X (.Subscript a b pos) (vv r ta tb) := by
 intro pins s σ H Q I h; exact Subscript_ (abc ha hb I h fun v u s2 x y H2 I2 rx ry q => hr a b pins s2 σ H2 x y v u Q I2 rx ry q (hs _ _))
def yT (K : Fg) : R2 := fun x y H Q => ∃ p xs i v,x = .ref p /\ y = .int i /\ ag K H p xs /\ fj xs i = some v /\ Q v H
def act (K : Fg) : R2 := fun x y H Q => ∃ p xs i v,x = .ref p /\ y = .int i /\ cx K H p xs /\ fj xs i = some v /\ Q v H
theorem yi : IxR X (yT X.K) := by
 intro value slice pins s σ H x y v u Q I rx ry h hs; obtain ⟨p,xs,i,z,rfl,rfl,hq,he,q⟩ := h; cases rx; obtain ⟨t,rfl⟩ := ry; obtain ⟨its,r,pl,hz⟩ := I.list hq; obtain ⟨j,h1,h2,h3,h4,h5⟩ := yE he; obtain ⟨w,ew,rw'⟩ := r.get h2; have hl := r.length; have hn := uk; have fin : EP X pins σ Q w s := ⟨z,H,I,rw',q⟩
 by_cases h0 : 0 <= i
 ·have hj : i.toNat = j := by
   rw [seqIndex_of h0 h5] at h1; exact Option.some.inj h1
  exact item_listR pl.isList h0 (by omega) (by rw [hj]; simpa using ew) fin hs
 ·have hj : (i + (its.toArray.size : Int)).toNat = j := by
   rw [seqIndex_neg (by omega) h4] at h1; rw [List.size_toArray,← hl]; exact Option.some.inj h1
  exact subscriptTail_builtinR (x := w) pl.isList.typeIs slot_list_getitem.lookup
   (wpAny_getItem_list_neg (Q := fun r s' => r = w /\ EP X pins σ Q r s') pl.isList (by omega) (by rw [List.size_toArray] <;> omega) (by omega) (by rw [hj]; simpa using ew) ⟨rfl,fin⟩) hs
theorem tG : IxR X (act X.K) := by
 intro value slice pins s σ H x y v u Q I rx ry h hs; obtain ⟨p,xs,i,z,rfl,rfl,hq,he,q⟩ := h; cases rx; obtain ⟨t,rfl⟩ := ry; obtain ⟨its,r,pl,hz⟩ := I.tuple hq; obtain ⟨j,h1,h2,h3,h4,h5⟩ := yE he; obtain ⟨w,ew,rw'⟩ := r.get h2; have hl := r.length; have hn := uk; have fin : EP X pins σ Q w s := ⟨z,H,I,rw',q⟩
 exact subscriptTail_builtinR (x := w) pl.typeIs slot_tuple_getitem.lookup
  (getItem_tuple (j := j) (Q := fun r s' => r = w /\ EP X pins σ Q r s') pl (by omega) (by omega) (by rw [List.size_toArray,← hl]; exact h1) (by simpa using ew) ⟨rfl,fin⟩) hs
theorem zt (its : List Value) (n j : Nat) (u : Value) : Obj.mapSeq (·.setIfInBounds j u) { cls := .type "list",data := .seq its.toArray n } = { cls := .type "list",data := .seq (its.set j u).toArray n } := by
 simp [Obj.mapSeq]
theorem ay.lst {pins : List (Addr × Obj)} {σ : St} {H : Hp} {s : Shared} {p : Addr} {xs : List V} (I : ay X pins σ H s) (h : H p = some (.lst xs)) :
  ∃ (its : List Value) (n : Nat),aL xs its /\ s.heap.get? p = some { cls := .type "list",data := .seq its.toArray n } /\ xs.length <= sizeLine := by
 obtain ⟨z,its,n,r,e⟩ := I.hok p _ h; exact ⟨its,n,r,e,z⟩
theorem ay.lstUpd {pins : List (Addr × Obj)} {σ : St} {H : Hp} {s : Shared} {p : Addr} {xs ys : List V} {its its' : List Value} {n n' : Nat} {f : Obj -> Obj} (I : ay X pins σ H s) (h : H p = some (.lst xs))
  (ho : s.heap.get? p = some { cls := .type "list",data := .seq its.toArray n }) (hf : f { cls := .type "list",data := .seq its.toArray n } = { cls := .type "list",data := .seq its'.toArray n' }) (r : aL ys its') (hz : ys.length <= sizeLine) (t : Nat) :
  ay X pins σ (upd H p (.lst ys)) { s with heap := s.heap.update p f,toks := t } := by
 have e : (s.heap.update p f).get? p = some { cls := .type "list",data := .seq its'.toArray n' } := by
  rw [Heap.get?_update_self f ho (by rw [hf] <;> rfl),hf]
 refine I.write (x := p) (e := p) (by rw [h]; trivial) (.inl rfl) (fun b u hb q => (Heap.get?_update_other _ _ (Ne.symm hb)).trans q) ⟨_,e⟩ ?_; exact ⟨hz,its',n',r,e⟩
def ac3 : V -> V -> V -> Hp -> (Hp -> Prop) -> Prop := fun o i v H Q => ∃ p xs k j,o = .ref p /\ i = .int k /\ H p = some (.lst xs) /\ fU xs.length k = some j /\ Q (upd H p (.lst (xs.set j v)))
theorem jb : acR X ac3 := by
 intro pins s σ H o i v ov iv u Q I ro ri rv h; obtain ⟨p,xs,k,j,rfl,rfl,hp,hj,q⟩ := h; cases ro; obtain ⟨t,rfl⟩ := ri; obtain ⟨its,n,r,ho,hz⟩ := I.lst hp; obtain ⟨h1,h2,h3,h4⟩ := yc hj; have hl := r.length; have hn := uk
 have I' : ay X pins σ (upd H p (.lst (xs.set j v))) { s with heap := s.heap.update p (Obj.mapSeq (·.setIfInBounds j u)) } :=
  I.lstUpd hp ho (zt its n j u) (r.set rv j) (by rw [List.length_set]; exact hz) s.toks
 by_cases h0 : 0 <= k
 ·have hk : k.toNat = j := by
   rw [seqIndex_of h0 h4] at h1; exact Option.some.inj h1
  exact PySem.W.ki_setAt ho h0 (by omega) (by rw [List.size_toArray,← hl]; exact h4) (by rw [hk]; exact ⟨_,I',q⟩)
 ·have hk : (k + (its.toArray.size : Int)).toNat = j := by
   rw [seqIndex_neg (by omega) h3] at h1; rw [List.size_toArray,← hl]; exact Option.some.inj h1
  exact PySem.W.ki_setBack ho (by omega) (by rw [List.size_toArray,← hl]; exact h3) (by omega) (by rw [hk]; exact ⟨_,I',q⟩)
theorem wB (lo hi : Option Int) (n : Nat) : (sliceBounds lo hi none n).1 = ((HT.jX n 0 lo : Nat) : Int) /\ (sliceBounds lo hi none n).2.1 = ((HT.jX n n hi : Nat) : Int) /\ (sliceBounds lo hi none n).2.2 = 1 := by
 refine ⟨?_,?_,rfl⟩
 ·cases lo with
  | none => simp [sliceBounds,HT.jX]
  | some i =>
   simp only [sliceBounds,HT.jX,Option.getD_none,show (1 : Int) > 0 by decide,if_true]
   by_cases h : i < 0
   ·simp only [h,if_true] <;> omega
   ·simp only [h,if_false] <;> omega
 ·cases hi with
  | none => simp [sliceBounds,HT.jX]
  | some i =>
   simp only [sliceBounds,HT.jX,Option.getD_none,show (1 : Int) > 0 by decide,if_true]
   by_cases h : i < 0
   ·simp only [h,if_true] <;> omega
   ·simp only [h,if_false] <;> omega
theorem vQ (its : List Value) (lo hi : Option Int) : slicePick its.toArray lo hi none = ((its.drop (HT.jX its.length 0 lo)).take (HT.jX its.length its.length hi - HT.jX its.length 0 lo)).toArray := by
 obtain ⟨h1,h2,h3⟩ := wB lo hi its.toArray.size; unfold slicePick; rw [h1,h2,h3]; simp only [sliceRange_one,pick_run,List.size_toArray] <;> rfl
def adQ (K : Fg) : V -> Option Int -> Option Int -> Hp -> VK -> Prop := fun x lo hi H Q => ∃ a xs,x = .ref a /\ ag K H a xs /\ ∀ p,H p = none -> Q (.ref p) (upd H p (.lst (eN xs lo hi)))
theorem gf : SlR X (adQ X.K) := by
 intro pins s σ H x v vl vu lo hi sl Q I rx hs pl pu h; obtain ⟨a,xs,rfl,hx,q⟩ := h; cases rx; obtain ⟨its,r,ht,hz⟩ := I.list hx; have hlen := r.length; refine ⟨"list",_,slot_list_getitem.lookup,ht.isList.typeIs,?_⟩; refine wpAny_getItem_list_slice ht.isList hs pl pu .none (by simp) ?_ (by rw [List.size_toArray] <;> omega); rw [vQ,← hlen]; refine ⟨.ref s.heap.objs.size,_,I.laid (t' := s.toks) (o := .lst (eN xs lo hi)) (fun b ob q => Heap.get?_push_of_some _ q) (Nat.le_refl _) ?_,rfl,q _ (I.hok.fresh (Nat.le_refl _))⟩; exact ⟨Nat.le_trans (xJ xs lo hi) hz,_,0,(r.drop (HT.jX xs.length 0 lo)).take (HT.jX xs.length xs.length hi - HT.jX xs.length 0 lo),Heap.get?_push_size _ rfl⟩
def ld : V -> Bool
 | .non => true
 | .bl _ => true
 | .int _ => true
 | .str _ => true
 | _ => false
def pI : V -> V -> Bool
 | .non,.non => true
 | .bl a,.bl b => a == b
 | .bl a,.int b => (if a then 1 else 0) == b
 | .int a,.bl b => a == (if b then 1 else 0)
 | .int a,.int b => a == b
 | .str a,.str b => a == b
 | _,_ => false
theorem acA {A : Around} {s : Shared} {y x : V} {u v : Value} (ry : bu y u) (rx : bu x v) (fy : ld y = true) (fx : ld x = true) : SeqAt.EqAt A s u v (pI y x) := by
 cases y with
 | non =>
  cases ry
  cases x with
  | non => cases rx; exact SeqAt.EqAt.same _
  | bl b => cases rx; exact SeqAt.EqAt.none_bool b
  | int b => obtain ⟨t,rfl⟩ := rx; exact SeqAt.EqAt.none_int b t
  | str b => obtain ⟨t,rfl⟩ := rx; exact SeqAt.EqAt.none_str b t
  | _ => exact absurd (show false = true from fx) Bool.false_ne_true
 | bl a =>
  cases ry
  cases x with
  | non => cases rx; exact SeqAt.EqAt.bool_none a
  | bl b => cases rx; exact SeqAt.EqAt.bool_bool a b
  | int b => obtain ⟨t,rfl⟩ := rx; exact SeqAt.EqAt.bool_int a b t
  | str b => obtain ⟨t,rfl⟩ := rx; exact SeqAt.EqAt.bool_str a b t
  | _ => exact absurd (show false = true from fx) Bool.false_ne_true
 | int a =>
  obtain ⟨t',rfl⟩ := ry
  cases x with
  | non => cases rx; exact SeqAt.EqAt.int_none a t'
  | bl b => cases rx; exact SeqAt.EqAt.int_bool a t' b
  | int b => obtain ⟨t,rfl⟩ := rx; exact SeqAt.EqAt.int_int a t' b t
  | str b => obtain ⟨t,rfl⟩ := rx; exact SeqAt.EqAt.int_str a t' b t
  | _ => exact absurd (show false = true from fx) Bool.false_ne_true
 | str a =>
  obtain ⟨t',rfl⟩ := ry
  cases x with
  | non => cases rx; exact SeqAt.EqAt.str_none a t'
  | bl b => cases rx; exact SeqAt.EqAt.str_bool a t' b
  | int b => obtain ⟨t,rfl⟩ := rx; exact SeqAt.EqAt.str_int a t' b t
  | str b => obtain ⟨t,rfl⟩ := rx; exact SeqAt.EqAt.str_str a t' b t
  | _ => exact absurd (show false = true from fx) Bool.false_ne_true
 | _ => exact absurd (show false = true from fy) Bool.false_ne_true
def ua (x : V) (u : Value) : Bool := match u with
 | .none => pI .non x
 | .bool b => pI (.bl b) x
 | .int i _ => pI (.int i) x
 | .str z _ => pI (.str z) x
 | _ => false
theorem z4 {x y : V} {u : Value} (r : bu y u) (f : ld y = true) : ua x u = pI y x := by
 cases y with
 | non => cases r; rfl
 | bl b => cases r; rfl
 | int i => obtain ⟨t,rfl⟩ := r; rfl
 | str z => obtain ⟨t,rfl⟩ := r; rfl
 | _ => exact absurd (show false = true from f) Bool.false_ne_true
theorem uQ {x : V} : ∀ {xs : List V} {us : List Value},aL xs us -> xs.all ld = true -> us.any (ua x) = xs.any fun y => pI y x
 | _,_,.nil,_ => rfl
 | y :: xs,u :: us,.cons r t,f => by
  rw [List.all_cons,Bool.and_eq_true] at f; rw [List.any_cons,List.any_cons,z4 r f.1,uQ t f.2]
theorem sG {A : Around} {s : Shared} {x : V} {v : Value} (rx : bu x v) (fx : ld x = true) : ∀ {xs : List V} {us : List Value},aL xs us -> xs.all ld = true -> ∀ u ∈ us,SeqAt.EqAt A s u v (ua x u)
 | _,_,.nil,_ => fun u hu => by cases hu
 | y :: xs,u :: us,.cons r t,f => fun u' hu => by
  rw [List.all_cons,Bool.and_eq_true] at f
  rcases List.mem_cons.mp hu with rfl | hu
  ·rw [z4 r f.1]; exact acA r rx f.1 fx
  ·exact sG rx fx t f.2 u' hu
def yw (x : V) (xs : List V) : Bool := xs.any fun y => pI y x
def rIn (K : Fg) (neg : Bool) : R2 := fun x y H Q => ∃ p xs,y = .ref p /\ (ag K H p xs \/ cx K H p xs) /\ ld x = true /\ xs.all ld = true /\ Q (.bl (if neg then !yw x xs else yw x xs)) H
theorem aax : d8 X (compareOp .In) (rIn X.K false) := by
 intro pins s σ H x y v u Q I rx ry h; obtain ⟨p,xs,rfl,hq,fx,fs,q⟩ := h; cases ry
 rcases hq with hq | hq
 ·obtain ⟨its,r,pl,hz⟩ := I.list hq; refine SeqAt.in_listAt (ua x) pl.isList (fun w hw => sG rx fx r fs w (by simpa using hw)) ⟨.bl _,H,I,rfl,?_⟩; rw [show its.toArray.any (ua x) = its.any (ua x) by simp,uQ r fs]; exact q
 ·obtain ⟨its,r,pl,hz⟩ := I.tuple hq; refine SeqAt.in_tupleAt (ua x) pl (fun w hw => sG rx fx r fs w (by simpa using hw)) ⟨.bl _,H,I,rfl,?_⟩; rw [show its.toArray.any (ua x) = its.any (ua x) by simp,uQ r fs]; exact q
theorem qK : gr X (.builtin "len") (fun xs H Q => ∃ p ys,xs = [.ref p] /\ (ag X.K H p ys \/ cx X.K H p ys) /\ Q (.int ys.length) H) := by
 intro pins s σ H xs us Q I r h; obtain ⟨p,ys,rfl,hq,q⟩ := h; obtain ⟨u,rfl,rx⟩ := wc r; cases rx; have hn := uk
 rcases hq with hq | hq
 ·obtain ⟨its,r',pl,hz⟩ := I.list hq; have hlen := r'.length; exact Calls.call_len_list pl.isList (by simp only [List.size_toArray] <;> omega) ⟨.int ys.length,H,I.tok _,⟨s.toks + 1,by rw [List.size_toArray,hlen]⟩,q⟩
 ·obtain ⟨its,r',pl,hz⟩ := I.tuple hq; have hlen := r'.length; exact len_tuple pl (by simp only [List.size_toArray] <;> omega) ⟨.int ys.length,H,I.tok _,⟨s.toks + 1,by rw [List.size_toArray,hlen]⟩,q⟩
theorem lr : gr X (.type "list") (fun xs H Q => ∃ p ys,xs = [.ref p] /\ (ag X.K H p ys \/ cx X.K H p ys) /\ ∀ l,H l = none -> Q (.ref l) (upd H l (.lst ys))) := by
 intro pins s σ H xs us Q I r h; obtain ⟨p,ys,rfl,hq,q⟩ := h; obtain ⟨u,rfl,rx⟩ := wc r; cases rx
 have fin : ∀ (its : List Value),aL ys its -> ys.length <= sizeLine -> ∀ (h' : Heap) (c' : Nat),(∀ b o',s.heap.get? b = some o' -> h'.get? b = some o') →
   h'.get? s.heap.objs.size = some { cls := .type "list",dict := none,data := .seq its.toArray c',slots := #[] } -> EP X pins σ Q (.ref s.heap.objs.size) { s with heap := h' } := fun its r' hz h' c' kp e =>
  ⟨.ref s.heap.objs.size,_,I.laid (t' := s.toks) kp (Nat.le_refl _) (show db X.prog X.w _ h' _ (.lst ys) from ⟨hz,its,c',r',e⟩),rfl,q _ (I.hok.fresh (Nat.le_refl _))⟩
 rcases hq with hq | hq
 ·obtain ⟨its,r',pl,hz⟩ := I.list hq; have hlen := r'.length; obtain ⟨o,ho,hc,n,hd⟩ := pl.isList; exact call_list_seq p (.inl rfl) ho hc hd (fun h' c' kp e => fin its r' hz h' c' kp e) (by simp only [List.size_toArray] <;> omega)
 ·obtain ⟨its,r',pl,hz⟩ := I.tuple hq; have hlen := r'.length; obtain ⟨o,ho,hc,n,hd⟩ := pl; exact call_list_seq p (.inr rfl) ho hc hd (fun h' c' kp e => fin its r' hz h' c' kp e) (by simp only [List.size_toArray] <;> omega)
def tyV (K : Fg) (T : String) (x : V) (H : Hp) : Prop := match x with
 | .str _ => T = "str"
 | .int _ => T = "int"
 | .ref p => (T = "list" /\ ∃ xs,ag K H p xs) \/ (T = "tuple" /\ ∃ o,K.lookup p = some o /\ o.cls = .type "tuple" /\ o.dict = none) ∨
   (T = "dict" /\ ((∃ kvs,H p = some (.dK kvs)) \/ ∃ kvs,H p = some (.dT kvs))) \/ (T = "set" /\ ∃ S n,H p = some (.set S n))
 | _ => False
theorem zZ {pins : List (Addr × Obj)} {σ : St} {H : Hp} {s : Shared} {T : String} {x : V} {v : Value} (I : ay X pins σ H s) (r : bu x v) (ty : tyV X.K T x H) :
  s.TypeIs v T /\ ∀ a,v = .ref a -> ∃ ob,s.heap.get? a = some ob /\ ob.dict = none := by
 cases x with
 | str z =>
  obtain ⟨t,rfl⟩ := r; cases (show T = "str" from ty); exact ⟨typeIs_str s z t,fun _ e => nomatch e⟩
 | int i =>
  obtain ⟨t,rfl⟩ := r; cases (show T = "int" from ty); exact ⟨typeIs_int s i t,fun _ e => nomatch e⟩
 | ref p =>
  cases r
  rcases ty with ⟨rfl,xs,hq⟩ | ⟨rfl,o,hk,hc,hd⟩ | ⟨rfl,hk⟩ | ⟨rfl,S,n,hk⟩
  ·obtain ⟨its,_,pl,_⟩ := I.list hq; refine ⟨pl.isList.typeIs,fun a e => ?_⟩; cases e; obtain ⟨o,n,e,c,hd,_⟩ := pl; exact ⟨o,e,hd⟩
  ·refine ⟨⟨o,I.kIn p o hk,hc⟩,fun a e => ?_⟩; cases e; exact ⟨o,I.kIn _ o hk,hd⟩
  ·have z : ∃ o,s.heap.get? p = some o /\ o.ExactDict := by
    rcases hk with ⟨kvs,hk⟩ | ⟨kvs,hk⟩
    ·obtain ⟨_,_,_,_,o,_,_,e,ex,_⟩ := I.hok p _ hk; exact ⟨o,e,ex⟩
    ·obtain ⟨_,_,_,_,o,_,_,e,ex,_⟩ := I.hok p _ hk; exact ⟨o,e,ex⟩
   obtain ⟨o,e,ex⟩ := z; refine ⟨⟨o,e,ex.1⟩,fun a e2 => ?_⟩; cases e2; exact ⟨o,e,ex.2.1⟩
  ·obtain ⟨o,_,_,_,e,ex,_⟩ := I.hok p _ hk; refine ⟨⟨o,e,ex.1⟩,fun a e2 => ?_⟩; cases e2; exact ⟨o,e,ex.2.1⟩
 | _ => exact False.elim ty
def adN (K : Fg) (T : String) (r : V -> List V -> Hp -> VK -> Prop) (to : TE) : TE := fun σ H Q => to σ H fun x H1 => tyV K T x H1 /\ r x [] H1 Q
def tBM (K : Fg) (T : String) (r : V -> List V -> Hp -> VK -> Prop) (to : TE) (t : TA) : TE := fun σ H Q => to σ H fun x H1 => tyV K T x H1 /\ t σ H1 fun xs H2 => r x xs H2 Q
variable {o e : Expr} {es : List Expr} {to : TE} {t : TA} {name : Str} {apos cpos : Pos} {T id : String} {r : V -> List V -> Hp -> VK -> Prop}
theorem acw (pa : PlainAttrs T) (slot : Slot T name id) (hty : typeOf (.builtin id) = pure (.type "method_descriptor")) (hm : MtR X id r) (ho : PE X o to)
  (hbase : attributeBase o name X.env (eval o X.env) = eval o X.env := by rfl) (hline : (apos.endLine == cpos.line) = true := by rfl) : PE X (.Call (.Attribute o name apos) [] [] cpos) (adN X.K T r to) := by
 intro pins s σ H Q I h; refine wpAny_Call_method0_late hbase hline (bo (ho pins s σ H _ I h) fun v s1 ⟨x,H1,I1,r1,ty,q1⟩ => ?_); obtain ⟨h1,h2⟩ := zZ I1 r1 ty; exact ⟨T,id,pa,slot,hty,h1,h2,Calls.callWith_builtin rfl (PySem.evalArgs_none (hm pins s1 σ H1 x [] v [] Q I1 r1 .nil q1))⟩
theorem gn (pa : PlainAttrs T) (slot : Slot T name id) (hty : typeOf (.builtin id) = pure (.type "method_descriptor")) (hm : MtR X id r) (ho : PE X o to) (ha : PA X (e :: es) t)
  (hbase : attributeBase o name X.env (eval o X.env) = eval o X.env := by rfl)
  (hfew : ((backTo cpos (starEach (e :: es) X.env)).all (fun x => !x.1) && (backToKw cpos (keywordEach [] X.env)).all (fun x => x.1.isSome)
   && decide ((e :: es).length + ([] : List Keyword).length + (if ([] : List Keyword).isEmpty then 0 else 1) < 30)) = true := by rfl)
  (hline : (apos.endLine == cpos.line) = true := by rfl) (hs : starEach (e :: es) X.env = (false,eval e X.env) :: starEach es X.env := by rfl) (hplain : (backTo cpos (starEach es X.env)).any (·.1) = false := by rfl) :
  PE X (.Call (.Attribute o name apos) (e :: es) [] cpos) (tBM X.K T r to t) := by
 intro pins s σ H Q I h; refine wpAny_Call_method_late hbase hfew hline rfl (bo (ho pins s σ H _ I h) fun v s1 ⟨x,H1,I1,r1,ty,q1⟩ => ?_); obtain ⟨h1,h2⟩ := zZ I1 r1 ty; refine ⟨T,id,pa,slot,hty,h1,h2,?_⟩; have hA := ha cpos pins s1 σ H1 _ I1 q1; rw [hs] at hA ⊢; refine Calls.callWith_builtin (by show (false || (backTo cpos (starEach es X.env)).any (·.1)) = false; rw [hplain] <;> rfl) (Calls.evalArgs_plain ?_); exact bo hA fun us s2 ⟨vs,H2,I2,r2,q2⟩ => hm pins s2 σ H2 x vs v us Q I2 r1 r2 q2
end
def MtM (X : Cx) (id : String) (r : V -> List V -> Hp -> VK -> Prop) : Prop :=
 ∀ (pins : List (Addr × Obj)) (s : Shared) (σ : St) (H : Hp) (x : V) (xs : List V) (v : Value) (us : List Value) (Q : VK),ay X pins σ H s -> bu x v -> aL xs us -> r x xs H Q →
  wpAny (model X.prog X.w) X.A (call (.builtin id) (v :: us)) (EP X pins σ Q) X.xe s
theorem aL.one : ∀ {x : V} {us : List Value},aL [x] us -> ∃ u,us = [u] /\ bu x u
 | _,_,.cons r .nil => ⟨_,rfl,r⟩
theorem aL.zero : ∀ {us : List Value},aL [] us -> us = []
 | _,.nil => rfl
theorem aL.reverse {xs : List V} {us : List Value} (h : aL xs us) : aL xs.reverse us.reverse := by
 induction h with
 | nil => exact .nil
 | cons r t ih => rw [List.reverse_cons,List.reverse_cons]; exact aL.append ih (.cons r .nil)
theorem aL.rep {xs : List V} {us : List Value} (h : aL xs us) : ∀ k : Nat,aL (List.replicate k xs).flatten (List.replicate k us).flatten
 | 0 => .nil
 | k + 1 => by
  rw [List.replicate_succ,List.replicate_succ,List.flatten_cons,List.flatten_cons]; exact aL.append h (aL.rep h k)
theorem vK (its : List Value) : ∀ (k : Nat) (acc : List Value),
  List.foldl (fun x1 x2 => x1 ++ x2) acc.toArray (List.replicate k its.toArray) = (acc ++ (List.replicate k its).flatten).toArray
 | 0,acc => by simp
 | k + 1,acc => by
  have e : acc.toArray ++ its.toArray = (acc ++ its).toArray := by simp
  have e2 : (acc ++ its) ++ (List.replicate k its).flatten = acc ++ (List.replicate (k + 1) its).flatten := by
   rw [List.replicate_succ,List.flatten_cons,List.append_assoc]
  rw [← e2,← vK its k (acc ++ its),← e,List.replicate_succ,List.foldl_cons]
section
variable {X : Cx} {pins : List (Addr × Obj)} {σ : St} {H : Hp} {s : Shared} {l b : Addr} {xs ys zs : List V}
theorem ay.lset {its its' : List Value} {n : Nat} {f : Array Value -> Array Value} {t' : Nat} (I : ay X pins σ H s) (hH : H l = some (.lst xs))
  (e : s.heap.get? l = some { cls := .type "list",data := .seq its.toArray n }) (hf : f its.toArray = its'.toArray) (hv : aL ys its') (hz : ys.length <= sizeLine) :
  ay X pins σ (upd H l (.lst ys)) { s with heap := s.heap.update l (Obj.mapSeq f),toks := t' } := by
 have q := PySem.IsL.update e f; rw [hf] at q; refine I.write (x := l) (e := l) (by rw [hH]; exact trivial) (.inl rfl) (fun b' u hb hu => (Heap.get?_update_other s.heap (Obj.mapSeq f) (Ne.symm hb)).trans hu) ⟨_,q⟩ ?_; exact ⟨hz,its',_,hv,q⟩
theorem ay.lnew {its : List Value} {t' : Nat} (I : ay X pins σ H s) (hv : aL ys its) (hz : ys.length <= sizeLine) :
  ay X pins σ (upd H s.heap.objs.size (.lst ys)) { s with heap := s.heap.push { cls := .type "list",data := .seq its.toArray },toks := t' } :=
 I.laid (fun _ _ q => Heap.get?_push_of_some _ q) (Nat.le_refl _) ⟨hz,its,0,hv,Heap.get?_push_size _ rfl⟩
theorem ay.fresh (I : ay X pins σ H s) : H s.heap.objs.size = none := I.hok.fresh (Nat.le_refl _)
theorem ay.lstM (I : ay X pins σ H s) (hH : H l = some (.lst xs)) : xs.length <= sizeLine /\ ∃ (its : List Value) (n : Nat),aL xs its /\ xs.length = its.length /\ s.heap.get? l = some { cls := .type "list",data := .seq its.toArray n } := by
 obtain ⟨z,its,n,r,e⟩ := I.hok l _ hH; exact ⟨z,its,n,r,r.length,e⟩
theorem wV {n : Nat} (h : n <= sizeLine) : Builtin.List.listTooLong n = false := by
 unfold Builtin.List.listTooLong; exact decide_eq_false (by omega)
end
section
variable {X : Cx}
def abU : V -> List V -> Hp -> VK -> Prop := fun x vs H Q => ∃ l xs y,x = .ref l /\ vs = [y] /\ H l = some (.lst xs) /\ xs.length < sizeLine /\ Q .non (upd H l (.lst (xs ++ [y])))
theorem c7 : MtM X "list.append" abU := by
 intro pins s σ H x vs v us Q I rx rv h; obtain ⟨l,xs,y,rfl,rfl,hH,hz,q⟩ := h; cases rx; obtain ⟨u,rfl,ru⟩ := rv.one; obtain ⟨z,its,n,r,hl,e⟩ := I.lstM hH; refine call_meets F.slot_list_append ⟨_,e,rfl⟩ F.entry_list_append (F.args_list_append_2 _ _) (PySem.list_append l its.toArray n u (by rw [List.size_toArray]; omega)) ⟨e,?_⟩; refine ⟨.non,_,I.lset (its' := its ++ [u]) hH e (by simp) (r.append (.cons ru .nil)) ?_,rfl,q⟩; rw [List.length_append,List.length_singleton]; omega
def acd : V -> List V -> Hp -> VK -> Prop := fun x vs H Q => ∃ l b xs zs,x = .ref l /\ vs = [.ref b] /\ H l = some (.lst xs) /\ H b = some (.lst zs) /\ xs.length + zs.length <= sizeLine /\ Q .non (upd H l (.lst (xs ++ zs)))
theorem vE : MtM X "list.extend" acd := by
 intro pins s σ H x vs v us Q I rx rv h; obtain ⟨l,b,xs,zs,rfl,rfl,hH,hB,hz,q⟩ := h; cases rx; obtain ⟨u,rfl,ru⟩ := rv.one; cases ru; obtain ⟨z,its,n,r,hl,e⟩ := I.lstM hH; obtain ⟨z2,its2,n2,r2,hl2,e2⟩ := I.lstM hB; have hsz : its.toArray.size + its2.toArray.size <= sizeLine := by rw [List.size_toArray,List.size_toArray]; omega
 have hlong : ¬ (!its.toArray.isEmpty && Builtin.List.listTooLong (its.toArray.size + its2.toArray.size)) = true := by
  rw [wV hsz,Bool.and_false]; exact Bool.false_ne_true
 refine call_meets F.slot_list_extend ⟨_,e,rfl⟩ F.entry_list_extend (F.args_list_extend_2 _ _)
  (AutoSeq1.list_extend_list_list_0 l its.toArray n b its2.toArray n2 hlong (by rw [List.size_toArray]; omega) (by omega)) ⟨e,e2,?_⟩
 refine ⟨.non,_,I.lset (its' := its ++ its2) hH e (by simp) (r.append r2) ?_,rfl,q⟩; rw [List.length_append]; omega
def abk : V -> List V -> Hp -> VK -> Prop := fun x vs H Q => ∃ l xs,x = .ref l /\ vs = [] /\ H l = some (.lst xs) /\ Q .non (upd H l (.lst xs.reverse))
theorem zA : MtM X "list.reverse" abk := by
 intro pins s σ H x vs v us Q I rx rv h; obtain ⟨l,xs,rfl,rfl,hH,q⟩ := h; cases rx; have hus := rv.zero; subst hus; obtain ⟨z,its,n,r,hl,e⟩ := I.lstM hH; refine call_meets F.slot_list_reverse ⟨_,e,rfl⟩ F.entry_list_reverse (F.args_list_reverse_1 _) (AutoSeq1.list_reverse_list_0 l its.toArray n (by rw [List.size_toArray]; omega)) ⟨e,?_⟩; refine ⟨.non,_,I.lset (its' := its.reverse) hH e (by simp) r.reverse ?_,rfl,q⟩; rw [List.length_reverse]; omega
def adK : R2 := fun x y H Q => ∃ l b xs zs,x = .ref l /\ y = .ref b /\ H l = some (.lst xs) /\ H b = some (.lst zs) /\ xs.length + zs.length <= sizeLine /\ ∀ p,H p = none -> Q (.ref p) (upd H p (.lst (xs ++ zs)))
theorem iE : d8 X (binaryOp .Add) adK := by
 intro pins s σ H x y v u Q I rx ry h; obtain ⟨l,b,xs,zs,rfl,rfl,hH,hB,hz,q⟩ := h; cases rx; cases ry; obtain ⟨z,its,n,r,hl,e⟩ := I.lstM hH; obtain ⟨z2,its2,n2,r2,hl2,e2⟩ := I.lstM hB; refine PySem.P.add_list e e2 ?_ (by rw [List.size_toArray,List.size_toArray]; omega); have ea : its.toArray ++ its2.toArray = (its ++ its2).toArray := by simp
 rw [ea]; exact ⟨.ref _,_,I.lnew (t' := s.toks) (r.append r2) (by rw [List.length_append]; omega),rfl,q _ I.fresh⟩
def adJ : R2 := fun x y H Q => ∃ l k xs,x = .ref l /\ y = .int k /\ H l = some (.lst xs) /\ -(2 ^ 63) <= k /\ k < 2 ^ 63 /\ xs.length * k.toNat <= sizeLine ∧
 ∀ p,H p = none -> Q (.ref p) (upd H p (.lst (List.replicate k.toNat xs).flatten))
theorem abL {α : Type} (xs : List α) (k : Nat) : (List.replicate k xs).flatten.length = k * xs.length := by
 induction k with
 | zero => simp
 | succ k ih => rw [List.replicate_succ,List.flatten_cons,List.length_append,ih,Nat.succ_mul,Nat.add_comm]
theorem acE : d8 X (binaryOp .Mult) adJ := by
 intro pins s σ H x y v u Q I rx ry h; obtain ⟨l,k,xs,rfl,rfl,hH,h1,h2,hz,q⟩ := h; cases rx; obtain ⟨t,rfl⟩ := ry; obtain ⟨z,its,n,r,hl,e⟩ := I.lstM hH; have hlen : its.toArray.size * k.toNat <= sizeLine := by rw [List.size_toArray,← hl]; exact hz
 have hcap : ¬ its.toArray.size * k.toNat > (2 ^ 63 - 1) / 8 := by
  have : (sizeLine : Nat) <= (2 ^ 63 - 1) / 8 := by decide
  omega
 have hfit : ¬ (!Builtin.List.listFitsIndex k) = true := by
  rw [fitsIndex_both h1 h2]; exact Bool.false_ne_true
 have hlong : ¬ Builtin.List.listTooLong (its.toArray.size * k.toNat) = true := by
  rw [wV hlen]; exact Bool.false_ne_true
 have hnew : List.foldl (fun x1 x2 => x1 ++ x2) #[] (List.replicate (if its.toArray.isEmpty = true then 0 else k.toNat) its.toArray) = (List.replicate k.toNat its).flatten.toArray := by
  have f0 : ∀ m : Nat,List.foldl (fun x1 x2 => x1 ++ x2) #[] (List.replicate m its.toArray) = (List.replicate m its).flatten.toArray := fun m => by
   have := vK its m []; rw [List.nil_append] at this; exact this
  rw [f0]
  cases its with
  | nil => simp
  | cons a r' => rw [if_neg (by simp)]
 refine wpAny_binaryOp_repeat_ref (T := "list") (U := "int") (by decide) ⟨_,e,rfl⟩ (fun s' => typeIs_int s' k t) noFill_list_mul F.fills_int_mul F.slot_int_rmul repeat_list F.slot_int_index.lookup
  (call_meets F.slot_int_rmul (typeIs_int s k t) F.entry_int_rmul (F.args_int_rmul_2 _ _) (int___rmul___int_list k t l its.toArray n)
   ⟨e,rfl,⟨_,e,rfl⟩,call_meets F.slot_list_mul ⟨_,e,rfl⟩ F.entry_list_mul (F.args_list_mul_2 _ _) (AutoListH.list___mul___list_int_3 l its.toArray n k t hfit hcap hlong) ⟨e,?_⟩⟩)
 rw [hnew]; exact ⟨.ref _,_,I.lnew (t' := s.toks) (r.rep k.toNat) (by rw [abL,Nat.mul_comm]; exact hz),rfl,q _ I.fresh⟩
end
theorem aL.ints : ∀ {ns : List Int} {us : List Value},aL (ns.map V.int) us -> IntsAre us ns
 | [],us,h => by
  rw [List.map_nil] at h; cases h; exact IntsAre.nil
 | n :: ns,us,h => by
  rw [List.map_cons] at h
  cases h with
  | cons r t =>
   obtain ⟨k,rfl⟩ := r; exact IntsAre.cons n k (aL.ints t)
theorem qD : ∀ {us : List Value} {ns : List Int},IntsAre us ns -> aL (ns.map V.int) us
 | _,_,.nil => by rw [List.map_nil]; exact Paired.nil
 | _,_,.cons n t h => by rw [List.map_cons]; exact Paired.cons (show bu (V.int n) (Value.int n t) from ⟨t,rfl⟩) (qD h)
theorem aL.ref1 {a : Addr} {us : List Value} (r : aL [V.ref a] us) : us = [Value.ref a] := by
 cases r with
 | cons r t =>
  cases t; cases r; rfl
theorem aL.int2 {i j : Int} {us : List Value} (r : aL [V.int i,V.int j] us) : ∃ t u,us = [Value.int i t,Value.int j u] := by
 cases r with
 | cons r t =>
  cases t with
  | cons r2 t2 =>
   cases t2; obtain ⟨t,rfl⟩ := r; obtain ⟨u,rfl⟩ := r2; exact ⟨t,u,rfl⟩
mutual
inductive Dp (K : Fg) (H : Hp) : V -> PyData -> Prop
 | non : Dp K H .non .none
 | bl (b : Bool) : Dp K H (.bl b) (.bool b)
 | int (i : Int) : Dp K H (.int i) (.int i)
 | str (x : Str) : Dp K H (.str x) (.str x)
 | lst {a : Addr} {xs : List V} {ds : List PyData} : ag K H a xs -> oE K H xs ds -> Dp K H (.ref a) (.list ds)
 | tup {a : Addr} {xs : List V} {ds : List PyData} : cx K H a xs -> oE K H xs ds -> Dp K H (.ref a) (.tuple ds)
inductive oE (K : Fg) (H : Hp) : List V -> List PyData -> Prop
 | nil : oE K H [] []
 | cons {v : V} {vs : List V} {d : PyData} {ds : List PyData} : Dp K H v d -> oE K H vs ds -> oE K H (v :: vs) (d :: ds)
end
section
variable {X : Cx} {pins : List (Addr × Obj)} {σ : St} {H : Hp} {s : Shared}
mutual
theorem Dp.reads (I : ay X pins σ H s) : ∀ (d : PyData) (v : V) (u : Value),Dp X.K H v d -> bu v u -> ∃ as,Reads s.heap u d as
 | .none,_,_,h,r => by
  cases h; cases r; exact ⟨_,Reads.none⟩
 | .bool b,_,_,h,r => by
  cases h; cases r; exact ⟨_,Reads.bool b⟩
 | .int i,_,_,h,r => by
  cases h; obtain ⟨t,rfl⟩ := r; exact ⟨_,Reads.int i t⟩
 | .str x,_,_,h,r => by
  cases h; obtain ⟨t,rfl⟩ := r; exact ⟨_,Reads.str x t⟩
 | .list ds,_,_,h,r => by
  cases h with
  | lst hs ha =>
   cases r; obtain ⟨its,rv,⟨o,n,ho,hc,_,hd⟩,_⟩ := I.list hs; obtain ⟨as,hr⟩ := Dp.readsAll I ds _ its ha rv; exact ⟨_,Reads.list ho hc hd hr⟩
 | .tuple ds,_,_,h,r => by
  cases h with
  | tup hs ha =>
   cases r; obtain ⟨its,rv,⟨o,ho,hc,n,hd⟩,_⟩ := I.tuple hs; obtain ⟨as,hr⟩ := Dp.readsAll I ds _ its ha rv; exact ⟨_,Reads.tuple ho hc hd hr⟩
 | .dict _,_,_,h,_ => by cases h
theorem Dp.readsAll (I : ay X pins σ H s) : ∀ (ds : List PyData) (vs : List V) (us : List Value),oE X.K H vs ds -> aL vs us -> ∃ as,ReadsAll s.heap us ds as
 | [],_,_,h,r => by
  cases h; cases r; exact ⟨_,ReadsAll.nil⟩
 | d :: ds,_,_,h,r => by
  cases h with
  | cons h1 h2 =>
   cases r with
   | cons r1 r2 =>
    obtain ⟨as,q1⟩ := Dp.reads I d _ _ h1 r1; obtain ⟨bs,q2⟩ := Dp.readsAll I ds _ _ h2 r2; exact ⟨_,ReadsAll.cons q1 q2⟩
end
end
section
variable {X : Cx}
def aei (K : Fg) : R2 := fun x y H Q => ∃ d e,Dp K H x d /\ Dp K H y e /\ SeqAt.shaped d = true /\ SeqAt.shaped e = true /\ Q (.bl (PyData.eqv d e)) H
def adX (K : Fg) : R2 := fun x y H Q => ∃ d e,Dp K H x d /\ Dp K H y e /\ SeqAt.shaped d = true /\ SeqAt.shaped e = true /\ Q (.bl (!PyData.eqv d e)) H
theorem acx (hu : X.A.units + 64 < cLine) : d8 X (compareOp .Eq) (aei X.K) := by
 intro pins s σ H x y v u Q I rx ry h; obtain ⟨d,e,hd,he,sd,se,q⟩ := h; obtain ⟨as,r1⟩ := Dp.reads I d x v hd rx; obtain ⟨bs,r2⟩ := Dp.reads I e y u he ry; exact SeqAt.compareEq_shaped r1 r2 sd se hu ⟨.bl _,H,I,rfl,q⟩
theorem acC (hu : X.A.units + 64 < cLine) : d8 X (compareOp .NotEq) (adX X.K) := by
 intro pins s σ H x y v u Q I rx ry h; obtain ⟨d,e,hd,he,sd,se,q⟩ := h; obtain ⟨as,r1⟩ := Dp.reads I d x v hd rx; obtain ⟨bs,r2⟩ := Dp.reads I e y u he ry; exact SeqAt.compareNe_shaped r1 r2 sd se hu ⟨.bl _,H,I,rfl,q⟩
end
abbrev zV (h : Heap) (c : Addr) (v : Option Value) : Prop := h.IsCell c v
def adM (scope sc : Scope) : Scope :=
 { scope with names := scope.names.map fun (n,k) => if (k == .free && sc.kind == .function && sc.names.lookup n == some .cell) then (n,.cell) else (n,k) }
def bP (cells : List (Str × Addr)) : List (Str × NameKind) -> List (Str × Addr) -> List (Str × Addr)
 | [],acc => acc
 | (n,k) :: r,acc => if k == .free then bP cells r ((n,(cells.lookup n).getD 0) :: acc) else bP cells r acc
theorem pV (env : Env) (f : Str × NameKind -> List (Str × Addr) -> Sem (ForInStep (List (Str × Addr))))
  (hf : ∀ n k c,f (n,k) c = if k == .free then (do let a ← cellOf env n; pure (.yield ((n,a) :: c))) else pure (.yield c)) :
  ∀ (names : List (Str × NameKind)) (acc : List (Str × Addr)),(∀ y ∈ names,y.2 = .free -> ∃ c,env.cells.lookup y.1 = some c) -> forIn names acc f = pure (bP env.cells names acc)
 | [],acc,_ => by rw [List.forIn_nil]; rfl
 | (n,k) :: r,acc,h => by
  rw [List.forIn_cons,hf]; have ih := fun acc => pV env f hf r acc fun y hy => h y (List.mem_cons_of_mem _ hy)
  unfold bP
  by_cases hk : (k == NameKind.free) = true
  ·rw [if_pos hk,if_pos hk]; obtain ⟨c,hc⟩ := h (n,k) List.mem_cons_self (by simpa using hk); have e : cellOf env n = pure c := by unfold cellOf; rw [hc]
   rw [e]; have e2 : (env.cells.lookup n).getD 0 = c := by rw [hc]; rfl
   rw [e2]; exact ih _
  ·rw [if_neg hk,if_neg hk]; exact ih _
theorem zJ {scope : Scope} {env : Env} (h : ∀ y ∈ scope.names,y.2 = .free -> ∃ c,env.cells.lookup y.1 = some c) : closureFor scope env = pure (bP env.cells scope.names []) := by
 simp only [closureFor]; rw [pV env _ (fun n k c => rfl) scope.names [] h]; rfl
theorem oC {α : Type} : ∀ {l : List (Str × α)} {n : Str} {c : α},(n,c) ∈ l -> ∃ c',l.lookup n = some c'
 | (k,v) :: r,n,c,h => by
  rw [List.lookup_cons]
  cases hb : n == k with
  | true => exact ⟨_,rfl⟩
  | false =>
   rcases List.mem_cons.mp h with e | h
   ·cases e; simp at hb
   ·exact oC h
theorem jE {cells : List (Str × Addr)} : ∀ {names : List (Str × NameKind)} {acc : List (Str × Addr)} {n : Str} {c : Addr},(n,c) ∈ bP cells names acc -> (n,c) ∈ acc \/ ((n,.free) ∈ names /\ c = (cells.lookup n).getD 0)
 | [],_,_,_,h => .inl h
 | (m,k) :: r,acc,n,c,h => by
  unfold bP at h
  split at h
  ·rename_i hk; have hk : k = .free := by simpa using hk
   rcases jE h with h | ⟨h1,h2⟩
   ·rcases List.mem_cons.mp h with e | h
    ·cases e; exact .inr ⟨hk ▸ List.mem_cons_self,rfl⟩
    ·exact .inl h
   ·exact .inr ⟨List.mem_cons_of_mem _ h1,h2⟩
  ·rcases jE h with h | ⟨h1,h2⟩
   ·exact .inl h
   ·exact .inr ⟨List.mem_cons_of_mem _ h1,h2⟩
theorem nJ {cells : List (Str × Addr)} : ∀ {names : List (Str × NameKind)} {acc : List (Str × Addr)} {p : Str × Addr},p ∈ acc -> p ∈ bP cells names acc
 | [],_,_,h => h
 | (m,k) :: r,acc,p,h => by
  unfold bP
  split
  ·exact nJ (List.mem_cons_of_mem _ h)
  ·exact nJ h
theorem nw {cells : List (Str × Addr)} : ∀ {names : List (Str × NameKind)} {acc : List (Str × Addr)} {n : Str},(n,.free) ∈ names -> (n,(cells.lookup n).getD 0) ∈ bP cells names acc
 | (m,k) :: r,acc,n,h => by
  unfold bP
  rcases List.mem_cons.mp h with e | h
  ·cases e; exact nJ List.mem_cons_self
  ·split
   ·exact nw h
   ·exact nw h
theorem j5 : ∀ {names : List (Str × NameKind)} {h : Heap} {acc : List (Str × Addr)} {x : Str} {c : Addr},(x,c) ∈ cellsFrom h.objs.size names acc →
  (x,c) ∈ acc \/ ((x,.cell) ∈ names /\ h.objs.size <= c /\ zV (pushCells h names) c none)
 | [],_,_,_,_,h => .inl h
 | (n,k) :: r,h,acc,x,c,hm => by
  unfold cellsFrom at hm; unfold pushCells
  split at hm
  ·rename_i hk; rw [if_pos hk]; have hk : k = .cell := by simpa using hk
   rw [← Heap.size_push h { cls := .type "cell",data := .cell none }] at hm
   rcases j5 hm with hm | ⟨h1,h2,h3⟩
   ·rcases List.mem_cons.mp hm with e | hm
    ·cases e; exact .inr ⟨hk ▸ List.mem_cons_self,Nat.le_refl _,_,pushCells_keeps r _ _ _ (Heap.get?_push_size _ rfl),rfl⟩
    ·exact .inl hm
   ·rw [Heap.size_push] at h2; exact .inr ⟨List.mem_cons_of_mem _ h1,Nat.le_of_succ_le h2,h3⟩
  ·rename_i hk; rw [if_neg hk]
   rcases j5 hm with hm | ⟨h1,h2,h3⟩
   ·exact .inl hm
   ·exact .inr ⟨List.mem_cons_of_mem _ h1,h2,h3⟩
theorem mo : ∀ {names : List (Str × NameKind)} {n : Nat} {acc : List (Str × Addr)} {p : Str × Addr},p ∈ acc -> p ∈ cellsFrom n names acc
 | [],_,_,_,h => h
 | (m,k) :: r,n,acc,p,h => by
  unfold cellsFrom
  split
  ·exact mo (List.mem_cons_of_mem _ h)
  ·exact mo h
theorem qo : ∀ {names : List (Str × NameKind)} {n : Nat} {acc : List (Str × Addr)} {x : Str},(x,.cell) ∈ names -> ∃ c,(x,c) ∈ cellsFrom n names acc
 | (m,k) :: r,n,acc,x,h => by
  unfold cellsFrom
  rcases List.mem_cons.mp h with e | h
  ·cases e; exact ⟨n,mo List.mem_cons_self⟩
  ·split
   ·exact qo h
   ·exact qo h
theorem qe : ∀ {names : List (Str × NameKind)} {h : Heap} {acc : List (Str × Addr)} {x y : Str} {c : Addr},(∀ p ∈ acc,p.2 < h.objs.size) -> (∀ x y c,(x,c) ∈ acc -> (y,c) ∈ acc -> x = y) →
  (x,c) ∈ cellsFrom h.objs.size names acc -> (y,c) ∈ cellsFrom h.objs.size names acc -> x = y
 | [],_,_,_,_,_,_,hi,h1,h2 => hi _ _ _ h1 h2
 | (n,k) :: r,h,acc,x,y,c,hl,hi,h1,h2 => by
  unfold cellsFrom at h1 h2
  split at h1
  ·rename_i hk; rw [if_pos hk] at h2; rw [← Heap.size_push h { cls := .type "cell",data := .cell none }] at h1 h2; refine qe (h := h.push _) (fun p hp => ?_) (fun x y c a b => ?_) h1 h2
   ·rw [Heap.size_push]
    rcases List.mem_cons.mp hp with rfl | hp
    ·exact Nat.lt_succ_self _
    ·exact Nat.lt_succ_of_lt (hl p hp)
   ·rcases List.mem_cons.mp a with e | a <;> rcases List.mem_cons.mp b with e' | b
    ·cases e; cases e'; rfl
    ·cases e; exact absurd (hl _ b) (Nat.lt_irrefl _)
    ·cases e'; exact absurd (hl _ a) (Nat.lt_irrefl _)
    ·exact hi _ _ _ a b
  ·rename_i hk; rw [if_neg hk] at h2; exact qe hl hi h1 h2
theorem xI {M : Model} {A : Around} {E : Value -> Shared -> Prop} {s : Shared} {scope : Scope} {globals : Addr} {closure : List (Str × Addr)} {qual : Str} {func : Option Addr} {code : Value} {around : Env} {builtins : Addr} {Q : Env -> Shared -> Prop}
  (h : Q (newEnv scope s.heap.objs.size globals (cellsFrom (s.heap.objs.size + 1) scope.names closure) qual func code (some around) builtins)
   { s with heap := pushCells (s.heap.push { cls := .type "dict",data := .dict #[] }) scope.names }) :
  wpAny M A (newFunctionEnv scope globals closure [] qual func code (some around) builtins) Q E s := by
 simp only [newFunctionEnv,Option.isSome_some,if_true]; refine wpAny_bind (wpAny_alloc ?_); refine wpAny_bind (wpAny_layCells _ (fun n k c => rfl) scope.names closure _ _ ?_); rw [show ({ s with heap := s.heap.push { cls := .type "dict",data := .dict #[] } } : Shared).heap.objs.size = s.heap.objs.size + 1 from Heap.size_push ..]; rw [List.forIn_nil]; exact wpAny_bind (wpAny_pure (wpAny_pure h))
theorem mJ {sc : Scope} : ∀ {names : List (Str × NameKind)} {x : Str} {k : NameKind},
  (names.map fun (n,k) => if (k == NameKind.free && sc.kind == .function && sc.names.lookup n == some .cell) then (n,NameKind.cell) else (n,k)).lookup x = some k →
  ∃ k',names.lookup x = some k' /\ (k = k' \/ (k' = .free /\ k = .cell))
 | [],_,_,h => by simp at h
 | (n,k₀) :: r,x,k,h => by
  have ih := @mJ sc r x k; have h' : List.lookup x ((if (k₀ == NameKind.free && sc.kind == .function && sc.names.lookup n == some .cell) = true then (n,NameKind.cell) else (n,k₀)) :: (r.map _)) = some k := h
  cases hx : x == n with
  | true =>
   simp only [List.lookup_cons,hx]
   by_cases hc : (k₀ == NameKind.free && sc.kind == .function && sc.names.lookup n == some .cell) = true
   ·rw [if_pos hc] at h'; simp only [List.lookup_cons,hx] at h'; cases h'; simp only [Bool.and_eq_true,beq_iff_eq] at hc; exact ⟨k₀,rfl,.inr ⟨hc.1.1,rfl⟩⟩
   ·rw [if_neg hc] at h'; simp only [List.lookup_cons,hx] at h'; cases h'; exact ⟨_,rfl,.inl rfl⟩
  | false =>
   simp only [List.lookup_cons,hx]
   by_cases hc : (k₀ == NameKind.free && sc.kind == .function && sc.names.lookup n == some .cell) = true
   ·rw [if_pos hc] at h'; simp only [List.lookup_cons,hx] at h'; exact ih h'
   ·rw [if_neg hc] at h'; simp only [List.lookup_cons,hx] at h'; exact ih h'
structure tw (N : List Str) (sc scope : Scope) (own : List (Str × Nat)) : Prop where
 kind : scope.kind = .function
 uniq : ∀ y ∈ scope.names,scope.names.lookup y.1 = some y.2
 ix : ∀ p ∈ own,N[p.2]? = some p.1
 free : ∀ y ∈ scope.names,y.2 = .free -> sc.names.lookup y.1 = some .cell \/ sc.names.lookup y.1 = some .free
 own : ∀ y ∈ scope.names,y.2 = .local \/ y.2 = .cell -> y.1 ∈ own.map (·.1) \/ y.1 ∉ N
def bI (σ : St) : List Nat -> St
 | [] => σ
 | v :: vs => (bI σ vs).set v none
theorem nH (σ : St) : ∀ vs : List Nat,(bI σ vs).length = σ.length
 | [] => rfl
 | v :: vs => by unfold bI; rw [List.length_set,nH σ vs]
theorem qI {σ : St} {i : Nat} {x : V} : ∀ {vs : List Nat},(bI σ vs)[i]? = some (some x) -> σ[i]? = some (some x) /\ i ∉ vs
 | [],h => ⟨h,by simp⟩
 | v :: vs,h => by
  unfold bI at h
  by_cases hi : v = i
  ·subst hi
   by_cases hv : v < (bI σ vs).length
   ·rw [List.getElem?_set_self hv] at h; cases h
   ·rw [List.getElem?_eq_none (by simpa using hv)] at h; cases h
  ·rw [List.getElem?_set_ne hi] at h; obtain ⟨h1,h2⟩ := qI h; exact ⟨h1,by simp only [List.mem_cons,not_or]; exact ⟨fun e => hi e.symm,h2⟩⟩
abbrev Cx.blk (X : Cx) (s : Shared) (H : Hp) (scope : Scope) (cenv : Env) (fp : List Addr) : Cx := { X with s_0 := s,H_0 := H,env := cenv,outer := X.stack,ex := fp,fn := fun x => scope.names.lookup x == some .cell,pn := [],xe := fun _ _ => False }
section
variable {X : Cx} {pins : List (Addr × Obj)} {σ : St} {H : Hp} {s : Shared}
theorem xC {scope : Scope} {own : List (Str × Nat)} {fp : List Addr} (I : ay X pins σ H s) (ok : tw X.N X.env.scope scope own) (hN : X.N.Nodup) (hfp : ∀ b ∈ fp,kb X pins H b /\ b < s.heap.objs.size) :
  ay (X.blk s H scope (compEnvC scope (cellsFrom (s.heap.objs.size + 1) scope.names (bP X.env.cells scope.names [])) s.heap.objs.size X.env) fp) [] (bI σ (own.map (·.2))) H { s with heap := pushCells (s.heap.push { cls := .type "dict",data := .dict #[] }) scope.names } := by
 have hfree : ∀ y ∈ scope.names,y.2 = .free -> ∃ c,X.env.cells.lookup y.1 = some c := fun y hy e => by
  rcases ok.free y hy e with k | k
  ·exact I.ok.has _ (.inl k)
  ·exact I.ok.has _ (.inr k)
 generalize hcenv : compEnvC scope (cellsFrom (s.heap.objs.size + 1) scope.names (bP X.env.cells scope.names [])) s.heap.objs.size X.env = cenv; have kp : ∀ b o,s.heap.get? b = some o -> (pushCells (s.heap.push { cls := .type "dict",data := .dict #[] }) scope.names).get? b = some o := fun b o e => pushCells_keeps _ _ _ _ (Heap.get?_push_of_some _ e)
 have hL : cenv.locals = s.heap.objs.size := by rw [← hcenv]; rfl
 have hcl : cenv.cells = cellsFrom (s.heap.objs.size + 1) scope.names (bP X.env.cells scope.names []) := by rw [← hcenv]; rfl
 have hsc : cenv.scope = adM scope X.env.scope := by rw [← hcenv]; rfl
 rw [← Heap.size_push s.heap { cls := .type "dict",data := .dict #[] }] at hcl
 have cm : ∀ {y c},(y,c) ∈ bP X.env.cells scope.names [] -> X.env.cells.lookup y = some c /\ c < s.heap.objs.size := fun {y c} hm => by
  rcases jE hm with hm | ⟨h1,rfl⟩
  ·cases hm
  ·obtain ⟨c,hc⟩ := hfree _ h1 rfl; rw [hc]; obtain ⟨w,z⟩ := I.cell _ _ hc; exact ⟨rfl,z.lt⟩
 have mem : ∀ {y c},cenv.cells.lookup y = some c -> (X.env.cells.lookup y = some c /\ c < s.heap.objs.size) \/ (s.heap.objs.size + 1 <= c /\ zV (pushCells (s.heap.push { cls := .type "dict",data := .dict #[] }) scope.names) c none) := fun {y c} e => by
  rw [hcl] at e
  rcases j5 (PySem.mem_of_lookup e) with hm | ⟨_,h2,h3⟩
  ·exact .inl (cm hm)
  ·rw [Heap.size_push] at h2; exact .inr ⟨h2,h3⟩
 have look : ∀ {y},scope.names.lookup y = some .free -> ∃ c,cenv.cells.lookup y = some c /\ X.env.cells.lookup y = some c := fun {y} hl => by
  have hy : (y,NameKind.free) ∈ scope.names := PySem.mem_of_lookup hl; obtain ⟨c',e'⟩ := oC (mo (names := scope.names) (n := (s.heap.push { cls := .type "dict",data := .dict #[] }).objs.size) (nw (cells := X.env.cells) (acc := []) hy)); rw [← hcl] at e'; refine ⟨c',e',?_⟩; rw [hcl] at e'
  rcases j5 (PySem.mem_of_lookup e') with hm | ⟨h1,_,_⟩
  ·exact (cm hm).1
  ·have := ok.uniq _ h1; rw [hl] at this; cases this
 have okB : (X.blk s H scope cenv fp).Ok := by
  refine ⟨I.ok.mod,by show cenv.scope.kind = _; rw [hsc]; exact ok.kind,by show cenv.globals = _; rw [← hcenv]; exact I.ok.glob,by show cenv.builtins = _; rw [← hcenv]; exact I.ok.blt,by show s.heap.objs.size <= cenv.locals; rw [hL]; exact Nat.le_refl _,
   fun y z c e1 e2 => ?_,fun y hy => ?_,fun y c z e => ?_,I.ok.hd,I.ok.frames,.inl rfl,fun b hb => ⟨?_,fun y c e z => ?_⟩,I.bs,Nat.le_trans I.ok.bsz I.sz,fun b o e hb => ?_,fun b hb z => ?_,I.stack,I.stkFree⟩
  ·have e1 : cenv.cells.lookup y = some c := e1; have e2 : cenv.cells.lookup z = some c := e2; rw [hcl] at e1 e2; refine qe (fun p hp => ?_) (fun y z c a b => I.ok.inj y z c (cm a).1 (cm b).1) (PySem.mem_of_lookup e1) (PySem.mem_of_lookup e2); rw [Heap.size_push]; exact Nat.lt_succ_of_lt (cm (y := p.1) (c := p.2) hp).2
  ·show ∃ c,cenv.cells.lookup y = some c
   have key : ∀ k,cenv.kindOf y = some k -> (k = .cell \/ k = .free) -> ∃ c,cenv.cells.lookup y = some c := fun k hk hk' => by
    unfold Env.kindOf at hk; rw [hsc] at hk; obtain ⟨k',e,r⟩ := mJ hk
    have : k' = .cell \/ k' = .free := by
     rcases r with rfl | ⟨rfl,_⟩
     ·exact hk'
     ·exact .inr rfl
    rcases this with rfl | rfl
    ·obtain ⟨c,hm⟩ := qo (n := (s.heap.push { cls := .type "dict",data := .dict #[] }).objs.size) (acc := bP X.env.cells scope.names []) (PySem.mem_of_lookup e); obtain ⟨c',e'⟩ := oC hm; exact ⟨c',by rw [hcl]; exact e'⟩
    ·obtain ⟨c,h1,_⟩ := look e; exact ⟨c,h1⟩
   rcases hy with hy | hy
   ·exact key _ hy (.inl rfl)
   ·exact key _ hy (.inr rfl)
  ·have z : (scope.names.lookup y == some NameKind.cell) = true := z; have z : scope.names.lookup y = some .cell := by simpa using z
   have e : cenv.cells.lookup y = some c := e; rw [hcl] at e
   rcases j5 (PySem.mem_of_lookup e) with hm | ⟨_,h2,_⟩
   ·rcases jE hm with hm | ⟨h1,_⟩
    ·cases hm
    ·have q := ok.uniq _ h1; rw [z] at q; cases q
   ·rw [Heap.size_push] at h2; exact Nat.le_of_succ_le h2
  ·show b ≠ cenv.locals; rw [hL]; exact Nat.ne_of_lt (hfp b hb).2
  ·have e : cenv.cells.lookup y = some c := e
   rcases mem e with ⟨h1,_⟩ | ⟨h1,_⟩
   ·exact (hfp b hb).1.2.2.2.2.1 y c h1 z
   ·have h2 : s.heap.objs.size + 1 <= b := by rw [← z]; exact h1
    exact absurd (Nat.lt_of_lt_of_le (hfp b hb).2 (Nat.le_of_succ_le h2)) (Nat.lt_irrefl _)
  ·rcases (hfp b hb).1.2.2.2.1 with z | z
   ·exact I.ok.noex b o e z
   ·exact absurd (Nat.lt_of_lt_of_le (Heap.lt_size e) (Nat.le_trans I.ok.bsz z)) (Nat.lt_irrefl _)
  ·rcases List.mem_cons.mp (I.stkSub b z) with z | z
   ·exact (hfp b hb).1.2.1 z
   ·exact (hfp b hb).1.2.2.1 z
 refine ⟨okB,rfl,I.bare,Un.kept kp,⟨fun _ => none,?_,fun i y av e1 e2 e3 => ?_⟩,fun y c e => ?_,?_,fun y c e => ?_,fun p hp => ?_,I.hok.kept kp,by rw [nH]; exact I.len⟩
 ·show Heap.Ns _ cenv.locals _; rw [hL]; exact Heap.Ns.keeps (Heap.Ns.new ..) fun b o e => pushCells_keeps _ _ _ _ e
 ·obtain ⟨e2,hne⟩ := qI e2
  have hfr : scope.names.lookup y = some .free /\ (cenv.kindOf y = some .cell \/ cenv.kindOf y = some .free) := by
   have key : ∀ k,cenv.scope.names.lookup y = some k -> k = .local \/ k = .cell \/ k = .free -> scope.names.lookup y = some .free /\ (cenv.kindOf y = some .cell \/ cenv.kindOf y = some .free) := fun k hk hk' => by
    have hk0 := hk; rw [hsc] at hk; obtain ⟨k',e,r⟩ := mJ hk
    have no : ¬ (k' = .local \/ k' = .cell) := fun hh => by
     rcases ok.own _ (PySem.mem_of_lookup e) hh with e' | e'
     ·obtain ⟨p,hp,hpy⟩ := List.mem_map.mp e'; have e3 := ok.ix p hp; have : p.1 = y := hpy; rw [this] at e3; exact hne (List.mem_map.mpr ⟨p,hp,sH hN e3 e1⟩)
     ·exact e' (List.mem_of_getElem? e1)
    rcases r with rfl | ⟨rfl,rfl⟩
    ·rcases hk' with rfl | rfl | rfl
     ·exact absurd (.inl rfl) no
     ·exact absurd (.inr rfl) no
     ·exact ⟨e,.inr hk0⟩
    ·exact ⟨e,.inl hk0⟩
   have e3 : zS cenv.scope y := e3
   rcases e3 with e3 | e3 | e3
   ·exact key _ e3 (.inl rfl)
   ·exact key _ e3 (.inr (.inl rfl))
   ·exact key _ e3 (.inr (.inr rfl))
  obtain ⟨m,hn,hl⟩ := I.loc; have hvis : zS X.env.scope y := (ok.free _ (PySem.mem_of_lookup hfr.1) rfl).elim (fun k => .inr (.inl k)) (fun k => .inr (.inr k)); obtain ⟨w,r,q⟩ := hl i y av e1 e2 hvis; refine ⟨w,r,.inr ⟨hfr.2,?_⟩⟩; obtain ⟨c,h1,h2⟩ := look hfr.1
  rcases q with ⟨k,_⟩ | ⟨_,c',e',z⟩
  ·have k : X.env.scope.names.lookup y = some .local := k
   rcases ok.free _ (PySem.mem_of_lookup hfr.1) rfl with k' | k' <;> rw [show X.env.scope.names.lookup y = _ from k'] at k <;> cases k
  ·rw [h2] at e'; cases e'; exact ⟨c,h1,z.keeps kp⟩
 ·have e : cenv.cells.lookup y = some c := e
  rcases mem e with ⟨h1,_⟩ | ⟨_,z⟩
  ·obtain ⟨w,z⟩ := I.cell y c h1; exact ⟨w,z.keeps kp⟩
  ·exact ⟨_,z⟩
 ·show H cenv.locals = none; rw [hL]; exact I.hok.fresh (Nat.le_refl _)
 ·have e : cenv.cells.lookup y = some c := e
  rcases mem e with ⟨h1,_⟩ | ⟨h1,_⟩
  ·exact I.freeC y c h1
  ·exact I.hok.fresh (Nat.le_of_succ_le h1)
 ·exact absurd (show p ∈ ([] : List (Addr × Obj)) ++ [] from hp) (by simp)
theorem acG {E : Value -> Shared -> Prop} {D : Addr} {xs : List V} {y : V} {v : Value} {Q : Value -> Shared -> Prop} (I : ay X pins σ H s) (hD : H D = some (.lst xs)) (hz : xs.length < sizeLine) (r : bu y v)
  (h : ∀ s',ay X pins σ (upd H D (.lst (xs ++ [y]))) s' -> Q .none s') : wpAny (model X.prog X.w) X.A (call (.builtin "list.append") [.ref D,v]) Q E s := by
 obtain ⟨hz',its,n,ri,e⟩ := I.hok D _ hD; have hl := ri.length; refine append_at (hsz := by rw [List.size_toArray]; omega) e fun h' sb ho' => ?_
 refine h { s with heap := h' } (I.write (t' := s.toks) (by rw [hD]; trivial) (.inl rfl) (fun b u hb q => (sb.2 b hb).trans q) ⟨_,ho'⟩ ⟨by rw [List.length_append]; exact hz,its ++ [v],n + 1,ri.append (.cons r .nil),?_⟩); rw [ho']
 simp
def PTs (X : Cx) (ifs : List Expr) (t : TT) : Prop :=
 ∀ (pins : List (Addr × Obj)) (s : Shared) (σ : St) (H : Hp) (Q : Bool -> Hp -> Prop),ay X pins σ H s -> t σ H Q →
  wpAny (model X.prog X.w) X.A (forIn ifs true fun c r => if r = true then do let ok ← isTrue c X.env (eval c X.env); pure (ForInStep.yield ok) else pure (ForInStep.yield r)) (TP X pins σ Q) X.xe s
def xz : TT := fun _ H Q => Q true H
theorem br : PTs X [] xz := fun _ _ _ H _ I h => wpAny_tests_nil ⟨H,I,h⟩
theorem abJ {c : Expr} {t : TT} (h : PT X c t) : PTs X [c] t := fun pins s σ H Q I hw => wpAny_tests_one (h pins s σ H Q I hw)
end
theorem uv {α : Type} {t : Sem α} {Q Q' : α -> Shared -> Prop} {M : Model} {A : Around} {E : Value -> Shared -> Prop} {s : Shared} (h : wpAny M A t Q (fun _ _ => False) s) (hQ : ∀ a s,Q a s -> Q' a s) : wpAny M A t Q' E s := wpAny_mono h hQ fun _ _ z => False.elim z
theorem wX {prog : Program} {w : World} {A : Around} {R : Result -> Shared -> Prop} {s : Shared} {elt target iter : Expr} {ifs : List Expr} {scope : Scope} {pos : Pos} {it acc : Value} {env : Env} (I : Nat -> Shared -> Prop)
  (turn : ∀ n s,I n s -> wpAny (model prog w) A (pyNext it) (fun r s₁ => match r with
   | none => R (.ok .next) s₁
   | some v => wpAny (model prog w) A (letOwnedTupleGo target it v) (fun _ s₁' => wpAny (model prog w) A (assign target env v) (fun _ s₂ =>
     wpAny (model prog w) A (forIn ifs true fun c r => if r = true then do let ok ← isTrue c env (eval c env); pure (ForInStep.yield ok) else pure (ForInStep.yield r)) (fun ok s₃ =>
      if ok = true then wpAny (model prog w) A (eval elt env) (fun x s₄ =>
       wpAny (model prog w) A (call (.builtin "list.append") [acc,x]) (fun _ s₅ => ∃ m,m < n /\ I m s₅) (notedBy (model prog w) A env fun e s' => R (.error e) s') s₄) (notedBy (model prog w) A env fun e s' => R (.error e) s') s₃
      else ∃ m,m < n /\ I m s₃) (notedBy (model prog w) A env fun e s' => R (.error e) s') s₂) (notedBy (model prog w) A env fun e s' => R (.error e) s') s₁') (notedBy (model prog w) A env fun e s' => R (.error e) s') s₁) (notedBy (model prog w) A env fun e s' => R (.error e) s') s)
  (n : Nat) (h : I n s) :
  codeAny (model prog w) A (.compLoop (.ListComp elt [⟨target,iter,ifs,0⟩] scope pos) 0 it acc env) R s := by
 refine codeAny_loop rfl I (fun n s hI => ?_) n h; show wpAny _ A ((compTurn (.ListComp elt [⟨target,iter,ifs,0⟩] scope pos) 0 it acc env).onRaise (fun x => do noteFrame x env; theTreesLotGoes x)) _ _ s; refine wpAny_noted ?_; rw [compTurn_list]; refine wpAny_bind (wpAny_standAt (wpAny_bind (wpAny_mono (turn n s hI) (fun r s₁ h₁ => ?_) fun _ _ h' => h')))
 cases r with
 | none => exact wpAny_pure h₁
 | some v =>
  refine wpAny_bind (wpAny_mono h₁ (fun _ s₁' h₁' => ?_) fun _ _ h' => h'); refine wpAny_bind (wpAny_mono h₁' (fun _ s₂ h₂ => wpAny_bind (wpAny_mono h₂ (fun ok s₃ h₃ => ?_) fun _ _ h' => h')) fun _ _ h' => h')
  cases ok with
  | false => exact wpAny_pure ⟨rfl,h₃⟩
  | true =>
   exact wpAny_bind (wpAny_bind (wpAny_mono h₃ (fun x s₄ h₄ => wpAny_bind (wpAny_mono h₄ (fun _ s₅ h₅ => wpAny_pure (wpAny_pure ⟨rfl,h₅⟩)) fun _ _ h' => h')) fun _ _ h' => h'))
section
variable {X : Cx}
def tLc (wi : TI) (g : TG) (tt : TT) (te : TE) (vs : List Nat) : TE := fun σ H Q => wi σ H fun J H1 => ∀ D,H1 D = none -> ∃ W : Nat -> Nat -> Hp -> Prop,(∃ m,W 0 m (upd H1 D (.lst []))) /\ ∀ i m H,W i m H →
 (J.stop i H /\ Q (.ref D) H) \/ (J.go i H /\ ∃ Nx : Hp -> Prop,(∀ H',Nx H' -> ∃ m',m' < m /\ W (i + 1) m' H') /\ ∀ x H',J.yld i H x H' -> g x (bI σ vs) H' fun σ2 H2 => bI σ2 vs = bI σ vs /\ tt σ2 H2 fun b H3 =>
  if b = true then te σ2 H3 fun y H4 => ∃ acc,H4 D = some (.lst acc) /\ acc.length < sizeLine /\ Nx (upd H4 D (.lst (acc ++ [y]))) else Nx H3)
theorem yt {pins : List (Addr × Obj)} {s : Shared} {σ : St} {H : Hp} {Q : VK} {elt tg iter : Expr} {ifs : List Expr} {scope : Scope} {own : List (Str × Nat)} {pos pos' : Pos} {wi : TI} {g : TG} {tt : TT} {te : TE} {use : Option (Value -> Sem Unit)} {Qf : Value -> Shared -> Prop}
  (hc : X.calm = true) (hN : X.N.Nodup) (I : ay X pins σ H s) (hi : PI X tg iter wi) (ok : tw X.N X.env.scope scope own)
  (hg : ∀ (s : Shared) (H : Hp) (C : Addr) (cl : List (Str × Addr)) (fp : List Addr),PG (X.blk s H scope (compEnvC scope cl C X.env) fp) tg g) (ht : ∀ (s : Shared) (H : Hp) (C : Addr) (cl : List (Str × Addr)) (fp : List Addr),PTs (X.blk s H scope (compEnvC scope cl C X.env) fp) ifs tt)
  (he : ∀ (s : Shared) (H : Hp) (C : Addr) (cl : List (Str × Addr)) (fp : List Addr),PE (X.blk s H scope (compEnvC scope cl C X.env) fp) elt te) (hs : ∀ x,foldedSetIterable iter X.env x = pure x)
  (h : tLc wi g tt te (own.map (·.2)) σ H Q)
  (hRR : ∀ D C s' m H',ay X pins σ H' s' -> Q (.ref D) H' -> s'.heap.Ns C m -> kb X pins H' C -> compPost (model X.prog X.w) X.A X.xe use Qf (.ref D) C (.ok .next) s') :
  wpAny (model X.prog X.w) X.A (comprehension (.ListComp elt [⟨tg,iter,ifs,0⟩] scope pos) scope X.env pos' (newList []) false (eval iter X.env) use) Qf X.xe s := by
 have hfree : ∀ y ∈ scope.names,y.2 = .free -> ∃ c,X.env.cells.lookup y.1 = some c := fun y hy e => by
  rcases ok.free y hy e with k | k
  ·exact I.ok.has _ (.inl k)
  ·exact I.ok.has _ (.inr k)
 refine wpAny_comprehension_free (use := use) rfl hs (zJ hfree) ok.kind (fun y hy e => by rw [ok.uniq y hy,e])
  (bo (hi pins s σ H _ I h) fun xv s1 hx => bo hx fun itv s2 h2 => ?_)
 obtain ⟨it,fp,tn,J,H2,e,I2,T,st2,f2,q⟩ := h2; subst e; refine wpAny_newObj_type (xI ?_) (by show 0 <= sizeLine; decide); generalize hD : s2.heap.objs.size = D; have hDn : H2 D = none := I2.hok.fresh (Nat.le_of_eq hD); obtain ⟨W,⟨m0,w0⟩,turn⟩ := q D hDn; generalize hs3 : ({ s2 with heap := s2.heap.push { cls := .type "list",data := .seq ([] : List Value).toArray } } : Shared) = s3
 have I3 : ay X pins σ (upd H2 D (.lst [])) s3 := by
  rw [← hs3]; refine I2.laid (t' := s2.toks) (fun b o e => Heap.get?_push_of_some _ e) (Nat.le_of_eq hD) ⟨Nat.zero_le _,[],0,.nil,?_⟩; rw [← hD]; exact Heap.get?_push_size _ rfl
 have h3 : s3.heap = s2.heap.push { cls := .type "list",data := .seq ([] : List Value).toArray } := by rw [← hs3]
 have sz : ∀ b ∈ fp,b < s2.heap.objs.size := fun b hb => by
  obtain ⟨o,e,_⟩ := T.obj _ _ st2 b hb; exact Heap.lt_size e
 have f3 : ∀ b ∈ fp,kb X pins (upd H2 D (.lst [])) b /\ b < s3.heap.objs.size := fun b hb => by
  have hlt := sz b hb; refine ⟨⟨?_,(f2 b hb).2⟩,by rw [h3,Heap.size_push]; exact Nat.lt_succ_of_lt hlt⟩; rw [aK (by rw [← hD]; exact Nat.ne_of_lt hlt)]; exact (f2 b hb).1
 have st3 : tn 0 s3.heap := T.keep _ _ _ st2 fun b _ o e => by rw [h3]; exact Heap.get?_push_of_some _ e
 have I4 := xC I3 ok hN f3; have pg := hg s3 (upd H2 D (.lst [])) s3.heap.objs.size (cellsFrom (s3.heap.objs.size + 1) scope.names (bP X.env.cells scope.names [])) fp; have pt := ht s3 (upd H2 D (.lst [])) s3.heap.objs.size (cellsFrom (s3.heap.objs.size + 1) scope.names (bP X.env.cells scope.names [])) fp; have pe := he s3 (upd H2 D (.lst [])) s3.heap.objs.size (cellsFrom (s3.heap.objs.size + 1) scope.names (bP X.env.cells scope.names [])) fp; show codeAny _ _ (.compStart (.ListComp elt [⟨tg,iter,ifs,0⟩] scope pos) 0 (.ref it) (.ref D) (compEnvC scope (cellsFrom (s3.heap.objs.size + 1) scope.names (bP X.env.cells scope.names [])) s3.heap.objs.size X.env)) (compPost (model X.prog X.w) X.A X.xe use Qf (.ref D) s3.heap.objs.size) { s3 with heap := pushCells (s3.heap.push { cls := .type "dict",data := .dict #[] }) scope.names }; have nfp : ∀ b ∈ fp,(upd H2 D (.lst [])) b = none := fun b hb => (f3 b hb).1.1
 generalize hce : compEnvC scope (cellsFrom (s3.heap.objs.size + 1) scope.names (bP X.env.cells scope.names [])) s3.heap.objs.size X.env = ce at I4 pg pt pe ⊢; have cL : ce.locals = s3.heap.objs.size := by subst hce; rfl
 generalize hH3 : upd H2 D (.lst []) = H3 at I3 I4 pg pt pe w0 nfp f3; generalize hs4 : ({ s3 with heap := pushCells (s3.heap.push { cls := .type "dict",data := .dict #[] }) scope.names } : Shared) = s4 at I4 ⊢; have st4 : tn 0 s4.heap := T.keep _ _ _ st3 fun b _ o e => by rw [← hs4]; exact pushCells_keeps _ _ _ _ (Heap.get?_push_of_some _ e)
 have stat : ∀ {σ' : St} {H' : Hp} {s' : Shared},ay (X.blk s3 H3 scope ce fp) [] σ' H' s' -> (∀ b ∈ fp,H' b = none) -> ∀ b ∈ fp,kb (X.blk s3 H3 scope ce fp) [] H' b := fun {σ' H' s'} I' hn b hb =>
  ⟨hn b hb,(I'.ok.exf b hb).1,I'.ok.exfs b hb,.inl hb,fun x c e => (I'.ok.exf b hb).2 x c e,fun p hp => absurd (show p ∈ ([] : List (Addr × Obj)) ++ [] from hp) (by simp)⟩
 have loop : codeAny (model X.prog X.w) X.A (.compLoop (.ListComp elt [⟨tg,iter,ifs,0⟩] scope pos) 0 (.ref it) (.ref D) ce) (compPost (model X.prog X.w) X.A X.xe use Qf (.ref D) s3.heap.objs.size) s4 := by
  refine wX (fun n s' => ∃ i H',ay (X.blk s3 H3 scope ce fp) [] (bI σ (own.map (·.2))) H' s' /\ tn i s'.heap /\ (∀ b ∈ fp,H' b = none) /\ W i n H') ?_ m0 ⟨0,H3,I4,st4,nfp,w0⟩; rintro n s5 ⟨i,H5,I5,st5,n5,w5⟩
  rcases turn i n H5 w5 with ⟨stop,qq⟩ | ⟨go,Nx,hNx,step⟩
  ·have td := T.done (X.blk s3 H3 scope ce fp) rfl rfl rfl hc i [] s5 _ H5 (fun _ _ => False) I5 (stat I5 n5) st5 stop; refine uv td fun r s6 ⟨hr,I6⟩ => ?_
   subst hr; have I7 : ay X pins σ H5 s6 := I3.call' (ch := fp) I6.os I6.base I6.hok I6.bare fun b hb => ⟨(f3 b hb).1.2.2.2.1,(f3 b hb).1.2.1,(f3 b hb).1.2.2.2.2.1,(f3 b hb).1.2.2.2.2.2⟩
   have nC : H5 s3.heap.objs.size = none := by
    have z : H5 ce.locals = none := I6.free; rw [cL] at z; exact z
   obtain ⟨m,hn,_⟩ := I6.loc; have hn : s6.heap.Ns ce.locals m := hn; rw [cL] at hn; exact hRR D s3.heap.objs.size s6 m H5 I7 qq hn (I3.fpOk (Nat.le_refl _) nC)
  ·have ti := T.item (X.blk s3 H3 scope ce fp) rfl rfl rfl hc i [] s5 _ H5 (fun _ _ => False) I5 (stat I5 n5) st5 go; refine uv ti fun r s6 ⟨u,hr,h6⟩ => ?_
   subst hr; refine uv h6 fun _ s7 ⟨x,H7,I7,r7,y7,st7,n7⟩ => ?_
   have I7' := I7.pinned (stat I7 n7) (T.obj _ _ st7); refine uv (pg _ s7 _ H7 x u _ I7' r7 (step x H7 y7)) fun _ s8 ⟨σ8,H8,I8,hw8,q8⟩ => ?_
   refine uv (pt _ s8 σ8 H8 _ I8 q8) fun b s9 ⟨H9,I9,q9⟩ => ?_
   have fin : ∀ {s' : Shared} {H' : Hp},ay (X.blk s3 H3 scope ce fp) ([] ++ pY fp s7.heap) σ8 H' s' -> Nx H' -> ∃ m,m < n /\ ∃ i H',ay (X.blk s3 H3 scope ce fp) [] (bI σ (own.map (·.2))) H' s' /\ tn i s'.heap /\ (∀ b ∈ fp,H' b = none) /\ W i m H' := fun {s' H'} I' nx => by
    obtain ⟨m',hm,w'⟩ := hNx H' nx
    have pin' : ∀ b ∈ fp,∀ o,s7.heap.get? b = some o -> s'.heap.get? b = some o /\ H' b = none := fun b hb o e =>
     let z := I'.pin (b,o) (List.mem_append_right _ (List.mem_append_right _ (o4 hb e)))
     ⟨z.1,z.2.1⟩
    have hl : (bI σ (own.map (·.2))).length = σ8.length := by rw [← hw8,nH]
    refine ⟨m',hm,i + 1,H',(I'.unpinned (pins := [])).weak hl (fun j v e => ?_),T.keep _ _ _ st7 fun b hb o e => (pin' b hb o e).1,fun b hb => ?_,w'⟩
    ·rw [← hw8] at e; exact (qI e).1
    ·obtain ⟨o,e,_⟩ := T.obj _ _ st7 b hb; exact (pin' b hb o e).2
   cases b with
   | false =>
    simp only [Bool.false_eq_true,if_false] at q9 ⊢; exact fin I9 q9
   | true =>
    simp only [if_true] at q9 ⊢; refine uv (pe _ s9 σ8 H9 _ I9 q9) fun z s10 ⟨yv,H10,I10,r10,acc,hD10,hz10,nx⟩ => ?_
    exact acG (X := X.blk s3 H3 scope ce fp) I10 hD10 hz10 r10 fun s11 I11 => fin I11 nx
 exact codeAny_compStart_list loop (T.self X.A 0 _ _ _ st4 loop)
theorem dt {elt tg iter : Expr} {ifs : List Expr} {scope : Scope} {own : List (Str × Nat)} {pos : Pos} {wi : TI} {g : TG} {tt : TT} {te : TE} (hc : X.calm = true) (hN : X.N.Nodup) (hi : PI X tg iter wi) (ok : tw X.N X.env.scope scope own)
  (hg : ∀ (s : Shared) (H : Hp) (C : Addr) (cl : List (Str × Addr)) (fp : List Addr),PG (X.blk s H scope (compEnvC scope cl C X.env) fp) tg g) (ht : ∀ (s : Shared) (H : Hp) (C : Addr) (cl : List (Str × Addr)) (fp : List Addr),PTs (X.blk s H scope (compEnvC scope cl C X.env) fp) ifs tt)
  (he : ∀ (s : Shared) (H : Hp) (C : Addr) (cl : List (Str × Addr)) (fp : List Addr),PE (X.blk s H scope (compEnvC scope cl C X.env) fp) elt te) (hs : ∀ x,foldedSetIterable iter X.env x = pure x := by intro _; rfl) :
  PE X (.ListComp elt [⟨tg,iter,ifs,0⟩] scope pos) (tLc wi g tt te (own.map (·.2))) := by
 intro pins s σ H Q I h; rw [eval_ListComp]; refine yt hc hN I hi ok hg ht he hs h fun D C s' m H' I' q hn f => ⟨m,hn,fun h'' sb => ?_⟩
 obtain ⟨f0,f1,f2,f3,f4,f5⟩ := f; exact ⟨.ref D,H',I'.turned (t' := s'.toks) (fun b o hb e => (sb.2 b hb).trans e) f0 f1 f3 f4 f5,rfl,q⟩
theorem cS {i : Nat} {y : Str} {py : Pos} {elt tg iter : Expr} {ifs : List Expr} {scope : Scope} {own : List (Str × Nat)} {pos spos : Pos} {wi : TI} {g : TG} {tt : TT} {te : TE} (hc : X.calm = true) (hN : X.N.Nodup) (hy : X.N[i]? = some y) (hyl : X.env.scope.names.lookup y = some .local)
  (hsw : swapsWith (.ListComp elt [⟨tg,iter,ifs,0⟩] scope pos) (some (.Name y py)) spos.line X.env = pure true) (hi : PI X tg iter wi) (ok : tw X.N X.env.scope scope own)
  (hg : ∀ (s : Shared) (H : Hp) (C : Addr) (cl : List (Str × Addr)) (fp : List Addr),PG (X.blk s H scope (compEnvC scope cl C X.env) fp) tg g) (ht : ∀ (s : Shared) (H : Hp) (C : Addr) (cl : List (Str × Addr)) (fp : List Addr),PTs (X.blk s H scope (compEnvC scope cl C X.env) fp) ifs tt)
  (he : ∀ (s : Shared) (H : Hp) (C : Addr) (cl : List (Str × Addr)) (fp : List Addr),PE (X.blk s H scope (compEnvC scope cl C X.env) fp) elt te) (hs : ∀ x,foldedSetIterable iter X.env x = pure x := by intro _; rfl) :
  PS X (.Assign [.Name y py] (.ListComp elt [⟨tg,iter,ifs,0⟩] scope pos) spos) (zM (tLc wi g tt te (own.map (·.2))) (gX i)) := by
 intro pins s σ H D I h; rw [exec_Assign_Name_used _ _ _ _ hsw]; refine wpAny_bind (wpAny_standAt (wpAny_bind ?_)); show wpAny _ X.A (do let _ ← comprehension (.ListComp elt [⟨tg,iter,ifs,0⟩] scope pos) scope X.env (firstIterPos [⟨tg,iter,ifs,0⟩] pos) (newList []) false (eval iter X.env) (some (assign (.Name y py) X.env))) _ _ s; have h : tLc wi g tt te (own.map (·.2)) σ H (fun x H1 => gX i x σ H1 D.nx) := h; refine wpAny_bind (bo (yt (Qf := fun _ s' => SP X pins D .next s') hc hN I hi ok hg ht he hs h fun L C s' m H' I' q hn f => ?_) fun _ s' hq => wpAny_pure (wpAny_pure hq)); show wpAny _ _ (assign (.Name y py) X.env (.ref L)) _ _ _; refine wpAny_assign_Name (vx (v := V.ref L) I' hN hy (.inl hyl) rfl (fun s2 I2 ⟨a,sb,ha⟩ => ?_) (.inr hyl)); obtain ⟨f0,f1,f2,f3,f4,f5⟩ := f
 have haC : C ≠ a := by
  rcases ha with z | z
  ·rw [z]; exact f1
  ·exact fun e => f4 y a z e.symm
 refine ⟨m,hn.sameBut sb haC,fun h3 sb3 => ?_⟩; exact ⟨_,H',I2.turned (t' := s2.toks) (fun b o hb e => (sb3.2 b hb).trans e) f0 f1 f3 f4 f5,q⟩
theorem dF {elt : Expr} {gs : List Comprehension} {scope : Scope} {pos py : Pos} {y : Str} {l : Nat} {env : Env} (hk : env.scope.kind = .function) (hy : env.scope.names.lookup y = some .local) (hl : (py.line == pos.line) = true)
  (ha : (scope.names.any fun (n,k) => n == y && (k == .local || k == .cell)) = false) : swapsWith (.ListComp elt gs scope pos) (some (.Name y py)) l env = pure true := by
 have ky : env.kindOf y = some .local := hy; have hb : env.blockKind = .function := by unfold Env.blockKind; rw [hk]; rfl
 unfold swapsWith; simp only [hb,ky,ha,Expr.pos,hl]; rfl
end
def acD (N : List Str) (sc scope : Scope) (own : List (Str × Nat)) : Bool :=
 (match scope.kind with | .function => true | _ => false) && (scope.names.all fun y => decide (scope.names.lookup y.1 = some y.2)) && (own.all fun p => decide (N[p.2]? = some p.1)) &&
  (scope.names.all fun y => match y.2 with
   | .free => (match sc.names.lookup y.1 with | some .cell => true | some .free => true | _ => false)
   | .local => decide (y.1 ∈ own.map (·.1)) || decide (y.1 ∉ N)
   | .cell => decide (y.1 ∈ own.map (·.1)) || decide (y.1 ∉ N)
   | _ => true)
theorem a8 {N : List Str} {sc scope : Scope} {own : List (Str × Nat)} (h : acD N sc scope own = true) : tw N sc scope own := by
 unfold acD at h; simp only [Bool.and_eq_true,List.all_eq_true,decide_eq_true_eq] at h; obtain ⟨⟨⟨h1,h2⟩,h3⟩,h4⟩ := h; refine ⟨?_,h2,h3,fun y hy e => ?_,fun y hy e => ?_⟩
 ·split at h1
  ·assumption
  ·cases h1
 ·have q := h4 y hy; simp only [e] at q
  split at q <;> first | exact .inl (by assumption) | exact .inr (by assumption) | cases q
 ·have q := h4 y hy
  rcases e with e | e <;> (simp only [e,Bool.or_eq_true,decide_eq_true_eq] at q; exact q)
def aaK (i : Expr) : Prop := ∀ ov iv,subscripted i false ov iv = operate [ov,iv] (getItem ov iv)
theorem yp {prog : Program} {w : World} {A : Around} {E : Value -> Shared -> Prop} {s : Shared} {env : Env} {value slice : Expr} {pos : Pos} {T id : String} {Q : Value -> Shared -> Prop}
  (hl : typeLookup (.type T) "__getitem__" = pure (some (.builtin id))) (hs : aaK slice)
  (h : wpAny (model prog w) A (eval value env) (fun o s₁ => wpAny (model prog w) A (eval slice env) (fun i s₂ => s₂.TypeIs o T /\ wpAny (model prog w) A (getItem o i) Q E s₂) E s₁) E s) :
  wpAny (model prog w) A (eval (.Subscript value slice pos) env) Q E s := by
 refine Subscript_ (wpAny_mono h (fun o s₁ h₁ => wpAny_mono h₁ (fun i s₂ h₂ => ?_) fun _ _ x => x) fun _ _ x => x); obtain ⟨hT,h₂⟩ := h₂; unfold subscriptTail; refine wpAny_bind ?_; rw [getitemInPython_of_ne hT.not_modules]; refine wpAny_bind (wpAny_specialOf hT hl ?_)
 have fin : wpAny (model prog w) A (subscripted slice false o i) (fun r s₃ => wpAny (model prog w) A (letTemporaryGo value o r >>= fun _ => pure r) Q E s₃) E s₂ := by
  rw [hs o i]; exact wpAny_operating (wpAny_mono h₂ (fun r s₃ h₃ => wpAny_bind (wpAny_letTemporaryGo (wpAny_pure h₃))) fun _ _ x => x)
 first
  | exact wpAny_pure (wpAny_bind fin)
  | exact wpAny_bind (wpAny_pure (wpAny_bind fin))
  | exact wpAny_bind fin
theorem uA : bootBuiltins "reversed" = some (.type "reversed") := by decide +kernel
section
variable {X : Cx} {pins : List (Addr × Obj)} {σ : St} {H : Hp} {s : Shared} {h' : Heap}
theorem ay.turnedL {t' : Nat} {ch : List Addr} (I : ay X pins σ H s) (k : ∀ b o,b ∉ ch -> s.heap.get? b = some o -> h'.get? b = some o) (hf : ∀ b ∈ ch,kb X pins H b) : ay X pins σ H { s with heap := h',toks := t' } := by
 have nit : ∀ b u,H b = some u -> b ∉ ch := fun b u e z => by
  have q := (hf b z).1; rw [q] at e; cases e
 refine I.step (g' := s.gens) (d' := s.drawn) (ch := ch) (fun b hb => ⟨(hf b hb).2.2.2.1,(hf b hb).2.1,(hf b hb).2.2.2.2.1,(hf b hb).2.2.2.2.2⟩) (fun b o _ _ hc e _ => k b o hc e) (fun b o _ _ hc e _ => ⟨o.slots,k b o hc e⟩)
  (fun _ _ _ _ n => n) (fun b o hc e => ⟨o,k b o hc e⟩) (fun _ _ e => e) (fun _ _ _ e => e) (fun b ps e => ⟨#[],by rw [e]; simp⟩) (fun m hm => ?_) (fun b u e => ?_) I.bare
 ·obtain ⟨o,es,ep,ho,r⟩ := hm; exact ⟨o,es,ep,k _ o (fun z => (hf _ z).2.1 rfl) ho,r⟩
 ·refine (I.hok b u e).stay (fun c v hc q => k c v ?_ q) (fun _ q => q) fun _ _ q => q
  rcases hc with z | z
  ·rw [z]; exact nit b u e
  ·exact nit c _ z
theorem ay.turnedNew {t' : Nat} {ch : List Addr} {T : Addr} {ob : HO} (I : ay X pins σ H s) (k : ∀ b o,b ∉ ch -> s.heap.get? b = some o -> h'.get? b = some o) (hf : ∀ b ∈ ch,kb X pins H b) (hT : s.heap.objs.size <= T)
  (new : db X.prog X.w (upd H T ob) h' T ob) : ay X pins σ (upd H T ob) { s with heap := h',toks := t' } := by
 have hn : H T = none := I.hok.fresh hT
 have nit : ∀ b u,H b = some u -> b ∉ ch := fun b u e z => by
  have q := (hf b z).1; rw [q] at e; cases e
 refine I.step (g' := s.gens) (d' := s.drawn) (ch := ch) (fun b hb => ⟨(hf b hb).2.2.2.1,(hf b hb).2.1,(hf b hb).2.2.2.2.1,(hf b hb).2.2.2.2.2⟩) (fun b o _ _ hc e _ => k b o hc e) (fun b o _ _ hc e _ => ⟨o.slots,k b o hc e⟩)
  (fun b o _ e n => ?_) (fun b o hc e => ⟨o,k b o hc e⟩) (fun b xs e => ?_) (fun b o u e => ?_) (fun b ps e => ⟨#[],?_⟩) (fun m hm => ?_) (fun b u e => ?_) I.bare
 ·rw [aK (Nat.ne_of_lt (Nat.lt_of_lt_of_le (Heap.lt_size e) hT))]; exact n
 ·rw [aK (aJ e hn)]; exact e
 ·rw [aK (aJ e hn)]; exact e
 ·rw [aK (aJ e hn),e]; simp
 ·obtain ⟨o,es,ep,ho,r⟩ := hm; exact ⟨o,es,ep,k _ o (fun z => (hf _ z).2.1 rfl) ho,r⟩
 ·by_cases hb : b = T
  ·subst hb; rw [am] at e; cases e; exact new
  ·rw [aK hb] at e; refine (I.hok b u e).stay (fun c v hc q => k c v ?_ q) (fun c q => by rw [aK (aJ q hn)]; exact q) fun c xs q => by rw [aK (aJ q hn)]; exact q
   rcases hc with z | z
   ·rw [z]; exact nit b u e
   ·exact nit c _ z
theorem ay.lock {d : Addr} {u : HO} (I : ay X pins σ H s) (h : H d = some u) (mu : xq (some u)) : ∃ od,ay X pins σ (upd H d (.frz od u)) s := by
 have x := I.hok d u h
 have ex : ∃ od,s.heap.get? d = some od := by
  cases u with
  | lst xs => obtain ⟨_,_,_,_,e⟩ := x; exact ⟨_,e⟩
  | dK kvs => obtain ⟨_,_,_,_,o,_,_,e,_⟩ := x; exact ⟨o,e⟩
  | dT kvs => obtain ⟨_,_,_,_,o,_,_,e,_⟩ := x; exact ⟨o,e⟩
  | set S n => obtain ⟨o,_,_,_,e,_⟩ := x; exact ⟨o,e⟩
  | ins C dx fs => obtain ⟨_,_,_,e,_⟩ := x; exact ⟨_,e⟩
  | ext φ => obtain ⟨_,⟨_,e⟩,_⟩ := x; exact ⟨_,e⟩
  | _ => exact False.elim mu
 obtain ⟨od,e⟩ := ex
 have new : db X.prog X.w (upd H d (.frz od u)) s.heap d (.frz od u) := by
  refine ⟨e,x.stay (fun b v _ q => q) (fun b q => ?_) fun b xs q => ?_⟩
  ·rw [aK (fun z => by rw [z,h] at q; cases q; exact mu)]; exact q
  ·rw [aK (fun z => by rw [z,h] at q; cases q; exact mu)]; exact q
 exact ⟨od,I.write (x := d) (e := d) (t' := s.toks) (h' := s.heap) (by rw [h]; exact mu) (.inl rfl) (fun b v _ q => q) ⟨od,e⟩ new⟩
theorem ay.nofrz {d : Addr} {u : HO} (I : ay X pins σ H s) (h : H d = some u) (mu : xq (some u)) : ∀ o' u',X.H_0 d ≠ some (.frz o' u') := fun o' u' e => by
 have q := I.base.frzs d o' u' e; rw [h] at q; cases q; exact mu
theorem ay.unlock {d : Addr} {od : Obj} {u : HO} (I : ay X pins σ H s) (h : H d = some (.frz od u)) (hn : ∀ o' u',X.H_0 d ≠ some (.frz o' u')) : ay X pins σ (upd H d u) s := by
 have neH : ∀ b o,H b = some o -> (∀ o' u',o ≠ .frz o' u') -> b ≠ d := fun b o e hne z => by
  rw [z,h] at e; cases e; exact hne _ _ rfl
 have neN : ∀ b,H b = none -> b ≠ d := fun b e z => by rw [z,h] at e; cases e
 refine ⟨I.ok,I.os,I.bare,⟨I.base.keep,I.base.slot,fun b o e n hx => ?_,I.base.there,fun b xs e => ?_,fun b o x e => ?_,fun b ps e => ?_⟩,I.loc,I.cell,?_,fun x c e => ?_,fun p hp => ?_,fun b o e => ?_,I.len⟩
 ·rw [aK (neN b (I.base.free b o e n hx))]; exact I.base.free b o e n hx
 ·have q := I.base.tups b xs e; rw [aK (neH b _ q (fun _ _ z => nomatch z))]; exact q
 ·have q := I.base.frzs b o x e; rw [aK (fun z => by rw [z] at e; exact hn _ _ e)]; exact q
 ·obtain ⟨m,q⟩ := I.base.tbls b ps e; exact ⟨m,by rw [aK (neH b _ q (fun _ _ z => nomatch z))]; exact q⟩
 ·rw [aK (neN _ I.free)]; exact I.free
 ·rw [aK (neN c (I.freeC x c e))]; exact I.freeC x c e
 ·obtain ⟨e,n,r⟩ := I.pin p hp; exact ⟨e,by rw [aK (neN _ n)]; exact n,r⟩
 ·by_cases hb : b = d
  ·rw [hb,am] at e; cases e; rw [hb]; obtain ⟨_,x⟩ := I.hok d _ h; exact x.stay (fun c v _ q => q) (fun c q => by rw [aK (neH c _ q (fun _ _ z => nomatch z))]; exact q) fun c xs q => by rw [aK (neH c _ q (fun _ _ z => nomatch z))]; exact q
  ·rw [aK hb] at e; exact (I.hok b o e).stay (fun c v _ q => q) (fun c q => by rw [aK (neH c _ q (fun _ _ z => nomatch z))]; exact q) fun c xs q => by rw [aK (neH c _ q (fun _ _ z => nomatch z))]; exact q
end
def ac7 (t : TS) : TS := fun D σ H => ∃ d u,H d = some u /\ xq (some u) /\ ∀ od,t ⟨fun σ' H' => H' d = some (.frz od u) /\ D.nx σ' (upd H' d u),fun v H' => H' d = some (.frz od u) /\ D.rt v (upd H' d u),fun σ' H' => H' d = some (.frz od u) /\ D.bk σ' (upd H' d u),fun σ' H' => H' d = some (.frz od u) /\ D.ct σ' (upd H' d u)⟩ σ (upd H d (.frz od u))
section
variable {X : Cx}
theorem acf {st : Stmt} {t : TS} (h : PS X st t) : PS X st (ac7 t) := by
 intro pins s σ H D I hw; obtain ⟨d,u,hd,mu,hw⟩ := hw; obtain ⟨od,I1⟩ := I.lock hd mu; refine bo (h pins s σ _ _ I1 (hw od)) fun f s1 q => ?_
 cases f with
 | next => obtain ⟨σ',H',I2,e,q⟩ := q; exact ⟨σ',_,I2.unlock e (I.nofrz hd mu),q⟩
 | brk => obtain ⟨σ',H',I2,e,q⟩ := q; exact ⟨σ',_,I2.unlock e (I.nofrz hd mu),q⟩
 | cont => obtain ⟨σ',H',I2,e,q⟩ := q; exact ⟨σ',_,I2.unlock e (I.nofrz hd mu),q⟩
 | ret v => obtain ⟨x,σ',H',I2,r,e,q⟩ := q; exact ⟨x,σ',_,I2.unlock e (I.nofrz hd mu),r,q⟩
theorem tV {tg : Expr} {pins : List (Addr × Obj)} {σ : St} {H : Hp} {s : Shared} {R : It -> Hp -> Prop} {J : It} {tn : Nat -> Heap -> Prop} {tk : Nat} (I : ay X pins σ H s) (o : Obj)
  (T : oT X.prog X.w X.K tg J [s.heap.objs.size] s.heap.objs.size tn) (st : tn 0 (s.heap.push o)) (q : R J H) : PIE X pins σ tg R (.ref s.heap.objs.size) { s with heap := s.heap.push o,toks := tk } := by
 refine ⟨s.heap.objs.size,[s.heap.objs.size],tn,J,H,rfl,I.kept fun b ob e => Heap.get?_push_of_some _ e,T,st,fun b hb => ?_,q⟩; have e : b = s.heap.objs.size := by simpa using hb
 subst e; exact I.fpOk (Nat.le_refl _) (I.hok.fresh (Nat.le_refl _))
end
def x8 (lo c : Int) (n : Nat) : It := ⟨fun i _ => i < n,fun i H x H' => H' = H /\ x = .int (lo + (i : Nat) * c),fun i _ => n <= i⟩
theorem xD {P : Program} {w : World} {K : Fg} {tg : Expr} (it : Addr) (lo c : Int) (n : Nat) : oT P w K tg (x8 lo c n) [it] it (fun i h => IsRangeIter h it (lo + (i : Nat) * c) ((n : Int) - (i : Nat)) c) where
 mem := by simp
 obj := fun i h st b hb => by
  have e : b = it := by simpa using hb
  subst e; exact ⟨_,st,fun v z => nomatch z⟩
 keep := fun i h h' st k => k it (by simp) _ st
 item := by
  intro X hP hw hK hc i pins s σ H E I hf st hg; subst hP hw hK; obtain ⟨f0,f1,f2,f3,f4,f5⟩ := hf it (by simp); have W := Walks.range (prog := X.prog) (w := X.w) (I.ok.hd hc) it lo c n; refine W.item i s _ _ hg st fun v h' tk hv st' kk => ?_
  obtain ⟨t,rfl⟩ := hv; have I1 : ay X pins σ H { s with heap := h',toks := tk } := I.turned (fun b o hb e => kk b o (by simpa using hb) e) f0 f1 f3 f4 f5; exact ⟨_,rfl,tP (s := { s with heap := h',toks := tk }) (n := "range_iterator") st' rfl rfl (by decide) ⟨.int (lo + (i : Nat) * c),H,I1,⟨t,rfl⟩,⟨rfl,rfl⟩,st',fun b hb => (hf b hb).1⟩⟩
 done := by
  intro X hP hw hK hc i pins s σ H E I hf st hg; subst hP hw hK; obtain ⟨f0,f1,f2,f3,f4,f5⟩ := hf it (by simp); exact wpAny_pyNext_range_end (I.ok.hd hc) st (by have : n <= i := hg; omega) fun h' eb => ⟨rfl,I.turned (t' := s.toks) (fun b o hb e => eb b o hb e) f0 f1 f3 f4 f5⟩
 self := fun A i s Q E st h => wpAny_pyIter_rangeiter st h
def wg (i j c : Int) (n : Nat) : Prop := c ≠ 0 /\ c.natAbs < 1073741824 /\ Builtin.Range.small i j c = true /\ Builtin.Range.rangeSize i j c = n
def adp (ta : TA) : TI := fun σ H R => ta σ H fun vs H1 => ∃ (i j c : Int) (n : Nat),vs = [.int i,.int j,.int c] /\ wg i j c n /\ R (x8 i c n) H1
section
variable {X : Cx} {tg : Expr}
theorem vd {a b c : Expr} {ta : TA} {p pos : Pos} (hg : Gl X "range") (hm : X.mg "range" = none) (ha : PA X [a,b,c] ta)
  (hs : starEach [a,b,c] X.env = (false,eval a X.env) :: starEach [b,c] X.env := by rfl) (hpl : (backTo pos (starEach [b,c] X.env)).any (·.1) = false := by rfl) :
  PI X tg (.Call (.Name "range" p) [a,b,c] [] pos) (adp ta) := by
 intro pins s σ H R I h; refine Call_ (jN I hg hm boot_range (PyProof.Rows.callWith_type1 (bo (ha pos pins s σ H _ I h) fun us s1 ⟨vs,H1,I1,r1,q1⟩ => ?_) hs hpl)); obtain ⟨i,j,k,n,e,⟨c0,c1,c2,c3⟩,q⟩ := q1; subst e
 cases r1 with
 | cons r rr =>
  cases rr with
  | cons r' rr =>
   cases rr with
   | cons r'' rr =>
    cases rr; obtain ⟨t,rfl⟩ := r; obtain ⟨t',rfl⟩ := r'; obtain ⟨t'',rfl⟩ := r''; refine call_range_3 c0 ?_ (.inl (PyProof.noPylong_small c1)); refine wpAny_pyIter_range (IsRange.new ..) c2 ?_; have I2 : ay X pins σ H1 { s1 with heap := s1.heap.push { cls := .type "range",data := .fields #[.int i t,.int j t',.int k t''] } } := I1.kept (t' := s1.toks) fun b o e => Heap.get?_push_of_some _ e
    refine tV (tk := s1.toks) I2 _ (xD _ i k n) ?_ q; have e1 : i + ((0 : Nat) : Int) * k = i := by simp
    have e2 : (n : Int) - ((0 : Nat) : Int) = Builtin.Range.rangeSize i j k := by rw [c3]; simp
    show IsRangeIter _ _ (i + ((0 : Nat) : Int) * k) ((n : Int) - ((0 : Nat) : Int)) k; rw [e1,e2]; exact Heap.get?_push_size _ rfl
end
theorem yQ {lo c : Int} {n : Nat} {g : TG} {tb : TS} {D : kf} {σ : St} {H : Hp} (Pv : Nat -> St -> Hp -> Prop) (h0 : Pv 0 σ H)
  (hs : ∀ i σ H,i < n -> Pv i σ H -> g (.int (lo + (i : Nat) * c)) σ H fun σ2 H2 => tb { D with nx := Pv (i + 1),ct := Pv (i + 1),bk := D.nx } σ2 H2) (hd : ∀ σ H,Pv n σ H -> D.nx σ H) :
  ∃ W : Nat -> Nat -> St -> Hp -> Prop,(∃ m,W 0 m σ H) /\ ∀ i m σ H,W i m σ H →
   ((x8 lo c n).stop i H /\ D.nx σ H) \/ ((x8 lo c n).go i H /\ ∃ N : St -> Hp -> Prop,(∀ σ' H',N σ' H' -> ∃ m',m' < m /\ W (i + 1) m' σ' H') /\ ∀ x H',(x8 lo c n).yld i H x H' -> g x σ H' fun σ2 H2 => tb { D with nx := N,ct := N,bk := D.nx } σ2 H2) := by
 refine ⟨fun i m σ H => m = n - i /\ i <= n /\ Pv i σ H,⟨n,by simp,Nat.zero_le _,h0⟩,?_⟩; rintro i m σ H ⟨rfl,hi,p⟩
 by_cases hlt : i < n
 ·refine .inr ⟨hlt,Pv (i + 1),fun σ' H' p' => ⟨n - (i + 1),by omega,rfl,hlt,p'⟩,fun x H' y => ?_⟩; obtain ⟨e,y⟩ := y; subst e y; exact hs i σ _ hlt p
 ·have e : i = n := by omega
  subst e; exact .inl ⟨Nat.le_refl _,hd σ H p⟩
def z9 (K : Fg) (a : Addr) (n : Nat) : It :=
 ⟨fun i H => i < n /\ ∃ (xs : List V) (x : V),ag K H a xs /\ xs[n - 1 - i]? = some x,fun i H x H' => H' = H /\ ∀ xs,ag K H a xs -> xs[n - 1 - i]? = some x,fun i _ => n <= i⟩
theorem aaP {P : Program} {w : World} {K : Fg} {tg : Expr} (a it : Addr) (n : Nat) : oT P w K tg (z9 K a n) [it] it (fun i h => i <= n /\ h.IsRevIter it a ((n : Int) - 1 - (i : Nat))) where
 mem := by simp
 obj := fun i h st b hb => by
  have e : b = it := by simpa using hb
  subst e; obtain ⟨_,o,e,c,d⟩ := st; exact ⟨o,e,fun v z => by rw [d] at z; cases z⟩
 keep := fun i h h' st k => ⟨st.1,st.2.at fun o e => k it (by simp) o e⟩
 item := by
  intro X hP hw hK hc i pins s σ H E I hf st hg; subst hP hw hK; obtain ⟨hin,xs,x,hq,hx⟩ := hg; obtain ⟨its,rv,p,hz⟩ := I.list hq; obtain ⟨u,hu,ru⟩ := rv.get hx; obtain ⟨f0,f1,f2,f3,f4,f5⟩ := hf it (by simp); obtain ⟨_,hit⟩ := st; have e1 : (n : Int) - 1 - ((i : Nat) : Int) = ((n - 1 - i : Nat) : Int) := by omega
  rw [e1] at hit; refine wpAny_pyNext_rev_item hit p.isList (x := u) (by simpa using hu) fun h' st' sb => ?_
  have e2 : ((n - 1 - i : Nat) : Int) - 1 = (n : Int) - 1 - ((i + 1 : Nat) : Int) := by omega
  rw [e2] at st'; have I1 : ay X pins σ H { s with heap := h' } := I.turned (t' := s.toks) (fun b o hb e => (sb.2 b hb).trans e) f0 f1 f3 f4 f5; obtain ⟨o,e,c,d⟩ := id st'; exact ⟨u,rfl,tP (s := { s with heap := h' }) e c d (by decide) ⟨x,H,I1,ru,⟨rfl,fun ys hy => by rw [I.list_inj hy hq]; exact hx⟩,⟨hin,st'⟩,fun b hb => (hf b hb).1⟩⟩
 done := by
  intro X hP hw hK hc i pins s σ H E I hf st hg; subst hP hw hK; obtain ⟨f0,f1,f2,f3,f4,f5⟩ := hf it (by simp); obtain ⟨hin,hit⟩ := st; have hge : n <= i := hg; have e1 : (n : Int) - 1 - ((i : Nat) : Int) = -1 := by omega
  rw [e1] at hit; exact wpAny_pyNext_rev_end (I.ok.hd hc) hit fun h' eb => ⟨rfl,I.turned (t' := s.toks) (fun b o hb e => eb b o hb e) f0 f1 f3 f4 f5⟩
 self := fun A i s Q E st h => wpAny_pyIter_revIter st.2 h
def aea (K : Fg) (ta : TA) : TI := fun σ H R => ta σ H fun vs H1 => ∃ (a : Addr) (xs : List V),vs = [.ref a] /\ ag K H1 a xs /\ R (z9 K a xs.length) H1
section
variable {X : Cx} {tg : Expr}
theorem xO {e : Expr} {ta : TA} {p pos : Pos} (hg : Gl X "reversed") (hm : X.mg "reversed" = none) (ha : PA X [e] ta) (hs : starEach [e] X.env = [(false,eval e X.env)] := by rfl) : PI X tg (.Call (.Name "reversed" p) [e] [] pos) (aea X.K ta) := by
 intro pins s σ H R I h; refine Call_ (jN I hg hm uA (PyProof.Rows.callWith_type1 (bo (ha pos pins s σ H _ I h) fun us s1 ⟨vs,H1,I1,r1,q1⟩ => ?_) hs rfl)); obtain ⟨a,xs,e,hq,q⟩ := q1; subst e
 cases r1 with
 | cons r rr =>
  cases rr; cases r; obtain ⟨its,rv,p',hz⟩ := I1.list hq; have hl := rv.length; have e1 : ((its.toArray.size : Nat) : Int) - 1 = (xs.length : Int) - 1 - ((0 : Nat) : Int) := by simp only [List.size_toArray]; omega
  refine call_reversed_list p'.isList (wpAny_pyIter_revIter (l := a) (i := ((its.toArray.size : Nat) : Int) - 1) ⟨_,Heap.get?_push_size _ rfl,rfl,rfl⟩ ?_); refine tV (tk := s1.toks) I1 _ (aaP a _ xs.length) ⟨Nat.zero_le _,?_⟩ q; rw [← e1]; exact ⟨_,Heap.get?_push_size _ rfl,rfl,rfl⟩
end
def Its (x : Str) : It := ⟨fun i _ => i < x.cps.size,fun i H v H' => H' = H /\ ∃ c,x.cps[i]? = some c /\ v = .str ⟨#[c]⟩,fun i _ => x.cps.size <= i⟩
theorem xi {P : Program} {w : World} {K : Fg} {tg : Expr} (it : Addr) (x : Str) (t : Tok) (ty : String) (hty : ty = "str_ascii_iterator" \/ ty = "str_iterator") :
  oT P w K tg (Its x) [it] it (fun i h => h.IsStrIter it ty x t i) where
 mem := by simp
 obj := fun i h st b hb => by
  have e : b = it := by simpa using hb
  subst e; obtain ⟨o,e,c,d⟩ := st; exact ⟨o,e,fun v z => by rw [d] at z; cases z⟩
 keep := fun i h h' st k => let ⟨o,ho,r⟩ := st; ⟨o,k it (by simp) o ho,r⟩
 item := by
  intro X hP hw hK hc i pins s σ H E I hf st hg; subst hP hw hK; obtain ⟨f0,f1,f2,f3,f4,f5⟩ := hf it (by simp)
  have W : Walks X.prog X.w X.A it [it] [it] x.cps.size (SignAt x) (fun i h => h.IsStrIter it ty x t i) := by
   rcases hty with e | e
   ·rw [e]; exact Walks.strAscii (I.ok.hd hc) it x t
   ·rw [e]; exact Walks.strWide (I.ok.hd hc) it x t
  have hno : ["enumerate","zip","dict_itemiterator","dict_reverseitemiterator","odict_iterator","itertools.zip_longest","itertools.pairwise"].contains ty = false := by
   rcases hty with e | e
   ·rw [e]; decide
   ·rw [e]; decide
  refine W.item i s _ _ hg st fun v h' tk hv st' kk => ?_
  obtain ⟨c,u,hcx,rfl⟩ := hv; have I1 : ay X pins σ H { s with heap := h',toks := tk } := I.turned (fun b o hb e => kk b o (by simpa using hb) e) f0 f1 f3 f4 f5; obtain ⟨oi,e,cc,dd⟩ := id st'; exact ⟨_,rfl,tP (s := { s with heap := h',toks := tk }) e cc dd hno ⟨.str ⟨#[c]⟩,H,I1,⟨u,rfl⟩,⟨rfl,c,hcx,rfl⟩,st',fun b hb => (hf b hb).1⟩⟩
 done := by
  intro X hP hw hK hc i pins s σ H E I hf st hg; subst hP hw hK; obtain ⟨f0,f1,f2,f3,f4,f5⟩ := hf it (by simp); have hx : x.cps[i]? = none := Array.getElem?_eq_none hg
  rcases hty with e | e
  ·rw [e] at st; exact wpAny_pyNext_ascii_end (I.ok.hd hc) st hx fun h' eb => ⟨rfl,I.turned (t' := s.toks) (fun b o hb e => eb b o hb e) f0 f1 f3 f4 f5⟩
  ·rw [e] at st; exact wpAny_pyNext_wide_end (I.ok.hd hc) st hx fun h' eb => ⟨rfl,I.turned (t' := s.toks) (fun b o hb e => eb b o hb e) f0 f1 f3 f4 f5⟩
 self := fun A i s Q E st h => by
  rcases hty with e | e
  ·rw [e] at st; exact wpAny_pyIter_striter_ascii st h
  ·rw [e] at st; exact wpAny_pyIter_striter_wide st h
def adZ (te : TE) : TI := fun σ H R => te σ H fun v H1 => ∃ x,v = .str x /\ R (Its x) H1
theorem acn {X : Cx} {tg e : Expr} {te : TE} (he : PE X e te) : PI X tg e (adZ te) := by
 intro pins s σ H R I h; refine bo (he pins s σ H _ I h) fun v s1 ⟨y,H1,I1,r1,x,ex,q⟩ => ?_
 subst ex; obtain ⟨t,rfl⟩ := r1; cases ha : x.cps.all (· < 128)
 ·exact wpAny_pyIter_wide ha (tV (tk := s1.toks) I1 _ (xi _ x t "str_iterator" (.inr rfl)) ⟨_,Heap.get?_push_size _ rfl,rfl,rfl⟩ q)
 ·exact wpAny_pyIter_ascii ha (tV (tk := s1.toks) I1 _ (xi _ x t "str_ascii_iterator" (.inl rfl)) ⟨_,Heap.get?_push_size _ rfl,rfl,rfl⟩ q)
def yr (K : Fg) (a : Addr) : It :=
 ⟨fun i H => ∃ (xs : List V) (x : V),ag K H a xs /\ xs[i]? = some x,fun i H v H' => ∃ T x,v = .ref T /\ H T = none /\ H' = upd H T (.tup [.int (i : Nat),x]) /\ ∀ xs,ag K H a xs -> xs[i]? = some x,fun i H => ∃ xs : List V,ag K H a xs /\ xs.length <= i⟩
theorem aaA {P : Program} {w : World} {K : Fg} {elts : List Expr} {kk : Nat} {tpos : Pos} (a e it : Addr) :
  oT P w K (.Tuple elts kk tpos) (yr K a) [e,it] e (fun i h => (∃ old,IsEnum h e it ((i : Nat) : Int) old) /\ h.IsListIter it a i /\ e ≠ it) where
 mem := by simp
 obj := fun i h st b hb => by
  obtain ⟨⟨old,he⟩,⟨o,ho,hc,hd⟩,_⟩ := st; have e' : b = e \/ b = it := by simpa using hb
  rcases e' with z | z
  ·rw [z]; exact ⟨_,he,fun v q => nomatch q⟩
  ·rw [z]; exact ⟨o,ho,fun v q => by rw [hd] at q; cases q⟩
 keep := fun i h h' st k => let ⟨⟨old,he⟩,hi,hne⟩ := st; ⟨⟨old,k e (by simp) _ he⟩,hi.at fun o q => k it (by simp) o q,hne⟩
 item := by
  intro X hP hw hK hc i pins s σ H E I hf st hg; subst hP hw hK; obtain ⟨⟨old,he⟩,hit,hne⟩ := st; obtain ⟨xs,x,hq,hx⟩ := hg; obtain ⟨its,rv,p,hz⟩ := I.list hq; obtain ⟨u,hu,ru⟩ := rv.get hx; have hel : e < s.heap.objs.size := Heap.lt_size he; have hil : it < s.heap.objs.size := by obtain ⟨_,q,_⟩ := hit; exact Heap.lt_size q
  refine wpAny_pyNext_enum_item he hit p.isList (x := u) (by simpa using hu) hne fun h' ho hit' hT hsz hk => ?_
  refine ⟨_,rfl,wpAny_letOwnedTupleGo_enum (s := { s with heap := h',toks := s.toks + 1 }) ho fun h'' he' sb => ?_⟩; have hT2 : h''.get? s.heap.objs.size = some { cls := .type "tuple",data := .seq #[.int i s.toks,u] } := (sb.2 _ (Nat.ne_of_gt hel)).trans hT
  have new : db X.prog X.w (upd H s.heap.objs.size (.tup [.int (i : Nat),x])) h'' s.heap.objs.size (.tup [.int (i : Nat),x]) :=
   ⟨by show 2 <= sizeLine; decide,[.int i s.toks,u],.cons ⟨_,rfl⟩ (.cons ru .nil),⟨_,hT2,rfl,_,rfl⟩⟩
  have I1 : ay X pins σ (upd H s.heap.objs.size (.tup [.int (i : Nat),x])) { s with heap := h'',toks := s.toks + 1 } :=
   I.turnedNew (ch := [e,it]) (fun b ob hb q => (sb.2 b (fun z => hb (by simp [z]))).trans (hk b ob (fun z => hb (by simp [z])) (fun z => hb (by simp [z])) q)) hf (Nat.le_refl _) new
  refine ⟨.ref s.heap.objs.size,_,I1,rfl,⟨_,x,rfl,I.hok.fresh (Nat.le_refl _),rfl,fun ys hy => by rw [I.list_inj hy hq]; exact hx⟩,⟨⟨u,?_⟩,hit'.at fun o q => (sb.2 it (Ne.symm hne)).trans q,hne⟩,fun b hb => ?_⟩
  ·have e1 : ((i + 1 : Nat) : Int) = (i : Int) + 1 := by omega
   rw [e1]; exact he'
  ·have hb' : b < s.heap.objs.size := by
    have e' : b = e \/ b = it := by simpa using hb
    rcases e' with z | z
    ·rw [z]; exact hel
    ·rw [z]; exact hil
   rw [aK (Nat.ne_of_lt hb')]; exact (hf b hb).1
 done := by
  intro X hP hw hK hc i pins s σ H E I hf st hg; subst hP hw hK; obtain ⟨⟨old,he⟩,hit,hne⟩ := st; obtain ⟨xs,hq,hx⟩ := hg; obtain ⟨its,rv,p,hz⟩ := I.list hq; obtain ⟨f0,f1,f2,f3,f4,f5⟩ := hf it (by simp); have hl := rv.length; exact wpAny_pyNext_enum_end (I.ok.hd hc) he hit p.isList (by simp; omega) fun h' eb => ⟨rfl,I.turned (t' := s.toks) (fun b o hb q => eb b o hb q) f0 f1 f3 f4 f5⟩
 self := fun A i s Q E st h => let ⟨⟨_,he⟩,_⟩ := st; wpAny_pyIter_enum he h
def acU (K : Fg) (ta : TA) : TI := fun σ H R => ta σ H fun vs H1 => ∃ a xs,vs = [.ref a] /\ ag K H1 a xs /\ R (yr K a) H1
theorem u7 {X : Cx} {e : Expr} {ta : TA} {p pos tpos : Pos} {elts : List Expr} {kk : Nat} (hg : Gl X "enumerate") (hm : X.mg "enumerate" = none) (ha : PA X [e] ta) (hs : starEach [e] X.env = [(false,eval e X.env)] := by rfl) :
  PI X (.Tuple elts kk tpos) (.Call (.Name "enumerate" p) [e] [] pos) (acU X.K ta) := by
 intro pins s σ H R I h; refine Call_ (jN I hg hm boot_enumerate (PyProof.Rows.callWith_type1 (bo (ha pos pins s σ H _ I h) fun us s1 ⟨vs,H1,I1,r1,q1⟩ => ?_) hs rfl)); obtain ⟨a,xs,ex,hq,q⟩ := q1; subst ex
 cases r1 with
 | cons r rr =>
  cases rr; cases r; obtain ⟨its,rv,p',hz⟩ := I1.list hq; refine call_enumerate_list p'.isList fun h' he hit hsz hk => wpAny_pyIter_enum he ?_
  have I2 : ay X pins σ H1 { s1 with heap := h' } := I1.kept (t' := s1.toks) hk; refine ⟨s1.heap.objs.size + 1,[s1.heap.objs.size + 1,s1.heap.objs.size],_,_,H1,rfl,I2,aaA a (s1.heap.objs.size + 1) s1.heap.objs.size,⟨⟨.none,he⟩,hit,Nat.succ_ne_self _⟩,fun b hb => ?_,q⟩; have e' : b = s1.heap.objs.size + 1 \/ b = s1.heap.objs.size := by simpa using hb
  have hle : s1.heap.objs.size <= b := by
   rcases e' with z | z
   ·rw [z]; exact Nat.le_add_right _ _
   ·rw [z]; exact Nat.le_refl _
  exact I1.fpOk hle (I1.hok.fresh hle)
theorem aao : bootBuiltins "zip" = some (.type "zip") := by decide +kernel
def yf (K : Fg) (a b : Addr) : It :=
 ⟨fun i H => ∃ (xs ys : List V) (x y : V),ag K H a xs /\ ag K H b ys /\ xs[i]? = some x /\ ys[i]? = some y,
  fun i H v H' => ∃ T x y,v = .ref T /\ H T = none /\ H' = upd H T (.tup [x,y]) /\ (∀ xs,ag K H a xs -> xs[i]? = some x) /\ ∀ ys,ag K H b ys -> ys[i]? = some y,
  fun i H => ∃ xs ys : List V,ag K H a xs /\ ag K H b ys /\ (xs.length <= i \/ ys.length <= i)⟩
theorem abr {P : Program} {w : World} {K : Fg} {elts : List Expr} {kk : Nat} {tpos : Pos} {a b z TI TO i1 i2 : Addr} (D : ZipApart z TI TO i1 i2 a b) :
  oT P w K (.Tuple elts kk tpos) (yf K a b) [z,TI,TO,i1,i2] z (fun i h => IsZip h z TI TO .none /\ IsPair h TI (.ref i1) (.ref i2) /\ (∃ x y,IsPair h TO x y) /\ h.IsListIter i1 a i /\ h.IsListIter i2 b i) where
 mem := by simp
 obj := fun i h st c hc => by
  obtain ⟨hz,hTI,⟨x,y,hTO⟩,⟨o1,e1,_,d1⟩,⟨o2,e2,_,d2⟩⟩ := st; have e' : c = z \/ c = TI \/ c = TO \/ c = i1 \/ c = i2 := by simpa using hc
  rcases e' with q | q | q | q | q
  ·rw [q]; exact ⟨_,hz,fun v q => nomatch q⟩
  ·rw [q]; exact ⟨_,hTI,fun v q => nomatch q⟩
  ·rw [q]; exact ⟨_,hTO,fun v q => nomatch q⟩
  ·rw [q]; exact ⟨o1,e1,fun v q => by rw [d1] at q; cases q⟩
  ·rw [q]; exact ⟨o2,e2,fun v q => by rw [d2] at q; cases q⟩
 keep := fun i h h' st k => by
  obtain ⟨hz,hTI,⟨x,y,hTO⟩,h1,h2⟩ := st; exact ⟨k z (by simp) _ hz,k TI (by simp) _ hTI,⟨x,y,k TO (by simp) _ hTO⟩,h1.at fun o q => k i1 (by simp) o q,h2.at fun o q => k i2 (by simp) o q⟩
 item := by
  intro X hP hw hK hc i pins s σ H E I hf st hg; subst hP hw hK; obtain ⟨hz,hTI,⟨x0,y0,hTO⟩,h1,h2⟩ := st; obtain ⟨xs,ys,x,y,hqx,hqy,hx,hy⟩ := hg; obtain ⟨its,rv,p,_⟩ := I.list hqx; obtain ⟨its2,rv2,p2,_⟩ := I.list hqy; obtain ⟨u,hu,ru⟩ := rv.get hx; obtain ⟨u2,hu2,ru2⟩ := rv2.get hy; have hzl : z < s.heap.objs.size := Heap.lt_size hz; refine wpAny_pyNext_zip_item D hz hTI hTO h1 h2 p.isList p2.isList (x := u) (y := u2) (by simpa using hu) (by simpa using hu2) fun h' z' TO' h1' h2' hT hsz hk => ?_
  refine ⟨_,rfl,wpAny_letOwnedTupleGo_zip (s := { s with heap := h' }) z' fun h'' z'' sb => ?_⟩; have hT2 : h''.get? s.heap.objs.size = some { cls := .type "tuple",data := .seq #[u,u2] } := (sb.2 _ (Nat.ne_of_gt hzl)).trans hT
  have new : db X.prog X.w (upd H s.heap.objs.size (.tup [x,y])) h'' s.heap.objs.size (.tup [x,y]) :=
   ⟨by show 2 <= sizeLine; decide,[u,u2],.cons ru (.cons ru2 .nil),⟨_,hT2,rfl,_,rfl⟩⟩
  have I1 : ay X pins σ (upd H s.heap.objs.size (.tup [x,y])) { s with heap := h'' } :=
   I.turnedNew (t' := s.toks) (ch := [z,TI,TO,i1,i2]) (fun c o hb q => (sb.2 c (fun q' => hb (by simp [q']))).trans (hk c o (fun q' => hb (by simp [q'])) (fun q' => hb (by simp [q'])) (fun q' => hb (by simp [q'])) (fun q' => hb (by simp [q'])) q)) hf (Nat.le_refl _) new
  refine ⟨.ref s.heap.objs.size,_,I1,rfl,⟨_,x,y,rfl,I.hok.fresh (Nat.le_refl _),rfl,fun l hl => by rw [I.list_inj hl hqx]; exact hx,fun l hl => by rw [I.list_inj hl hqy]; exact hy⟩,⟨z'',?_,⟨u,u2,?_⟩,?_,?_⟩,fun c hcm => ?_⟩
  ·exact (sb.2 _ D.TIz).trans (hk _ _ D.TIz D.TITO D.TIi1 D.TIi2 hTI)
  ·exact (sb.2 _ D.TOz).trans TO'
  ·exact h1'.at fun o q => (sb.2 _ D.i1z).trans q
  ·exact h2'.at fun o q => (sb.2 _ D.i2z).trans q
  ·have hlt : c < s.heap.objs.size := by
    have e' : c = z \/ c = TI \/ c = TO \/ c = i1 \/ c = i2 := by simpa using hcm
    rcases e' with q | q | q | q | q
    ·rw [q]; exact hzl
    ·rw [q]; exact Heap.lt_size hTI
    ·rw [q]; exact Heap.lt_size hTO
    ·rw [q]; obtain ⟨_,e1,_⟩ := h1; exact Heap.lt_size e1
    ·rw [q]; obtain ⟨_,e2,_⟩ := h2; exact Heap.lt_size e2
   rw [aK (Nat.ne_of_lt hlt)]; exact (hf c hcm).1
 done := by
  intro X hP hw hK hc i pins s σ H E I hf st hg; subst hP hw hK; obtain ⟨hz,hTI,⟨x0,y0,hTO⟩,h1,h2⟩ := st; obtain ⟨xs,ys,hqx,hqy,hend⟩ := hg; obtain ⟨its,rv,p,_⟩ := I.list hqx; obtain ⟨its2,rv2,p2,_⟩ := I.list hqy; have l1 := rv.length; have l2 := rv2.length
  have he : its.toArray[i]? = none \/ its2.toArray[i]? = none := by
   rcases hend with q | q
   ·exact .inl (by simp; omega)
   ·exact .inr (by simp; omega)
  exact wpAny_pyNext_zip_end (I.ok.hd hc) D hz hTI hTO h1 h2 p.isList p2.isList he fun h' hk => ⟨rfl,I.turnedL (t' := s.toks) (ch := [z,TI,TO,i1,i2]) (fun c o hb q =>
   hk c o (fun q' => hb (by simp [q'])) (fun q' => hb (by simp [q'])) (fun q' => hb (by simp [q'])) (fun q' => hb (by simp [q'])) q) hf⟩
 self := fun A i s Q E st h => wpAny_pyIter_zip st.1 h
def adE (K : Fg) (ta : TA) : TI := fun σ H R => ta σ H fun vs H1 => ∃ a b xs ys,vs = [.ref a,.ref b] /\ ag K H1 a xs /\ ag K H1 b ys /\ R (yf K a b) H1
theorem fk {X : Cx} {e e2 : Expr} {ta : TA} {p pos tpos : Pos} {elts : List Expr} {kk : Nat} (hg : Gl X "zip") (hm : X.mg "zip" = none) (ha : PA X [e,e2] ta)
  (hs : starEach [e,e2] X.env = (false,eval e X.env) :: starEach [e2] X.env := by rfl) (hpl : (backTo pos (starEach [e2] X.env)).any (·.1) = false := by rfl) :
  PI X (.Tuple elts kk tpos) (.Call (.Name "zip" p) [e,e2] [] pos) (adE X.K ta) := by
 intro pins s σ H R I h; refine Call_ (jN I hg hm aao (PyProof.Rows.callWith_type1 (bo (ha pos pins s σ H _ I h) fun us s1 ⟨vs,H1,I1,r1,q1⟩ => ?_) hs hpl)); obtain ⟨a,b,xs,ys,ex,hqx,hqy,q⟩ := q1; subst ex
 cases r1 with
 | cons r rr =>
  cases rr with
  | cons r' rr =>
   cases rr; cases r; cases r'; obtain ⟨its,rv,p1,_⟩ := I1.list hqx; obtain ⟨its2,rv2,p2,_⟩ := I1.list hqy; have la : a < s1.heap.objs.size := p1.lt; have lb : b < s1.heap.objs.size := p2.lt; refine call_zip_2 p1.isList p2.isList fun h' hz hTI hTO h1 h2 hsz hk => wpAny_pyIter_zip hz ?_
   have I2 : ay X pins σ H1 { s1 with heap := h' } := I1.kept (t' := s1.toks) hk; refine ⟨s1.heap.objs.size + 4,[s1.heap.objs.size + 4,s1.heap.objs.size + 2,s1.heap.objs.size + 3,s1.heap.objs.size,s1.heap.objs.size + 1],_,_,H1,rfl,I2,abr (PySem.W.ktu_apart s1.heap.objs.size a b la lb),⟨hz,hTI,⟨_,_,hTO⟩,h1,h2⟩,fun c hcm => ?_,q⟩; have e' : c = s1.heap.objs.size + 4 \/ c = s1.heap.objs.size + 2 \/ c = s1.heap.objs.size + 3 \/ c = s1.heap.objs.size \/ c = s1.heap.objs.size + 1 := by simpa using hcm
   have hle : s1.heap.objs.size <= c := by
    rcases e' with z | z | z | z | z
    ·rw [z]; exact Nat.le_add_right _ _
    ·rw [z]; exact Nat.le_add_right _ _
    ·rw [z]; exact Nat.le_add_right _ _
    ·rw [z]; exact Nat.le_refl _
    ·rw [z]; exact Nat.le_add_right _ _
   exact I1.fpOk hle (I1.hok.fresh hle)
end L2
namespace TL
open PySem PySem.Builtin PySem.Builtin.Str PySem.StrLaws
abbrev tl (x : Str) : List Nat := x.cps.toList
theorem cN (x : Str) : x.length = (tl x).length := by simp [tl,Str.length]
theorem f6 (x y : Str) : tl (x ++ y) = tl x ++ tl y := by
 show (x ++ y).cps.toList = _; rw [Str.cps_append,Array.toList_append]
theorem bZ (s : String) : tl (Str.ofString s) = s.toList.map Char.toNat := PyProof.Rows.signs_ofString s
def mi (S : List Nat) : List (List Nat) -> List Nat
 | [] => []
 | [p] => p
 | p :: q :: r => p ++ (S ++ mi S (q :: r))
theorem uN (y : Str) : ∀ parts : List Str,tl (Str.join y parts) = mi (tl y) (parts.map tl)
 | [] => rfl
 | [_] => rfl
 | x :: z :: r => by
  show tl (x ++ y ++ Str.join y (z :: r)) = tl x ++ (tl y ++ mi (tl y) ((z :: r).map tl)); rw [f6,f6,uN y (z :: r),List.append_assoc]
theorem yL (y : Str) (parts : List Str) : Txt.join y parts = Str.join y parts := glued_eq_join y parts
end TL
namespace L2
open PySem PySem.Spec PyProof.Rows
theorem l8 : ∀ {ys : List Str} {us : List Value},aL (ys.map V.str) us -> StrsAre us ys
 | [],_,.nil => .nil
 | y :: ys,_,.cons r t => by
  obtain ⟨k,rfl⟩ := r; exact .cons y k (l8 t)
section
variable {X : Cx}
theorem abN : MtR X "str.join" (fun x xs H Q => ∃ a p,∃ ys : List Str,x = .str a /\ xs = [.ref p] /\ (ag X.K H p (ys.map V.str) \/ cx X.K H p (ys.map V.str)) ∧
  (ys.map (·.length)).sum + ys.length * a.length <= 16777216 /\ Q (.str (Txt.join a ys)) H) := by
 intro pins s σ H x xs v us Q I rx rs h; obtain ⟨a,p,ys,rfl,rfl,hp,hz,h⟩ := h; obtain ⟨t,rfl⟩ := rx
 cases rs with
 | cons r1 rs =>
  cases rs; cases r1
  rcases hp with hp | hp
  ·obtain ⟨its,r,⟨o,n,ho,hc,_,hd⟩,_⟩ := I.list hp; exact PyProof.Rows.join_list (items := its.toArray) ⟨o,ho,hc,n,hd⟩ (by rw [List.toList_toArray]; exact l8 r) hz fun t' k => ⟨.str _,H,I.tok k,⟨t',rfl⟩,h⟩
  ·obtain ⟨its,r,ht,_⟩ := I.tuple hp; exact PyProof.Rows.join_tuple (items := its.toArray) ht (by rw [List.toList_toArray]; exact l8 r) hz fun t' k => ⟨.str _,H,I.tok k,⟨t',rfl⟩,h⟩
end
section
variable {X : Cx} {o e : Expr} {to te : TE}
def tM1 (r : V -> List V -> Hp -> VK -> Prop) (to te : TE) : TE := fun σ H Q => to σ H fun x H1 => (∃ a,x = .str a) /\ te σ H1 fun y H2 => r x [y] H2 Q
theorem adB {id : String} {name : Str} {apos pos : Pos} {r : V -> List V -> Hp -> VK -> Prop} (slot : Slot "str" name id) (ty : typeOf (.builtin id) = pure (.type "method_descriptor")) (rule : MtR X id r) (ho : PE X o to) (he : PE X e te)
  (hs : starEach [e] X.env = [(false,eval e X.env)] := by rfl) (hbase : attributeBase o name X.env (eval o X.env) = eval o X.env := by rfl) (hline : (apos.endLine == pos.line) = true := by rfl) :
  PE X (.Call (.Attribute o name apos) [e] [] pos) (tM1 r to te) := by
 intro pins s σ H Q I h; refine PySem.Call_method1 hbase hs hline (bo (ho pins s σ H _ I h) fun v s1 ⟨x,H1,I1,r1,q1⟩ => ?_); obtain ⟨⟨a,rfl⟩,q1⟩ := q1; obtain ⟨t,rfl⟩ := _root_.id r1; refine ⟨"str",_,F.plainAttrs_str,slot,ty,typeIs_str _ _ _,(fun _ e => nomatch e),Calls.callWith_builtin rfl (Calls.evalArgs_plain (Calls.spliced_cons ?_))⟩; exact bo (he pins s1 σ H1 _ I1 q1) fun u s2 ⟨y,H2,I2,r2,q2⟩ => Calls.spliced_nil (rule pins s2 σ H2 _ [y] _ [u] Q I2 r1 (.cons r2 .nil) q2)
theorem uR {apos pos : Pos} (ho : PE X o to) (he : PE X e te) (hs : starEach [e] X.env = [(false,eval e X.env)] := by rfl) (hbase : attributeBase o "join" X.env (eval o X.env) = eval o X.env := by rfl) (hline : (apos.endLine == pos.line) = true := by rfl) :
  PE X (.Call (.Attribute o "join" apos) [e] [] pos) (tM1 (fun x xs H Q => ∃ a p,∃ ys : List Str,x = .str a /\ xs = [.ref p] /\ (ag X.K H p (ys.map V.str) \/ cx X.K H p (ys.map V.str)) ∧
   (ys.map (·.length)).sum + ys.length * a.length <= 16777216 /\ Q (.str (Txt.join a ys)) H) to te) :=
 adB F.slot_str_join F.type_str_join abN ho he hs hbase hline
end
open PySem.W (WData Codec OpenSpec Well WellAll ReadsW ReadsAllW)
mutual
inductive Dw (K : Fg) (H : Hp) : V -> WData -> Prop
 | non : Dw K H .non .none
 | bl (b : Bool) : Dw K H (.bl b) (.bool b)
 | int (i : Int) : Dw K H (.int i) (.int i)
 | str (x : Str) : Dw K H (.str x) (.str x)
 | byt (b : Array UInt8) : Dw K H (.byt b) (.bytes b.toList)
 | lst {a : Addr} {xs : List V} {ds : List WData} : ag K H a xs -> gU K H xs ds -> Dw K H (.ref a) (.list ds)
 | tup {a : Addr} {xs : List V} {ds : List WData} : cx K H a xs -> gU K H xs ds -> Dw K H (.ref a) (.tuple ds)
inductive gU (K : Fg) (H : Hp) : List V -> List WData -> Prop
 | nil : gU K H [] []
 | cons {v : V} {vs : List V} {d : WData} {ds : List WData} : Dw K H v d -> gU K H vs ds -> gU K H (v :: vs) (d :: ds)
end
theorem x_ {K : Fg} {H : Hp} : ∀ ns : List Int,gU K H (ns.map V.int) (ns.map WData.int)
 | [] => .nil
 | n :: r => .cons (.int n) (x_ r)
theorem yj {K : Fg} {H : Hp} : ∀ (ns : List Int) (xs : List V),gU K H xs (ns.map WData.int) -> xs = ns.map V.int
 | [],xs,h => by
  cases h; rfl
 | n :: r,xs,h => by
  cases h with
  | cons h1 h2 =>
   cases h1; rw [yj r _ h2] <;> rfl
section
variable {P : Program} {w : World} {K : Fg} {H : Hp} {h : Heap} {R : PySem.W.WRecords} {cl : Str -> Option Addr}
theorem acM {a : Addr} {xs : List V} (hok : dY P w H h) (KX : K.In h) (q : ag K H a xs) : ∃ (its : List Value) (o : Obj) (n : Nat),aL xs its /\ h.get? a = some o /\ o.cls = .type "list" /\ o.data = .seq its.toArray n := by
 rcases q with q | ⟨o,its,n,e,hc,_,hd,_,hv⟩
 ·obtain ⟨_,its,n,hv,e⟩ := (show db P w H h a (.lst xs) from q.ok hok); exact ⟨its,_,n,hv,e,rfl,rfl⟩
 ·exact ⟨its.toList,o,n,hv,KX _ _ e,hc,by simp [hd]⟩
theorem acB {a : Addr} {xs : List V} (hok : dY P w H h) (KX : K.In h) (q : cx K H a xs) : ∃ (its : List Value) (o : Obj) (n : Nat),aL xs its /\ h.get? a = some o /\ o.cls = .type "tuple" /\ o.data = .seq its.toArray n := by
 rcases q with q | ⟨o,its,n,e,hc,hd,_,hv⟩
 ·obtain ⟨_,its,hv,o,e,hc,n,hd⟩ := (show db P w H h a (.tup xs) from q.ok hok); exact ⟨its,o,n,hv,e,hc,hd⟩
 ·exact ⟨its.toList,o,n,hv,KX _ _ e,hc,by simp [hd]⟩
mutual
theorem Dw.reads (hok : dY P w H h) (KX : K.In h) : ∀ (d : WData) (v : V) (u : Value),Dw K H v d -> bu v u -> ∃ as,ReadsW R cl h u d as
 | .none,_,_,x,r => by
  cases x; cases r; exact ⟨_,ReadsW.none⟩
 | .bool b,_,_,x,r => by
  cases x; cases r; exact ⟨_,ReadsW.bool b⟩
 | .int i,_,_,x,r => by
  cases x; obtain ⟨t,rfl⟩ := r; exact ⟨_,ReadsW.int i t⟩
 | .str s,_,_,x,r => by
  cases x; obtain ⟨t,rfl⟩ := r; exact ⟨_,ReadsW.str s t⟩
 | .bytes b,_,_,x,r => by
  cases x; obtain ⟨t,rfl⟩ := r; exact ⟨_,ReadsW.bytes _ t⟩
 | .list ds,_,_,x,r => by
  cases x with
  | lst hs ha =>
   cases r; obtain ⟨its,o,n,rv,ho,hc,hd⟩ := acM hok KX hs; obtain ⟨as,hr⟩ := Dw.readsAll hok KX ds _ its ha rv; exact ⟨_,ReadsW.list ho hc hd hr⟩
 | .tuple ds,_,_,x,r => by
  cases x with
  | tup hs ha =>
   cases r; obtain ⟨its,o,n,rv,ho,hc,hd⟩ := acB hok KX hs; obtain ⟨as,hr⟩ := Dw.readsAll hok KX ds _ its ha rv; exact ⟨_,ReadsW.tuple ho hc hd hr⟩
 | .float _,_,_,x,_ => by cases x
 | .dict _,_,_,x,_ => by cases x
 | .bytearray _,_,_,x,_ => by cases x
 | .set _,_,_,x,_ => by cases x
 | .frozenset _,_,_,x,_ => by cases x
 | .obj _ _,_,_,x,_ => by cases x
theorem Dw.readsAll (hok : dY P w H h) (KX : K.In h) : ∀ (ds : List WData) (vs : List V) (us : List Value),gU K H vs ds -> aL vs us -> ∃ as,ReadsAllW R cl h us ds as
 | [],_,_,x,r => by
  cases x; cases r; exact ⟨_,ReadsAllW.nil⟩
 | d :: ds,_,_,x,r => by
  cases x with
  | cons h1 h2 =>
   cases r with
   | cons r1 r2 =>
    obtain ⟨as,q1⟩ := Dw.reads hok KX d _ _ h1 r1; obtain ⟨bs,q2⟩ := Dw.readsAll hok KX ds _ _ h2 r2; exact ⟨_,ReadsAllW.cons q1 q2⟩
end
end
mutual
def my : WData -> Bool
 | .none => true
 | .bool _ => true
 | .int _ => true
 | .str _ => true
 | .bytes _ => true
 | .list xs => kt xs
 | .tuple xs => kt xs
 | _ => false
def kt : List WData -> Bool
 | [] => true
 | x :: r => my x && kt r
end
theorem xh {α : Type} {f : α -> WData} (h : ∀ a,my (f a) = true) : ∀ l : List α,kt (l.map f) = true
 | [] => rfl
 | x :: r => by
  show (my (f x) && kt (r.map f)) = true; rw [h x,xh h r] <;> rfl
theorem j3 : ∀ (c : Codec) (a : c.denote),my (c.enc a) = true
 | .unit,_ => rfl
 | .bool,_ => rfl
 | .int _ _,_ => rfl
 | .nat _ _,_ => rfl
 | .u8,_ => rfl
 | .bytes _ _,_ => rfl
 | .text _ _ _ _,_ => rfl
 | .list _ _ c,a => xh (fun x => j3 c x) a
 | .pair c d,a => by
  show (my (c.enc a.1) && (my (d.enc a.2) && true)) = true; rw [j3 c a.1,j3 d a.2] <;> rfl
 | .triple c d e,a => by
  show (my (c.enc a.1) && (my (d.enc a.2.1) && (my (e.enc a.2.2) && true))) = true; rw [j3 c a.1,j3 d a.2.1,j3 e a.2.2] <;> rfl
 | .option c,none => rfl
 | .option c,some x => j3 c x
theorem va : ∀ (cs : List Codec) (a : Codec.denoteAll cs),kt (Codec.encAll cs a) = true
 | [],_ => rfl
 | c :: cs,a => by
  show (my (c.enc a.1) && kt (Codec.encAll cs a.2)) = true; rw [j3 c a.1,va cs a.2] <;> rfl
theorem o3 : ∀ {xs : List WData} {d : WData},d ∈ xs -> d.weight <= WData.weightAll xs
 | [],d,h => absurd h (by simp)
 | x :: r,d,h => by
  show d.weight <= x.weight + 1 + WData.weightAll r
  rcases List.mem_cons.mp h with e | m
  ·rw [e]; omega
  ·have z := o3 m; omega
def jZ : Value -> V
 | .none => .non
 | .bool b => .bl b
 | .int i _ => .int i
 | .str x _ => .str x
 | .bytes b _ => .byt b
 | .ref a => .ref a
 | _ => .non
def oq (A : List Addr) : Value -> Prop
 | .none => True
 | .bool _ => True
 | .int _ _ => True
 | .str _ _ => True
 | .bytes _ _ => True
 | .ref a => a ∈ A
 | _ => False
theorem oq.mono {A B : List Addr} (h : ∀ a ∈ A,a ∈ B) : ∀ {u : Value},oq A u -> oq B u := fun {u} x => by
 cases u with
 | ref a => exact h a x
 | none => trivial
 | bool b => trivial
 | int i t => trivial
 | str s t => trivial
 | bytes b t => trivial
 | _ => exact False.elim x
theorem aaR {A : List Addr} {u : Value} (x : oq A u) : bu (jZ u) u := by
 cases u with
 | ref a => rfl
 | none => rfl
 | bool b => rfl
 | int i t => exact ⟨t,rfl⟩
 | str s t => exact ⟨t,rfl⟩
 | bytes b t => exact ⟨t,rfl⟩
 | _ => exact False.elim x
theorem jo {A : List Addr} : ∀ {vs : List Value},(∀ u ∈ vs,oq A u) -> aL (vs.map jZ) vs
 | [],_ => .nil
 | u :: r,h => .cons (aaR (h u (List.mem_cons_self ..))) (jo fun x hx => h x (List.mem_cons_of_mem _ hx))
def gP (h : Heap) (A : List Addr) (a : Addr) : Prop := ∃ vs : List Value,vs.length <= sizeLine /\ (∀ u ∈ vs,oq A u) ∧
 (h.get? a = some { cls := .type "list",data := .seq vs.toArray } \/ h.get? a = some { cls := .type "tuple",data := .seq vs.toArray })
theorem gP.mono {h : Heap} {A B : List Addr} {a : Addr} (k : ∀ a ∈ A,a ∈ B) (x : gP h A a) : gP h B a := by
 obtain ⟨vs,h1,h2,h3⟩ := x; exact ⟨vs,h1,fun u hu => (h2 u hu).mono k,h3⟩
theorem jL {P : Params} {h : Heap} : ∀ {vs : List Value} {ds : List WData},WellAll P h vs ds -> vs.length = ds.length
 | _,_,.nil => rfl
 | _,_,.cons _ b => by
  show _ + 1 = _ + 1; rw [jL b]
theorem vm {P : Params} {h : Heap} {v : Value} {ds : List WData} (x : Well P h v (.list ds)) : ∃ (a : Addr) (vs : List Value),v = .ref a /\ h.get? a = some { cls := .type "list",data := .seq vs.toArray } /\ WellAll P h vs ds := by
 cases x with
 | list ho hall => exact ⟨_,_,rfl,ho,hall⟩
theorem tZ {P : Params} {h : Heap} {v : Value} {ds : List WData} (x : Well P h v (.tuple ds)) : ∃ (a : Addr) (vs : List Value),v = .ref a /\ h.get? a = some { cls := .type "tuple",data := .seq vs.toArray } /\ WellAll P h vs ds := by
 cases x with
 | tuple ho hall => exact ⟨_,_,rfl,ho,hall⟩
theorem vh {P : Params} {h : Heap} {us : List Value} {d : WData} {ds : List WData} (x : WellAll P h us (d :: ds)) : ∃ (v : Value) (vs : List Value),us = v :: vs /\ Well P h v d /\ WellAll P h vs ds := by
 cases x with
 | cons a b => exact ⟨_,_,rfl,a,b⟩
theorem ye {n : Nat} (h : n <= 1048576) : n <= sizeLine := Nat.le_trans h (by decide)
section
variable {P : Params} {h : Heap}
mutual
theorem aaT : ∀ (d : WData) (v : Value),Well P h v d -> my d = true -> d.weight <= 1048576 -> ∃ A : List Addr,oq A v /\ ∀ a ∈ A,gP h A a
 | .none,_,x,_,_ => by
  cases x; exact ⟨[],trivial,fun a m => absurd m (by simp)⟩
 | .bool b,_,x,_,_ => by
  cases x; exact ⟨[],trivial,fun a m => absurd m (by simp)⟩
 | .int i,_,x,_,_ => by
  cases x; exact ⟨[],trivial,fun a m => absurd m (by simp)⟩
 | .str s,_,x,_,_ => by
  cases x; exact ⟨[],trivial,fun a m => absurd m (by simp)⟩
 | .bytes b,_,x,_,_ => by
  cases x; exact ⟨[],trivial,fun a m => absurd m (by simp)⟩
 | .list ds,_,x,p,z => by
  obtain ⟨a,vs,rfl,ho,hall⟩ := vm x; have z2 : WData.weightAll ds <= 1048576 := z
  obtain ⟨A,h1,h2⟩ := oM ds _ hall p fun d hd => Nat.le_trans (o3 hd) z2
  have k : ∀ b ∈ A,b ∈ a :: A := fun b hb => List.mem_cons_of_mem _ hb
  refine ⟨a :: A,List.mem_cons_self ..,fun b hb => ?_⟩
  rcases List.mem_cons.mp hb with e | m
  ·rw [e]; exact ⟨vs,ye (by rw [jL hall]; exact Nat.le_trans (PySem.W.length_le_weightAllW ds) z2),fun u hu => (h1 u hu).mono k,.inl ho⟩
  ·exact (h2 b m).mono k
 | .tuple ds,_,x,p,z => by
  obtain ⟨a,vs,rfl,ho,hall⟩ := tZ x; have z2 : WData.weightAll ds <= 1048576 := z
  obtain ⟨A,h1,h2⟩ := oM ds _ hall p fun d hd => Nat.le_trans (o3 hd) z2
  have k : ∀ b ∈ A,b ∈ a :: A := fun b hb => List.mem_cons_of_mem _ hb
  refine ⟨a :: A,List.mem_cons_self ..,fun b hb => ?_⟩
  rcases List.mem_cons.mp hb with e | m
  ·rw [e]; exact ⟨vs,ye (by rw [jL hall]; exact Nat.le_trans (PySem.W.length_le_weightAllW ds) z2),fun u hu => (h1 u hu).mono k,.inr ho⟩
  ·exact (h2 b m).mono k
 | .float _,_,_,p,_ => Bool.noConfusion (show false = true from p)
 | .dict _,_,_,p,_ => Bool.noConfusion (show false = true from p)
 | .bytearray _,_,_,p,_ => Bool.noConfusion (show false = true from p)
 | .set _,_,_,p,_ => Bool.noConfusion (show false = true from p)
 | .frozenset _,_,_,p,_ => Bool.noConfusion (show false = true from p)
 | .obj _ _,_,_,p,_ => Bool.noConfusion (show false = true from p)
theorem oM : ∀ (ds : List WData) (vs : List Value),WellAll P h vs ds -> kt ds = true -> (∀ d ∈ ds,d.weight <= 1048576) -> ∃ A : List Addr,(∀ u ∈ vs,oq A u) /\ ∀ a ∈ A,gP h A a
 | [],_,x,_,_ => by
  cases x; exact ⟨[],fun u m => absurd m (by simp),fun a m => absurd m (by simp)⟩
 | d :: ds,_,x,p,z => by
  obtain ⟨v,vs,rfl,x1,x2⟩ := vh x; have q : my d = true /\ kt ds = true := Bool.and_eq_true_iff.mp p; obtain ⟨A,a1,a2⟩ := aaT d v x1 q.1 (z d (List.mem_cons_self ..))
  obtain ⟨B,b1,b2⟩ := oM ds vs x2 q.2 fun e he => z e (List.mem_cons_of_mem _ he)
  have kA : ∀ b ∈ A,b ∈ A ++ B := fun b hb => List.mem_append.mpr (.inl hb)
  have kB : ∀ b ∈ B,b ∈ A ++ B := fun b hb => List.mem_append.mpr (.inr hb)
  refine ⟨A ++ B,fun u hu => ?_,fun b hb => ?_⟩
  ·rcases List.mem_cons.mp hu with e | m
   ·rw [e]; exact a1.mono kA
   ·exact (b1 u m).mono kB
  ·rcases List.mem_append.mp hb with m | m
   ·exact (a2 b m).mono kA
   ·exact (b2 b m).mono kB
end
end
def zu (o : Obj) : Option HO := match o.data with
 | .seq vs _ => if (o.cls == Value.type "list") = true then some (.frz o (.lst (vs.toList.map jZ))) else some (.frz o (.tup (vs.toList.map jZ)))
 | _ => none
def eV (K : Fg) (h : Heap) (A : List Addr) : Hp := fun b => if b ∈ A then (if (K.lookup b).isNone = true then (h.get? b).bind zu else none) else none
def ui (H : Hp) : Prop := ∀ b,H b = none \/ ∃ o u,H b = some (.frz o u)
theorem wU (vs : List Value) : zu { cls := .type "list",data := .seq vs.toArray } = some (.frz { cls := .type "list",data := .seq vs.toArray } (.lst (vs.map jZ))) := by
 show (if (Value.type "list" == Value.type "list") = true then some (HO.frz { cls := .type "list",data := .seq vs.toArray } (.lst (vs.toArray.toList.map jZ))) else some (HO.frz { cls := .type "list",data := .seq vs.toArray } (.tup (vs.toArray.toList.map jZ)))) = _; rw [if_pos (beq_self_eq_true _)]
theorem xo (vs : List Value) : zu { cls := .type "tuple",data := .seq vs.toArray } = some (.frz { cls := .type "tuple",data := .seq vs.toArray } (.tup (vs.map jZ))) := by
 show (if (Value.type "tuple" == Value.type "list") = true then some (HO.frz { cls := .type "tuple",data := .seq vs.toArray } (.lst (vs.toArray.toList.map jZ))) else some (HO.frz { cls := .type "tuple",data := .seq vs.toArray } (.tup (vs.toArray.toList.map jZ)))) = _; rw [if_neg (by decide)]
section
variable {P : Program} {w : World} {K : Fg} {h : Heap} {A : List Addr}
theorem rn {b : Addr} {o : Obj} (hb : b ∈ A) (hk : K.lookup b = none) (e : h.get? b = some o) : eV K h A b = zu o := by
 unfold eV; rw [if_pos hb,hk,if_pos (show (none : Option Obj).isNone = true from rfl),e] <;> rfl
theorem abW {b : Addr} {u : HO} (q : eV K h A b = some u) : b ∈ A /\ K.lookup b = none := by
 unfold eV at q
 by_cases hb : b ∈ A
 ·rw [if_pos hb] at q
  cases hk : K.lookup b with
  | none => exact ⟨hb,rfl⟩
  | some o =>
   rw [hk,if_neg (by simp)] at q; cases q
 ·rw [if_neg hb] at q; cases q
theorem rE (ar : ∀ a ∈ A,gP h A a) {b : Addr} {u : HO} (q : eV K h A b = some u) : K.lookup b = none /\ ∃ vs : List Value,vs.length <= sizeLine /\ (∀ u ∈ vs,oq A u) ∧
  ((h.get? b = some { cls := .type "list",data := .seq vs.toArray } /\ u = .frz { cls := .type "list",data := .seq vs.toArray } (.lst (vs.map jZ))) ∨
   (h.get? b = some { cls := .type "tuple",data := .seq vs.toArray } /\ u = .frz { cls := .type "tuple",data := .seq vs.toArray } (.tup (vs.map jZ)))) := by
 obtain ⟨hb,hk⟩ := abW q; obtain ⟨vs,h1,h2,h3⟩ := ar b hb; refine ⟨hk,vs,h1,h2,?_⟩
 rcases h3 with e | e
 ·rw [rn hb hk e,wU] at q; exact .inl ⟨e,(Option.some.inj q).symm⟩
 ·rw [rn hb hk e,xo] at q; exact .inr ⟨e,(Option.some.inj q).symm⟩
theorem aaa (ar : ∀ a ∈ A,gP h A a) : ui (eV K h A) := fun b => by
 cases q : eV K h A b with
 | none => exact .inl rfl
 | some u =>
  obtain ⟨_,vs,_,_,⟨_,e⟩ | ⟨_,e⟩⟩ := rE ar q
  ·exact .inr ⟨_,_,by rw [e]⟩
  ·exact .inr ⟨_,_,by rw [e]⟩
theorem abO (ar : ∀ a ∈ A,gP h A a) : dY P w (eV K h A) h := fun b u q => by
 obtain ⟨_,vs,h1,h2,⟨e,rfl⟩ | ⟨e,rfl⟩⟩ := rE ar q
 ·exact ⟨e,by rw [List.length_map]; exact h1,vs,_,jo h2,e⟩
 ·exact ⟨e,by rw [List.length_map]; exact h1,vs,jo h2,_,e,rfl,_,rfl⟩
theorem rj {c c' : Value} {vs us : List Value} (e : (some { cls := c,data := .seq vs.toArray } : Option Obj) = some { cls := c',data := .seq us.toArray }) : c = c' /\ vs = us := by
 have e1 := Option.some.inj e; have e2 : c = c' := congrArg Obj.cls e1; have e3 : Data.seq vs.toArray = Data.seq us.toArray := congrArg Obj.data e1
 injection e3 with e4
 refine ⟨e2,?_⟩; have e5 := congrArg Array.toList e4
 simpa using e5
theorem aed (KX : K.In h) (ar : ∀ a ∈ A,gP h A a) {a : Addr} {vs : List Value} (ha : a ∈ A) (e : h.get? a = some { cls := .type "list",data := .seq vs.toArray }) : (∀ u ∈ vs,oq A u) /\ ag K (eV K h A) a (vs.map jZ) := by
 obtain ⟨us,h1,h2,h3⟩ := ar a ha
 have hu : us = vs := by
  rcases h3 with q | q
  ·rw [e] at q; exact (rj q).2.symm
  ·rw [e] at q; exact absurd (Value.type.inj (rj q).1) (by decide)
 subst hu; refine ⟨h2,?_⟩
 cases hk : K.lookup a with
 | none => exact .inl (.inr ⟨_,by rw [rn ha hk e,wU]⟩)
 | some o =>
  have e2 := KX a o hk; rw [e] at e2; obtain rfl := Option.some.inj e2; exact .inr ⟨_,us.toArray,_,hk,rfl,rfl,rfl,by rw [List.size_toArray]; exact h1,by simpa using jo h2⟩
theorem adG (KX : K.In h) (ar : ∀ a ∈ A,gP h A a) {a : Addr} {vs : List Value} (ha : a ∈ A) (e : h.get? a = some { cls := .type "tuple",data := .seq vs.toArray }) : (∀ u ∈ vs,oq A u) /\ cx K (eV K h A) a (vs.map jZ) := by
 obtain ⟨us,h1,h2,h3⟩ := ar a ha
 have hu : us = vs := by
  rcases h3 with q | q
  ·rw [e] at q; exact absurd (Value.type.inj (rj q).1) (by decide)
  ·rw [e] at q; exact (rj q).2.symm
 subst hu; refine ⟨h2,?_⟩
 cases hk : K.lookup a with
 | none => exact .inl (.inr ⟨_,by rw [rn ha hk e,xo]⟩)
 | some o =>
  have e2 := KX a o hk; rw [e] at e2; obtain rfl := Option.some.inj e2; exact .inr ⟨_,us.toArray,_,hk,rfl,rfl,by rw [List.size_toArray]; exact h1,by simpa using jo h2⟩
mutual
theorem acg {Pm : Params} (KX : K.In h) (ar : ∀ a ∈ A,gP h A a) : ∀ (d : WData) (v : Value),Well Pm h v d -> my d = true -> oq A v -> Dw K (eV K h A) (jZ v) d
 | .none,_,x,_,_ => by
  cases x; exact .non
 | .bool b,_,x,_,_ => by
  cases x; exact .bl b
 | .int i,_,x,_,_ => by
  cases x; exact .int i
 | .str s,_,x,_,_ => by
  cases x; exact .str s
 | .bytes b,_,x,_,_ => by
  cases x; have z := Dw.byt (K := K) (H := eV K h A) b.toArray; exact z
 | .list ds,_,x,p,hu => by
  obtain ⟨a,vs,rfl,ho,hall⟩ := vm x; obtain ⟨h2,hs⟩ := aed KX ar hu ho; exact .lst hs (uj KX ar ds _ hall p h2)
 | .tuple ds,_,x,p,hu => by
  obtain ⟨a,vs,rfl,ho,hall⟩ := tZ x; obtain ⟨h2,hs⟩ := adG KX ar hu ho; exact .tup hs (uj KX ar ds _ hall p h2)
 | .float _,_,_,p,_ => Bool.noConfusion (show false = true from p)
 | .dict _,_,_,p,_ => Bool.noConfusion (show false = true from p)
 | .bytearray _,_,_,p,_ => Bool.noConfusion (show false = true from p)
 | .set _,_,_,p,_ => Bool.noConfusion (show false = true from p)
 | .frozenset _,_,_,p,_ => Bool.noConfusion (show false = true from p)
 | .obj _ _,_,_,p,_ => Bool.noConfusion (show false = true from p)
theorem uj {Pm : Params} (KX : K.In h) (ar : ∀ a ∈ A,gP h A a) : ∀ (ds : List WData) (vs : List Value),WellAll Pm h vs ds -> kt ds = true -> (∀ u ∈ vs,oq A u) -> gU K (eV K h A) (vs.map jZ) ds
 | [],_,x,_,_ => by
  cases x; exact .nil
 | d :: ds,_,x,p,hu => by
  obtain ⟨v,vs,rfl,x1,x2⟩ := vh x; have q : my d = true /\ kt ds = true := Bool.and_eq_true_iff.mp p; exact .cons (acg KX ar d v x1 q.1 (hu _ (List.mem_cons_self ..))) (uj KX ar ds vs x2 q.2 fun u m => hu u (List.mem_cons_of_mem _ m))
end
end
theorem aaD {P : Program} {w : World} {K : Fg} {mg mb : Str -> Option Value} {CX : qc} {k : Nat} {fa : Addr} {fd : FuncData} {ps : List Str} {sp : Sp} {s₁ : Shared} {vals : List Value} {ds : List WData} {R : PySem.W.WRecords} {cl : Str -> Option Addr} {d0 : WData}
  (KX : K.In s₁.heap) (hns : s₁.heap.Ns mainGlobals mg) (hb : s₁.heap.Ns builtinsNs mb) (hbb : ∀ x : Str,x ≠ "__name__" -> mb x = bootBuiltins x) (hlim : s₁.heap.NoLimit) (hg : s₁.gens = #[])
  (hwl : WellAll w.params s₁.heap vals ds) (hpl : kt ds = true) (hwt : ∀ d ∈ ds,d.weight <= 1048576) (hr : bM k callerA)
  (F : ∀ base : Heap,K.In base -> base.Ns mainGlobals mg -> f7 P w K mg base CX k fa fd ps sp) (hbind : ∀ (s : Shared) (us : List Value),us.length = ps.length -> BindsTo s fd ⟨us,[]⟩ (ps.zip us)) (hlen : ds.length = ps.length)
  (hsp : ∀ (H : Hp) (xs : List V),ui H -> gU K H xs ds -> sp xs H (fun v H' => Dw K H' v d0) fun _ _ _ => False)
  (hCX : ∀ H e s',CX [] H s₁ (fun _ _ _ => False) e s' -> False) :
  codeAny (model P w) callerA (.call (.ref fa) ⟨vals,[]⟩) (fun r s' => ∃ u as,r = .ok (.ret u) /\ ReadsW R cl s'.heap u d0 as /\ OldK s₁.heap s'.heap /\ s'.os = s₁.os /\ AllBare s'.gens) s₁ := by
 obtain ⟨A,ho,ar⟩ := oM ds vals hwl hpl hwt; have hO : ui (eV K s₁.heap A) := aaa ar; have hok : dY P w (eV K s₁.heap A) s₁.heap := abO ar; have hS := uj KX ar ds vals hwl hpl ho; have hV := jo ho; have hK : ∀ b u,eV K s₁.heap A b = some u -> K.lookup b = none := fun b u q => (rE ar q).1
 have noA : ∀ {b : Addr} {o : Obj} {es : Array DictEntry} {ep : Nat},s₁.heap.get? b = some o -> o.data = .dict es ep -> eV K s₁.heap A b = none := fun {b o es ep} e d => by
  cases q : eV K s₁.heap A b with
  | none => rfl
  | some u =>
   obtain ⟨_,vs,_,_,⟨e2,_⟩ | ⟨e2,_⟩⟩ := rE ar q
   ·rw [e2] at e; cases e; have d' : Data.seq vs.toArray _ = Data.dict es ep := d; cases d'
   ·rw [e2] at e; cases e; have d' : Data.seq vs.toArray _ = Data.dict es ep := d; cases d'
 generalize eV K s₁.heap A = H at hO hok hS hK noA; have base_of : ∀ {b : Addr} {o : Obj},s₁.heap.get? b = some o -> H b = none -> (o6 s₁.heap H).get? b = some o := fun e n => abh e n
 have nsK : ∀ {b : Addr} {m : Str -> Option Value},s₁.heap.Ns b m -> (o6 s₁.heap H).Ns b m := fun {b m} ⟨o,es,ep,e,d,r⟩ => ⟨o,es,ep,base_of e (noA e d),d,r⟩
 have nK : ∀ b o,K.lookup b = some o -> H b = none := fun b o e => by
  cases q : H b with
  | none => rfl
  | some u =>
   rw [hK b u q] at e; cases e
 have hKb : K.In (o6 s₁.heap H) := fun b o e => base_of (KX b o e) (nK b o e)
 have hM : Mod K mg (o6 s₁.heap H) := ⟨hKb,nsK hns,⟨mb,nsK hb,hbb⟩,let ⟨mc,h1,h2⟩ := hlim; ⟨mc,nsK h1,h2⟩⟩; have e0 : sQ P w K mg (o6 s₁.heap H) callerA [] s₁ H := ⟨rfl,hM,fun b o e => ab9 e,Nat.le_of_eq (aav _ _),trivial,fun b hb => absurd (show b ∈ ([] : List Addr) from hb) (by simp),hok,.of_eq hg⟩; have hl : vals.length = ps.length := by rw [jL hwl]; exact hlen
 refine codeAny_mono ((F _ hKb (nsK hns)).run callerA [] s₁ H ⟨vals,[]⟩ vals (vals.map jZ) _ _ hr e0 (hbind s₁ vals hl) hV (hsp H _ hO hS)) fun r s' x => ?_
 cases r with
 | error e => exact (hCX H e s' x).elim
 | ok fl =>
  cases fl with
  | next => exact False.elim x
  | brk => exact False.elim x
  | cont => exact False.elim x
  | ret u =>
   obtain ⟨v,H',os,bare,un,hok',r',q⟩ := x
   have kept : ∀ b o,s₁.heap.get? b = some o -> s'.heap.get? b = some o := fun b o e => by
    cases q2 : H b with
    | none => exact un.keep b o e q2 (by intro z; exact absurd (show b ∈ ([] : List Addr) from z) (by simp)) (by simp)
    | some u2 =>
     rcases hO b with z | ⟨ob,u3,z⟩
     ·rw [q2] at z; cases z
     ·have z2 := un.frzs b ob _ z; obtain ⟨e1,_⟩ := hok b _ z; obtain ⟨e2,_⟩ := hok' b _ z2; rw [e] at e1; cases e1; exact e2
   have KX' : K.In s'.heap := fun b o e => kept b o (KX b o e)
   obtain ⟨as,hrd⟩ := Dw.reads (R := R) (cl := cl) hok' KX' d0 v u q r'; exact ⟨u,as,rfl,hrd,OldK.of_keep kept,os,bare⟩
theorem uI {ds : List WData} (h : WData.layableAll ds = true) : ∀ d ∈ ds,d.weight <= 1048576 := fun d hd =>
 (PySem.W.layableW_iff.mp (List.all_eq_true.mp h d hd)).2.2
theorem tW : ∀ (cs : List Codec) (a : Codec.denoteAll cs),(Codec.encAll cs a).length = cs.length
 | [],_ => rfl
 | c :: cs,a => by
  show (Codec.encAll cs a.2).length + 1 = cs.length + 1; rw [tW cs a.2]
theorem aap {r : OpenSpec} {k : Nat} {q : Program} {loose : List Str} {XP : (Str -> Option Value) -> Heap -> Prop} {YP : World -> Heap -> Prop} {d : DefRec} {K : Params -> Fg} {CX : World -> qc} {ps : List Str} {sp : World -> Sp}
  (hwell : r.wellSaid = true) (hdf : d.params.defaults = []) (hlen : r.args.length = ps.length) (hr : bM k callerA)
  (hY : ∀ (w : World) (h : Heap),YP w h -> (K w.params).In h)
  (F : ∀ (w : World) (mg : Str -> Option Value) (fa : Addr) (h : Heap),YP w h -> (K w.params).In h -> h.Ns mainGlobals mg -> mg d.name = some (.ref fa) →
   ∃ fd : FuncData,(∀ (s : Shared) (us : List Value),us.length = ps.length -> BindsTo s fd ⟨us,[]⟩ (ps.zip us)) ∧
    ∀ base : Heap,(K w.params).In base -> base.Ns mainGlobals mg -> f7 r.prog w (K w.params) mg base (CX w) k fa fd ps (sp w))
  (hsp : ∀ (w : World) (H : Hp) (xs : List V) (a : Codec.denoteAll r.args),ui H -> Codec.withinAll r.args a = true -> Codec.app r.args r.asked a = true -> gU (K w.params) H xs (Codec.encAll r.args a) →
   sp w xs H (fun v H' => Dw (K w.params) H' v (r.ret.enc (Codec.app r.args r.f a))) fun _ _ _ => False)
  (hCX : ∀ (w : World) (H : Hp) (s : Shared) (e : Value) (s' : Shared),CX w [] H s (fun _ _ _ => False) e s' -> False) :
  PySem.W.WalkOS q loose XP YP r d [] (fun f vs => PySem.call f vs) := by
 intro w s_0 s₁ mg mb G Y fa o pm cd doc dV kV ho hd hcd hD hmg hg args vals as hpre hlay hrd hwl hlo; obtain ⟨a,e1,e2⟩ := PySem.W.os_pre_some hpre; obtain ⟨e3,hwi⟩ := Codec.encAll_of_decAll r.args args a e1; subst e3; have KX := hY w _ Y; obtain ⟨fd,hb,hF⟩ := F w mg fa _ Y KX G.T.g hmg
 refine PySem.W.enter_call (codeAny_mono (aaD (R := []) (cl := classAt s_0.heap) (d0 := r.ret.enc (Codec.app r.args r.f a)) KX G.T.g G.T.b G.T.builtins G.T.nolimit hg hwl (va _ _) (uI hlay) hr hF hb (by rw [tW]; exact hlen)
  (fun H xs hO hS => hsp w H xs a hO hwi e2 hS) fun H e s' => hCX w H s₁ e s') fun r' s' hq => ?_)
 obtain ⟨u,as',rfl,h1,h2,h3,h4⟩ := hq; exact ⟨.inl ⟨u,_,as',rfl,fun _ => rfl,h1,(OpenSpec.post_iff hwell hwi _ _).mpr rfl,fun z => Bool.noConfusion (show false = true from z)⟩,h2,h3,h4⟩
theorem zb {r : OpenSpec} {k : Nat} {q : Program} {loose : List Str} {XP : (Str -> Option Value) -> Heap -> Prop} {YP : World -> Heap -> Prop} {d : DefRec} {K : Params -> Fg} {CX : qc} {ps : List Str} {sp : Fg -> Sp}
  (hwell : r.wellSaid = true) (hdf : d.params.defaults = []) (hlen : r.args.length = ps.length) (hr : bM k callerA)
  (hY : ∀ (w : World) (h : Heap),YP w h -> (K w.params).In h)
  (F : ∀ (w : World) (mg : Str -> Option Value) (fa : Addr) (h : Heap),YP w h -> (K w.params).In h -> h.Ns mainGlobals mg -> mg d.name = some (.ref fa) →
   ∃ fd : FuncData,(∀ (s : Shared) (us : List Value),us.length = ps.length -> BindsTo s fd ⟨us,[]⟩ (ps.zip us)) ∧
    ∀ base : Heap,(K w.params).In base -> base.Ns mainGlobals mg -> f7 r.prog w (K w.params) mg base CX k fa fd ps (sp (K w.params)))
  (hsp : ∀ (K : Fg) (H : Hp) (xs : List V) (a : Codec.denoteAll r.args),ui H -> Codec.withinAll r.args a = true -> Codec.app r.args r.asked a = true -> gU K H xs (Codec.encAll r.args a) →
   sp K xs H (fun v H' => Dw K H' v (r.ret.enc (Codec.app r.args r.f a))) fun _ _ _ => False)
  (hCX : ∀ (H : Hp) (s : Shared) (e : Value) (s' : Shared),CX [] H s (fun _ _ _ => False) e s' -> False) :
  PySem.W.WalkOS q loose XP YP r d [] (fun f vs => PySem.call f vs) :=
 aap (K := K) (CX := fun _ => CX) (sp := fun w => sp (K w.params)) hwell hdf hlen hr hY F (fun w H xs a h1 h2 h3 h4 => hsp (K w.params) H xs a h1 h2 h3 h4) fun _ H s e s' => hCX H s e s'
def jk (s : Stmt) (j : Nat) : Stmt := match s with
 | .ClassDef _ _ _ body _ _ _ _ _ _ _ => body.getD j (.Pass ⟨0,0,0,0⟩)
 | _ => .Pass ⟨0,0,0,0⟩
def dc (s : Stmt) : Arguments := match s with
 | .FunctionDef _ a _ _ _ _ _ _ _ _ => a
 | _ => { posonlyargs := [],args := [],vararg := none,kwonlyargs := [],kw_defaults := [],kwarg := none,defaults := [] }
def b9 (s : Stmt) : List Stmt := match s with
 | .FunctionDef _ _ b _ _ _ _ _ _ _ => b
 | _ => []
def aj (s : Stmt) : Scope := match s with
 | .FunctionDef _ _ _ _ _ _ sc _ _ _ => sc
 | _ => { kind := .function,names := [],isGenerator := false,isCoroutine := false }
abbrev pB : qc := fun _ _ _ _ _ _ => False
abbrev E0 : XK := fun _ _ _ => False
theorem tM {X : Cx} : jW pB X E0 := fun _ _ _ _ _ _ _ h => h.elim
structure qQ (K : Fg) (x qual : Str) (st : Stmt) (f : Addr) (fd : FuncData) : Prop where
 ex : ∃ (oc : Value) (od : Option Addr) (kV doc pm : Value) (an : Option Addr) (cdv ct : Value) (osl : Array (Option Value)),
  fd = PySem.W.fnOf x qual (dc st) (b9 st) (aj st) .none kV doc pm an cdv ct /\ K.lookup f = some ⟨oc,od,.func fd,osl⟩ /\ PySem.W.codeIn K cdv qual = true
 kp : PySem.W.keepIn K (.ref f) = true
section
variable {P : Program} {w : World} {K : Fg} {mg : Str -> Option Value} {base : Heap}
theorem qQ.ok {x qual : Str} {st : Stmt} {f : Addr} {fd : FuncData} {N ps : List Str} {k : Nat} {sp : Sp} (F : qQ K x qual st f fd) (S : aq N ps (aj st)) (len : ∀ vs H Q E,sp vs H Q E -> vs.length = ps.length)
  (hbody : ∀ (cdv : Value) (A : Around) (outer : List Env) (s : Shared) (H : Hp) (vs : List V) (Q : VK) (E : XK),bM k (A.deeper (envOfC qual (aj st) s.heap.objs.size f cdv)) -> sp vs H Q E →
   ∃ t,kN (o5 pB P w K mg base N qual (aj st) f cdv A outer s H E).nox (b9 st) t /\ t { nx := fun _ H' => Q .non H',rt := Q } (start N vs) H) : f7 P w K mg base pB (k + 1) f fd ps sp := by
 obtain ⟨oc,od,kV,doc,pm,an,cdv,ct,osl,rfl,lk,hcd⟩ := F.ex; refine adz lk hcd S len fun A outer s H vs Q E hr hsp => ?_
 obtain ⟨t,h,q⟩ := hbody cdv A outer s H vs Q E hr hsp; exact ⟨t,h.nox,q⟩
theorem qQ.binds {x qual : Str} {st : Stmt} {f : Addr} {fd : FuncData} {ps : List Str} (F : qQ K x qual st f fd)
  (h : ∀ (kV doc pm : Value) (an : Option Addr) (cdv ct : Value) (us : List Value),us.length = ps.length -> bindArgs (PySem.W.fnOf x qual (dc st) (b9 st) (aj st) .none kV doc pm an cdv ct) ⟨us,[]⟩ = pure (ps.zip us)) : d9 K fd ps [] := by
 obtain ⟨oc,od,kV,doc,pm,an,cdv,ct,osl,rfl,lk,hcd⟩ := F.ex; exact .all (h kV doc pm an cdv ct)
theorem tL {x qual : Str} {st : Stmt} {f : Addr} {oc : Value} {od an : Option Addr} {osl : Array (Option Value)} {kV doc pm cdv ct : Value} (l : K.lookup f = some ⟨oc,od,.func (PySem.W.fnOf x qual (dc st) (b9 st) (aj st) .none kV doc pm an cdv ct),osl⟩)
  (c : PySem.W.codeIn K cdv qual = true) (k : PySem.W.keepIn K (.ref f) = true) : qQ K x qual st f (PySem.W.fnOf x qual (dc st) (b9 st) (aj st) .none kV doc pm an cdv ct) := ⟨⟨oc,od,kV,doc,pm,an,cdv,ct,osl,rfl,l,c⟩,k⟩
end
section
variable {X : Cx}
theorem pv (i : Nat) {x : Str} {pos : Pos} (hN : X.N[i]? = some x := by rfl) (hv : zS X.env.scope x := by first | exact Or.inl rfl | exact Or.inr (Or.inl rfl) | exact Or.inr (Or.inr rfl)) (hd : (x == ("__debug__" : Str)) = false := by decide)
  (hcd : (x == ("__classdict__" : Str)) = false := by decide) : PE X (.Name x pos) (acv i) := acu hN hv hd hcd
end
theorem acL {A B : Prop} (h : B) : if false = true then A else B := by
 rw [if_neg Bool.false_ne_true]; exact h
theorem aeh {A B : Prop} (h : A) : if true = true then A else B := by
 rw [if_pos rfl]; exact h
theorem a_ {c A B : Prop} [Decidable c] (h1 : c -> A) (h2 : ¬ c -> B) : if c then A else B := by
 by_cases h : c
 ·rw [if_pos h]; exact h1 h
 ·rw [if_neg h]; exact h2 h
theorem bq {c A B : Prop} [Decidable c] (hc : c) (h : B) : if (!decide c) = true then A else B := by
 rw [decide_eq_true hc]; exact acL h
def ak (H H' : Hp) : Prop := ∀ b o,H b = some o -> H' b = some o
theorem ak.refl (H : Hp) : ak H H := fun _ _ h => h
theorem ak.trans {H H1 H2 : Hp} (a : ak H H1) (b : ak H1 H2) : ak H H2 := fun c o h => b c o (a c o h)
theorem ak.free {H H' : Hp} (e : ak H H') {l : Addr} (h : H' l = Option.none) : H l = Option.none := by
 cases q : H l with
 | none => rfl
 | some o =>
  rw [e l o q] at h; cases h
theorem ak.seq {K : Fg} {H H' : Hp} {a : Addr} {xs : List V} (e : ak H H') (h : ag K H a xs) : ag K H' a xs := by
 rcases h with (h | ⟨o,h⟩) | h
 ·exact .inl (.inl (e _ _ h))
 ·exact .inl (.inr ⟨o,e _ _ h⟩)
 ·exact .inr h
theorem dU {xs : List V} {z : Int} {j : Nat} {v : V} (e : z = (j : Int)) (h : xs[j]? = some v) : fj xs z = some v := by
 rw [e]; exact bC h
theorem ak.made {H H1 : Hp} {x dx C : Addr} (nx : H x = Option.none) (nd : H dx = Option.none) (k : ∀ b o,(upd (upd H dx (.own x)) x (.ins C dx [])) b = some o -> b ≠ x -> H1 b = some o) : ak H H1 := fun b o e =>
 k b o (by rw [aK (aJ e nx),aK (aJ e nd)]; exact e) (aJ e nx)
end L2

namespace Ma
open Ad
abbrev nz (l : List Nat) : List Int := l.map fun (n : Nat) => (n : Int)
theorem md : product_ [] = 1 := rfl
theorem bL (x : Nat) (l : List Nat) : product_ (x :: l) = x * product_ l := rfl
theorem l9 : ∀ {s : List Nat},(∀ n ∈ s,1 <= n) -> 1 <= product_ s
 | [],_ => Nat.le_refl _
 | x :: l,h => by
  rw [bL]; have h1 := h x (List.mem_cons_self ..); have h2 := l9 (s := l) fun n hn => h n (List.mem_cons_of_mem _ hn)
  exact Nat.mul_pos h1 h2
theorem b_ : ∀ {s : List Nat},(∀ n ∈ s,1 <= n) -> ∀ n ∈ s,n <= product_ s
 | x :: l,h,n,hn => by
  rw [bL]; have h2 := l9 (s := l) fun n hn => h n (List.mem_cons_of_mem _ hn)
  have h1 := h x (List.mem_cons_self ..)
  rcases List.mem_cons.mp hn with e | hn
  ·subst e; exact Nat.le_mul_of_pos_right _ h2
  ·exact Nat.le_trans (b_ (fun n hn => h n (List.mem_cons_of_mem _ hn)) n hn) (Nat.le_mul_of_pos_left _ h1)
theorem aF {s : List Nat} (h : shapeOk s = true) : s.length <= 4 /\ (∀ n ∈ s,1 <= n) /\ product_ s <= 1024 := by
 unfold shapeOk at h; simp only [Bool.and_eq_true,decide_eq_true_eq,List.all_eq_true] at h; exact ⟨h.1,h.2.1,h.2.2⟩
theorem shape_iff {s : List Nat} : shapeOk s = true ↔ s.length <= 4 /\ (∀ n ∈ s,1 <= n) /\ product_ s <= 1024 := by
 refine ⟨aF,fun h => ?_⟩; unfold shapeOk; simp only [Bool.and_eq_true,decide_eq_true_eq,List.all_eq_true]; exact ⟨h.1,h.2.1,h.2.2⟩
def ox : List Nat -> Nat -> List Nat
 | [],_ => []
 | x :: l,c => ((c / product_ l) % x) :: ox l c
theorem yn : ∀ (s : List Nat) (c : Nat),(ox s c).length = s.length
 | [],_ => rfl
 | _ :: l,c => by simp [ox,yn l c]
theorem yq : ∀ (l : List Nat) (c k : Nat),ox l (c % (product_ l * k)) = ox l c
 | [],_,_ => rfl
 | x :: l,c,k => by
  have e : product_ (x :: l) * k = product_ l * (x * k) := by rw [bL,Nat.mul_comm x,Nat.mul_assoc]
  show ((c % (product_ (x :: l) * k)) / product_ l) % x :: ox l (c % (product_ (x :: l) * k)) = (c / product_ l) % x :: ox l c; rw [e,yq l c (x * k),Nat.mod_mul_right_div_self,Nat.mod_mul_right_mod]
theorem vH : ∀ (s : List Nat) (c : Nat),c < product_ s -> ox s c = placeOf s c
 | [],_,_ => rfl
 | x :: l,c,h => by
  show (c / product_ l) % x :: ox l c = c / product_ l :: placeOf l (c % product_ l); rw [bL] at h
  have hp : 0 < product_ l := by
   cases hz : product_ l with
   | zero => rw [hz] at h; simp at h
   | succ n => omega
  have h1 : c / product_ l < x := (Nat.div_lt_iff_lt_mul hp).mpr h; rw [Nat.mod_eq_of_lt h1,← vH l _ (Nat.mod_lt _ hp)]; have := yq l c 1; rw [Nat.mul_one] at this; rw [this]
theorem eQ : ∀ (s : List Nat) (c : Nat),(placeOf s c).length = s.length
 | [],_ => rfl
 | _ :: l,c => by simp [placeOf,eQ l]
def In : List Nat -> List Nat -> Prop
 | [],[] => True
 | x :: l,i :: p => i < x /\ In l p
 | _,_ => False
theorem In.len : ∀ {s p : List Nat},In s p -> p.length = s.length
 | [],[],_ => rfl
 | _ :: _,_ :: _,h => by simp [In.len h.2]
 | [],_ :: _,h => h.elim
 | _ :: _,[],h => h.elim
theorem in_iff : ∀ {s p : List Nat},In s p ↔ has s p = true
 | [],[] => by simp [In,has]
 | [],_ :: _ => by simp [In,has]
 | _ :: _,[] => by simp [In,has]
 | x :: l,i :: p => by
  have ih := in_iff (s := l) (p := p); unfold has at ih ⊢; simp only [In,ih,List.length_cons,List.zip_cons_cons,List.all_cons,Bool.and_eq_true,decide_eq_true_eq,beq_iff_eq] at ih ⊢
  constructor
  ·rintro ⟨a,b,c⟩; exact ⟨by omega,a,c⟩
  ·rintro ⟨a,b,c⟩; exact ⟨b,by omega,c⟩
theorem In.lt : ∀ {s p : List Nat},In s p -> cellOf s p < product_ s
 | [],[],_ => by simp [cellOf,product_]
 | x :: l,i :: p,h => by
  have ih := In.lt h.2; show i * product_ l + cellOf l p < x * product_ l; have h1 : (i + 1) * product_ l <= x * product_ l := Nat.mul_le_mul_right _ h.1; rw [Nat.succ_mul] at h1; omega
 | [],_ :: _,h => h.elim
 | _ :: _,[],h => h.elim
theorem cC : ∀ {s : List Nat} {c : Nat},c < product_ s -> In s (placeOf s c)
 | [],_,_ => trivial
 | x :: l,c,h => by
  rw [bL] at h
  have hp : 0 < product_ l := by
   cases hz : product_ l with
   | zero => rw [hz] at h; simp at h
   | succ n => omega
  exact ⟨(Nat.div_lt_iff_lt_mul hp).mpr h,cC (Nat.mod_lt _ hp)⟩
theorem In.get : ∀ {s p : List Nat},In s p -> ∀ {j x : Nat},s[j]? = some x -> ∃ i,p[j]? = some i /\ i < x
 | x :: l,i :: p,h,0,y,e => by
  have e : x = y := Option.some.inj e; subst e; exact ⟨i,rfl,h.1⟩
 | x :: l,i :: p,h,j + 1,y,e => by
  obtain ⟨k,e1,e2⟩ := In.get h.2 (j := j) (x := y) e; exact ⟨k,e1,e2⟩
 | [],[],_,_,_,e => by simp at e
 | [],_ :: _,h,_,_,_ => h.elim
 | _ :: _,[],h,_,_,_ => h.elim
theorem In.mk : ∀ {s p : List Nat},p.length = s.length -> (∀ (j x i : Nat),s[j]? = some x -> p[j]? = some i -> i < x) -> In s p
 | [],[],_,_ => trivial
 | x :: l,i :: p,hl,h => ⟨h 0 x i rfl rfl,In.mk (by simpa using hl) fun j y k a b => h (j + 1) y k a b⟩
 | [],_ :: _,hl,_ => by simp at hl
 | _ :: _,[],hl,_ => by simp at hl
theorem iq {x : Int} : cellFine x = true ↔ -1000000000000000 <= x /\ x <= 1000000000000000 := by
 unfold cellFine GREAT
 simp
theorem dD : ∀ (a b : List Nat),product_ (a ++ b) = product_ a * product_ b
 | [],b => by rw [List.nil_append,md,Nat.one_mul]
 | x :: a,b => by rw [List.cons_append,bL,bL,dD a b,Nat.mul_assoc]
theorem aae {s : List Nat} {i z : Nat} (h : s[i]? = some z) : product_ (s.take (i + 1)) = product_ (s.take i) * z := by
 have e : s.take (i + 1) = s.take i ++ [z] := by
  rw [List.take_add_one,h]; rfl
 rw [e,dD,bL,md,Nat.mul_one]
theorem xR {s p : List Nat} {i x y : Nat} (h1 : s[i]? = some x) (h2 : p[i]? = some y) (hl : p.length = s.length) : cellOf (s.take (i + 1)) (p.take (i + 1)) = cellOf (s.take i) (p.take i) * x + y := by
 have e1 : s.take (i + 1) = s.take i ++ [x] := by rw [List.take_add_one,h1]; rfl
 have e2 : p.take (i + 1) = p.take i ++ [y] := by rw [List.take_add_one,h2]; rfl
 rw [e1,e2]
 have : ∀ (a b : List Nat),b.length = a.length -> cellOf (a ++ [x]) (b ++ [y]) = cellOf a b * x + y := by
  intro a
  induction a with
  | nil =>
   intro b hb
   cases b with
   | nil => simp [cellOf,md]
   | cons _ _ => simp at hb
  | cons n a ih =>
   intro b hb
   cases b with
   | nil => simp at hb
   | cons m b =>
    show m * product_ (a ++ [x]) + cellOf (a ++ [x]) (b ++ [y]) = (m * product_ a + cellOf a b) * x + y; rw [ih b (by simpa using hb),dD,bL,md,Nat.mul_one,Nat.add_mul,Nat.mul_assoc,Nat.add_assoc]
 exact this _ _ (by rw [List.length_take,List.length_take,hl])
theorem abb {s : List Nat} {k x c : Nat} (h : s[k]? = some x) : ox (s.drop k) c = ((c / product_ (s.drop (k + 1))) % x) :: ox (s.drop (k + 1)) c := by
 obtain ⟨hk,e⟩ := List.getElem?_eq_some_iff.mp h; rw [List.drop_eq_getElem_cons hk,e]; rfl
theorem z0 {s : List Nat} {k x : Nat} (h : s[k]? = some x) : product_ (s.drop k) = x * product_ (s.drop (k + 1)) := by
 obtain ⟨hk,e⟩ := List.getElem?_eq_some_iff.mp h; rw [List.drop_eq_getElem_cons hk,e]; rfl
theorem zW {s p : List Nat} {i x y : Nat} (h1 : s[i]? = some x) (h2 : p[i]? = some y) (h : x <= y) : has s p = false := by
 cases e : has s p with
 | false => rfl
 | true =>
  obtain ⟨z,e1,e2⟩ := (in_iff.mpr e).get h1; rw [h2] at e1; cases e1; omega
theorem z5 {a b : Int} {n i : Nat} (ha : cellFine a = true) (hl : cellFine (a + b * (n : Int)) = true) (hi : i <= n) : cellFine (a + b * (i : Int)) = true := by
 rw [iq] at ha hl ⊢; have hi' : (i : Int) <= (n : Int) := by omega
 have h0 : (0 : Int) <= (i : Int) := by omega
 rcases Int.le_total 0 b with h | h
 ·have h1 : b * (i : Int) <= b * (n : Int) := Int.mul_le_mul_of_nonneg_left hi' h; have h2 : 0 <= b * (i : Int) := Int.mul_nonneg h h0; omega
 ·have h1 : b * (n : Int) <= b * (i : Int) := Int.mul_le_mul_of_nonpos_left h hi'; have h2 : b * (i : Int) <= 0 := Int.mul_nonpos_of_nonpos_of_nonneg h h0; omega
end Ma

namespace Ma
open Ad
theorem spreads_iff {a b : List Nat} : spreads a b = true ↔ a.length <= b.length /\ ∀ (j x y : Nat),a[j]? = some x -> (b.drop (b.length - a.length))[j]? = some y -> x = y \/ x = 1 := by
 unfold spreads padded; rw [Bool.and_eq_true,decide_eq_true_eq]; refine and_congr_right fun hl => ?_
 rw [List.all_eq_true]
 constructor
 ·intro h j x y hx hy; rw [List.getElem?_drop] at hy
  have e : ((List.replicate (b.length - a.length) 1 ++ a).zip b)[b.length - a.length + j]? = some (x,y) := by
   rw [List.getElem?_zip_eq_some]; refine ⟨?_,hy⟩; rw [List.getElem?_append_right (by simp)]
   simpa using hx
  have := h (x,y) (List.mem_of_getElem? e)
  simpa using this
 ·rintro h ⟨x,y⟩ hm; obtain ⟨k,hk⟩ := List.mem_iff_getElem?.mp hm; obtain ⟨h1,h2⟩ := List.getElem?_zip_eq_some.mp hk; simp only [Bool.or_eq_true,beq_iff_eq]
  by_cases hk2 : k < b.length - a.length
  ·rw [List.getElem?_append_left (by simpa using hk2),List.getElem?_replicate,if_pos hk2] at h1
   right
   exact (Option.some.inj h1).symm
  ·rw [List.getElem?_append_right (by simp; omega)] at h1; refine h (k - (b.length - a.length)) x y (by simpa using h1) ?_; rw [List.getElem?_drop,← h2]; congr 1; omega
theorem lC {a p : List Nat} (h : a.length <= p.length) : (narrowed a p).length = a.length := by
 unfold narrowed; rw [List.length_map,List.length_zip,List.length_drop]; omega
theorem qB {a p : List Nat} {j x y : Nat} (hx : a[j]? = some x) (hy : (p.drop (p.length - a.length))[j]? = some y) : (narrowed a p)[j]? = some (if x = 1 then 0 else y) := by
 unfold narrowed; rw [List.getElem?_map,List.getElem?_zip_eq_some (z := (x,y)) |>.mpr ⟨hx,hy⟩]; rfl
theorem mN {a b p : List Nat} (hs : spreads a b = true) (hb : In b p) : In a (narrowed a p) := by
 obtain ⟨hl,h⟩ := spreads_iff.mp hs; have hpl := hb.len; refine In.mk (lC (by omega)) fun j x i hx hi => ?_
 have hj := (List.getElem?_eq_some_iff.mp hx).1; have hy : (p.drop (p.length - a.length))[j]? = some ((p.drop (p.length - a.length))[j]'(by rw [List.length_drop]; omega)) := List.getElem?_eq_getElem _; rw [qB hx hy] at hi; have e := Option.some.inj hi
 by_cases h1 : x = 1
 ·rw [if_pos h1] at e; omega
 ·rw [if_neg h1] at e; have hy2 := hy; rw [List.getElem?_drop] at hy2; have hb2 : b[p.length - a.length + j]? = some (b[p.length - a.length + j]'(by omega)) := List.getElem?_eq_getElem _; obtain ⟨i',e1,e2⟩ := hb.get hb2; rw [hy2] at e1; have := Option.some.inj e1
  rcases h j x _ hx (by rw [List.getElem?_drop,← hpl]; exact hb2) with q | q
  ·omega
  ·exact absurd q h1
def lg (c : List Int) (l : List Cut) : Prop := c.length = 3 * l.length /\ ∀ (i : Nat) q,l[i]? = some q -> c[3 * i]? = some q.from_ /\ c[3 * i + 1]? = some q.step /\ c[3 * i + 2]? = some (q.count : Int) /\ 1 <= q.count /\ q.count <= 1024
theorem nS : ∀ {c : List Int} {l : List Cut},Ay.cutsOf c = some l -> lg c l
 | [],l,h => by
  have e : l = [] := (Option.some.inj h).symm; subst e; exact ⟨rfl,fun i q e => by simp at e⟩
 | [_],_,h => by cases h
 | [_,_],_,h => by cases h
 | a :: b :: c :: r,l,h => by
  rw [Ay.cutsOf] at h
  split at h
  ·cases h
  ·rename_i hc
   cases e : Ay.cutsOf r with
   | none => rw [e] at h; cases h
   | some m =>
    rw [e] at h; have e2 : (⟨a,b,c.toNat⟩ :: m : List Cut) = l := Option.some.inj h; subst e2; obtain ⟨h1,h2⟩ := nS e; refine ⟨by simp only [List.length_cons]; omega,fun i q hq => ?_⟩
    cases i with
    | zero =>
     have e3 : (⟨a,b,c.toNat⟩ : Cut) = q := Option.some.inj hq; subst e3; refine ⟨rfl,rfl,?_,?_,?_⟩
     ·show some c = some ((c.toNat : Nat) : Int); congr 1; omega
     ·show 1 <= c.toNat; omega
     ·show c.toNat <= 1024; omega
    | succ i =>
     obtain ⟨g1,g2,g3,g4⟩ := h2 i q hq; exact ⟨g1,g2,g3,g4⟩
theorem mM : ∀ {c : List Int} {r : Nat},c.length = 3 * r -> (Ay.cutsOf c = none ↔ ∃ i z,i < r /\ c[3 * i + 2]? = some z /\ (z < 1 \/ 1024 < z))
 | [],r,h => by
  have : r = 0 := by simp at h; omega
  subst this; simp [Ay.cutsOf]
 | [_],r,h => by simp at h; omega
 | [_,_],r,h => by simp at h; omega
 | a :: b :: c :: l,r,h => by
  have hr : l.length = 3 * (r - 1) := by simp only [List.length_cons] at h; omega
  have hr1 : 1 <= r := by simp only [List.length_cons] at h; omega
  have ih := mM hr; rw [Ay.cutsOf]
  split
  ·rename_i hc; simp only [true_iff]; exact ⟨0,c,by omega,rfl,by omega⟩
  ·rename_i hc
   constructor
   ·intro hn
    have hn2 : Ay.cutsOf l = none := by
     cases e : Ay.cutsOf l with
     | none => rfl
     | some m => rw [e] at hn; cases hn
    obtain ⟨i,z,h1,h2,h3⟩ := ih.mp hn2; exact ⟨i + 1,z,by clear ih; omega,h2,h3⟩
   ·rintro ⟨i,z,h1,h2,h3⟩
    cases i with
    | zero =>
     have e : c = z := Option.some.inj h2; omega
    | succ i =>
     rw [ih.mpr ⟨i,z,by clear ih; omega,h2,h3⟩]; rfl
def dI (s : List Nat) (c : List Int) : Bool := match Ay.cutsOf c with
 | some l => l.length == s.length
 | none => false
theorem lK {s : List Nat} {c : List Int} (h : dI s c = true) : ∃ l,Ay.cutsOf c = some l /\ l.length = s.length /\ lg c l := by
 unfold dI at h
 cases e : Ay.cutsOf c with
 | none => rw [e] at h; cases h
 | some l =>
  rw [e] at h; exact ⟨l,rfl,by simpa using h,nS e⟩
theorem xN {s : List Nat} {c : List Int} (h : c.length ≠ 3 * s.length) : dI s c = false := by
 cases e : dI s c with
 | false => rfl
 | true =>
  obtain ⟨l,_,h1,h2,_⟩ := lK e; omega
theorem si {s : List Nat} {c : List Int} {i : Nat} {z : Int} (hl : c.length = 3 * s.length) (hi : i < s.length) (hz : c[3 * i + 2]? = some z) (hb : z < 1 \/ 1024 < z) : dI s c = false := by
 unfold dI; rw [(mM hl).mpr ⟨i,z,hi,hz,hb⟩]
theorem wL {s : List Nat} {c : List Int} (hl : c.length = 3 * s.length) (h : ∀ i z,i < s.length -> c[3 * i + 2]? = some z -> ¬ (z < 1 \/ 1024 < z)) : dI s c = true := by
 unfold dI
 cases e : Ay.cutsOf c with
 | none =>
  obtain ⟨i,z,h1,h2,h3⟩ := (mM hl).mp e; exact absurd h3 (h i z h1 h2)
 | some l =>
  have := (nS e).1
  simp
  omega
theorem nV {c : List Int} {l : List Cut} (h : lg c l) : (List.range l.length).map (fun i => c.getD (3 * i + 2) 0) = nz (cutShape l) := by
 apply List.ext_getElem?; intro i
 by_cases hi : i < l.length
 ·have e : l[i]? = some l[i] := List.getElem?_eq_getElem hi; obtain ⟨_,_,g,_⟩ := h.2 i _ e; rw [List.getElem?_map,List.getElem?_range hi]; simp only [nz,cutShape,List.getElem?_map,e,Option.map_some,List.getD_eq_getElem?_getD,g,Option.getD_some]
 ·rw [List.getElem?_eq_none (by simp; omega),List.getElem?_eq_none (by simp [nz,cutShape]; omega)]
theorem yV {q : Cut} {n : Nat} (h1 : 1 <= q.count) : q.within n = true ↔ (0 <= q.from_ /\ q.from_ < n /\ 0 <= q.from_ + q.step * ((q.count : Int) - 1) /\ q.from_ + q.step * ((q.count : Int) - 1) < n) := by
 unfold Cut.within Cut.at_; rw [List.all_eq_true]; simp only [List.mem_range,Bool.and_eq_true,decide_eq_true_eq]
 constructor
 ·intro h; have a := h 0 (by omega); have b := h (q.count - 1) (by omega); rw [Int.ofNat_sub h1] at b; simp at a; exact ⟨a.1,a.2,b.1,b.2⟩
 ·rintro ⟨a1,a2,b1,b2⟩ i hi; have hi' : (i : Int) <= (q.count : Int) - 1 := by omega
  have h0 : (0 : Int) <= (i : Int) := by omega
  rcases Int.le_total 0 q.step with h | h
  ·have z1 := Int.mul_le_mul_of_nonneg_left hi' h; have z2 := Int.mul_nonneg h h0; omega
  ·have z1 := Int.mul_le_mul_of_nonpos_left h hi'; have z2 := Int.mul_nonpos_of_nonpos_of_nonneg h h0; omega
theorem qa {s : List Nat} {l : List Cut} (hl : l.length = s.length) : cutOk s l = true ↔ ∀ (i : Nat) q n,l[i]? = some q -> s[i]? = some n -> q.within n = true := by
 unfold cutOk; rw [List.all_eq_true]
 constructor
 ·intro h i q n h1 h2; exact h (q,n) (List.mem_of_getElem? (List.getElem?_zip_eq_some.mpr ⟨h1,h2⟩))
 ·rintro h ⟨q,n⟩ hm; obtain ⟨k,hk⟩ := List.mem_iff_getElem?.mp hm; obtain ⟨h1,h2⟩ := List.getElem?_zip_eq_some.mp hk; exact h k q n h1 h2
theorem lw {l : List Cut} {p : List Nat} (h : p.length = l.length) : (cutPlace l p).length = l.length := by
 unfold cutPlace; rw [List.length_map,List.length_zip]; omega
theorem p5 {l : List Cut} {p : List Nat} {i : Nat} {q : Cut} {n : Nat} (h1 : l[i]? = some q) (h2 : p[i]? = some n) : (cutPlace l p)[i]? = some (q.at_ n).toNat := by
 unfold cutPlace; rw [List.getElem?_map,List.getElem?_zip_eq_some (z := (q,n)) |>.mpr ⟨h1,h2⟩]; rfl
theorem aas {s : List Nat} {l : List Cut} {p : List Nat} (hl : l.length = s.length) (hc : cutOk s l = true) (hp : In (cutShape l) p) {i : Nat} {q : Cut} {n x : Nat} (h1 : l[i]? = some q) (h2 : p[i]? = some n) (h3 : s[i]? = some x) : 0 <= q.at_ n /\ q.at_ n < x := by
 have hw := (qa hl).mp hc i q x h1 h3; unfold Cut.within at hw; rw [List.all_eq_true] at hw
 have h4 : (cutShape l)[i]? = some q.count := by
  unfold cutShape; rw [List.getElem?_map,h1]; rfl
 obtain ⟨m,e1,e2⟩ := hp.get h4; rw [h2] at e1; cases e1; have := hw n (List.mem_range.mpr e2)
 simpa using this
theorem ju {s : List Nat} {l : List Cut} {p : List Nat} (hl : l.length = s.length) (hc : cutOk s l = true) (hp : In (cutShape l) p) : In s (cutPlace l p) := by
 have hpl : p.length = l.length := by rw [hp.len]; unfold cutShape; rw [List.length_map]
 refine In.mk (by rw [lw hpl]; exact hl) fun j x i hx hi => ?_
 have hj := (List.getElem?_eq_some_iff.mp hx).1; have e1 : l[j]? = some (l[j]'(by omega)) := List.getElem?_eq_getElem _; have e2 : p[j]? = some (p[j]'(by omega)) := List.getElem?_eq_getElem _; rw [p5 e1 e2] at hi; have := aas hl hc hp e1 e2 hx; have := Option.some.inj hi; omega
theorem ou : ∀ {a b : List Nat},nz a = nz b -> a = b
 | [],[],_ => rfl
 | [],_ :: _,h => by cases h
 | _ :: _,[],h => by cases h
 | x :: a,y :: b,h => by
  have h1 : (x : Int) = (y : Int) := (List.cons.inj h).1; have h2 := ou (a := a) (b := b) (List.cons.inj h).2; have : x = y := by omega
  rw [this,h2]
end Ma

namespace Ma
open Ad
theorem z8 {a b : List Nat} (h : a.Perm b) : product_ a = product_ b := by
 induction h with
 | nil => rfl
 | cons x _ ih => rw [bL,bL,ih]
 | swap x y l => rw [bL,bL,bL,bL,← Nat.mul_assoc,← Nat.mul_assoc,Nat.mul_comm x y]
 | trans _ _ h1 h2 => exact h1.trans h2
theorem sj : ∀ (rs l : List Nat),rs.Nodup -> (∀ x ∈ rs,x ∈ l) -> l.length = rs.length -> l.Perm rs
 | [],l,_,_,hl => by
  have : l = [] := List.length_eq_zero_iff.mp hl; rw [this]
 | x :: rs,l,hn,hm,hl => by
  have hx := hm x (List.mem_cons_self ..); have hn2 := List.nodup_cons.mp hn; have h1 := List.perm_cons_erase hx
  have hle : (l.erase x).length = rs.length := by
   have := h1.length_eq; simp only [List.length_cons] at this hl; omega
  have h2 := sj rs (l.erase x) hn2.2 (fun y hy => (List.mem_erase_of_ne (fun (e : y = x) => hn2.1 (by rw [← e]; exact hy))).mpr (hm y (List.mem_cons_of_mem _ hy))) hle; exact h1.trans (h2.cons x)
theorem axes_iff {r : Nat} {l : List Nat} : axesOk r l = true ↔ l.Perm (List.range r) := by
 unfold axesOk; rw [Bool.and_eq_true,beq_iff_eq,List.all_eq_true]
 constructor
 ·rintro ⟨h1,h2⟩; refine sj _ _ List.nodup_range (fun x hx => ?_) (by rw [h1,List.length_range]); exact List.contains_iff_mem.mp (h2 x hx)
 ·intro h; refine ⟨by rw [h.length_eq,List.length_range],fun x hx => List.contains_iff_mem.mpr (h.mem_iff.mpr hx)⟩
theorem r8 : ∀ {a b : List Int},a.Perm b -> a.Pairwise (· <= ·) -> b.Pairwise (· <= ·) -> a = b
 | [],b,h,_,_ => by rw [h.nil_eq]
 | x :: a,[],h,_,_ => by
  have := h.length_eq; simp at this
 | x :: a,y :: b,h,h1,h2 => by
  have hx : x ∈ y :: b := h.mem_iff.mp (List.mem_cons_self ..); have hy : y ∈ x :: a := h.mem_iff.mpr (List.mem_cons_self ..); have h1' := List.pairwise_cons.mp h1; have h2' := List.pairwise_cons.mp h2
  have e : x = y := by
   rcases List.mem_cons.mp hx with e | hx
   ·exact e
   ·rcases List.mem_cons.mp hy with e | hy
    ·exact e.symm
    ·have := h1'.1 y hy; have := h2'.1 x hx; omega
  subst e; rw [r8 (h.cons_inv) h1'.2 h2'.2]
theorem um (r : Nat) : (nz (List.range r)).Pairwise (· <= ·) := by
 unfold nz; rw [List.pairwise_map]; have h : (List.range r).Pairwise (· < ·) := List.pairwise_lt_range
 exact h.imp fun {a b} h => by omega
theorem xE {r : Nat} {l : List Nat} {ys : List Int} (h1 : ys.Perm (nz l)) (h2 : ys.Pairwise (· <= ·)) : axesOk r l = decide (ys = nz (List.range r)) := by
 by_cases e : ys = nz (List.range r)
 ·rw [decide_eq_true e]; rw [axes_iff]; rw [e] at h1
  have h3 : (nz l).map Int.toNat = l := by
   unfold nz; rw [List.map_map]; have : (Int.toNat ∘ fun (n : Nat) => (n : Int)) = id := by funext n; simp
   rw [this,List.map_id]
  have h4 : (nz (List.range r)).map Int.toNat = List.range r := by
   unfold nz; rw [List.map_map]; have : (Int.toNat ∘ fun (n : Nat) => (n : Int)) = id := by funext n; simp
   rw [this,List.map_id]
  have := (h1.map Int.toNat).symm; rw [h3,h4] at this; exact this
 ·rw [decide_eq_false e]
  cases h : axesOk r l with
  | false => rfl
  | true =>
   exact absurd (r8 (h1.trans ((axes_iff.mp h).map _)) h2 (um r)) e
theorem bK {s : List Nat} {i x : Nat} (h : s[i]? = some x) : along s i = x := by
 unfold along; rw [List.getD_eq_getElem?_getD,h]; rfl
theorem xP (s : List Nat) : (List.range s.length).map (along s) = s := by
 apply List.ext_getElem?; intro i
 by_cases hi : i < s.length
 ·rw [List.getElem?_map,List.getElem?_range hi,List.getElem?_eq_getElem hi]; exact congrArg some (bK (List.getElem?_eq_getElem hi))
 ·rw [List.getElem?_eq_none (by simp; omega),List.getElem?_eq_none (by omega)]
theorem tN {s l : List Nat} (hs : shapeOk s = true) (h : axesOk s.length l = true) : shapeOk (l.map (along s)) = true := by
 have hp : (l.map (along s)).Perm s := by
  have := (axes_iff.mp h).map (along s); rw [xP] at this; exact this
 obtain ⟨h1,h2,h3⟩ := aF hs; exact shape_iff.mpr ⟨by rw [hp.length_eq]; exact h1,fun n hn => h2 n (hp.mem_iff.mp hn),by rw [z8 hp]; exact h3⟩
def jU (r : Nat) (l p : List Nat) : List Nat := (List.range r).map fun j => p.getD (l.idxOf j) 0
def eC (r : Nat) (l p : List Nat) (n : Nat) : List Nat := (List.range r).map fun j => if l.idxOf j < n then p.getD (l.idxOf j) 0 else 0
theorem aad {l : List Nat} (hn : l.Nodup) {n x : Nat} (h : l[n]? = some x) : l.idxOf x = n := by
 obtain ⟨hl,e⟩ := List.getElem?_eq_some_iff.mp h; rw [← e]; exact hn.idxOf_getElem n hl
theorem u9 {l : List Nat} {x : Nat} (h : x ∈ l) : l[l.idxOf x]? = some x := by
 have hl : l.idxOf x < l.length := List.idxOf_lt_length_iff.mpr h; rw [List.getElem?_eq_getElem hl]; congr 1; exact List.getElem_idxOf hl
theorem xW {r : Nat} {l p : List Nat} (h : axesOk r l = true) {n x y : Nat} (hx : l[n]? = some x) (hy : p[n]? = some y) : x < r /\ (eC r l p n).set x y = eC r l p (n + 1) := by
 have hp := axes_iff.mp h; have hnd : l.Nodup := hp.nodup_iff.mpr List.nodup_range; have hxr : x < r := List.mem_range.mp (hp.mem_iff.mp (List.mem_of_getElem? hx)); refine ⟨hxr,?_⟩; apply List.ext_getElem?; intro j; unfold eC
 by_cases hj : j < r
 ·by_cases hjx : j = x
  ·subst hjx; rw [List.getElem?_set_self (by simp; omega),List.getElem?_map,List.getElem?_range hj,Option.map_some,aad hnd hx,if_pos (by omega),List.getD_eq_getElem?_getD,hy]; rfl
  ·rw [List.getElem?_set_ne (Ne.symm hjx),List.getElem?_map,List.getElem?_map,List.getElem?_range hj]; simp only [Option.map_some]
   have hne : l.idxOf j ≠ n := fun e => by
    have := u9 (l := l) (x := j) (hp.mem_iff.mpr (List.mem_range.mpr hj)); rw [e,hx] at this; exact hjx (Option.some.inj this).symm
   by_cases hlt : l.idxOf j < n
   ·rw [if_pos hlt,if_pos (by omega)]
   ·rw [if_neg hlt,if_neg (by omega)]
 ·rw [List.getElem?_eq_none (by simp; omega),List.getElem?_eq_none (by simp; omega)]
theorem zr {r : Nat} {l p : List Nat} (h : axesOk r l = true) {n : Nat} (hn : n = l.length) : eC r l p n = jU r l p := by
 have hp := axes_iff.mp h; unfold eC jU; apply List.map_congr_left; intro j hj; have : l.idxOf j < l.length := List.idxOf_lt_length_iff.mpr (hp.mem_iff.mpr hj); rw [if_pos (by omega)]
theorem ww (r : Nat) (l p : List Nat) : eC r l p 0 = (List.range r).map fun _ => 0 := by
 unfold eC; apply List.map_congr_left; intro j _; rw [if_neg (by omega)]
theorem vk {s l p : List Nat} (h : axesOk s.length l = true) (hp : In (l.map (along s)) p) : In s (jU s.length l p) := by
 have hpm := axes_iff.mp h; refine In.mk (by simp [jU]) fun j x i hx hi => ?_
 have hj := (List.getElem?_eq_some_iff.mp hx).1; unfold jU at hi; rw [List.getElem?_map,List.getElem?_range hj] at hi; have e1 := u9 (l := l) (x := j) (hpm.mem_iff.mpr (List.mem_range.mpr hj))
 have e2 : (l.map (along s))[l.idxOf j]? = some x := by
  rw [List.getElem?_map,e1]; exact congrArg some (bK hx)
 obtain ⟨k,e3,e4⟩ := hp.get e2; simp only [Option.map_some,List.getD_eq_getElem?_getD,e3,Option.getD_some,Option.some.injEq] at hi; omega
theorem wv {x : Nat} {a b : List Nat} (hx : x < a.length) : joinOk x a b = true ↔ a.length = b.length /\ a.set x (along b x) = b := by
 unfold joinOk; rw [Bool.and_eq_true,beq_iff_eq,List.all_eq_true]; refine and_congr_right fun hl => ?_
 constructor
 ·intro h; apply List.ext_getElem?; intro i
  by_cases hi : i < a.length
  ·have hbi : b[i]? = some (b[i]'(by omega)) := List.getElem?_eq_getElem _
   by_cases hix : i = x
   ·subst hix; rw [List.getElem?_set_self hi,bK hbi,hbi]
   ·rw [List.getElem?_set_ne (Ne.symm hix)]; have := h i (List.mem_range.mpr hi); rw [Bool.or_eq_true,beq_iff_eq,beq_iff_eq] at this
    rcases this with e | e
    ·exact absurd e hix
    ·rw [bK (List.getElem?_eq_getElem hi),bK hbi] at e; rw [List.getElem?_eq_getElem hi,hbi,e]
  ·rw [List.getElem?_eq_none (by simp; omega),List.getElem?_eq_none (by omega)]
 ·intro h i hi; have hi := List.mem_range.mp hi; rw [Bool.or_eq_true,beq_iff_eq,beq_iff_eq]
  by_cases hix : i = x
  ·exact .inl hix
  ·right
   have e : b[i]? = a[i]? := by rw [← h,List.getElem?_set_ne (Ne.symm hix)]
   have ha : a[i]? = some a[i] := List.getElem?_eq_getElem hi; rw [bK ha,bK (e.trans ha)]
theorem fN {l : List Nat} {x y : Nat} (h : l[x]? = some y) : l.set x y = l := by
 apply List.ext_getElem?; intro i
 by_cases hi : x = i
 ·subst hi; rw [List.getElem?_set_self (List.getElem?_eq_some_iff.mp h).1,h]
 ·rw [List.getElem?_set_ne hi]
theorem In.set {s p : List Nat} {x n m : Nat} (h : In (s.set x n) p) (hx : x < s.length) (i : Nat) (hi : i < m) : In (s.set x m) (p.set x i) := by
 have hl := h.len; rw [List.length_set] at hl; refine In.mk (by simp [hl]) fun j y k h1 h2 => ?_
 by_cases hj : x = j
 ·subst hj; rw [List.getElem?_set_self hx] at h1; rw [List.getElem?_set_self (by omega)] at h2; cases h1; cases h2; exact hi
 ·rw [List.getElem?_set_ne hj] at h1 h2; obtain ⟨q,e1,e2⟩ := h.get (j := j) (x := y) (by rw [List.getElem?_set_ne hj]; exact h1); rw [h2] at e1; cases e1; exact e2
theorem In.axis {s p : List Nat} {x : Nat} (h : In s p) (hx : x < s.length) : p[x]? = some (p.getD x 0) /\ p.getD x 0 < along s x := by
 have hs : s[x]? = some s[x] := List.getElem?_eq_getElem hx; obtain ⟨i,e1,e2⟩ := h.get hs; rw [List.getD_eq_getElem?_getD,e1,bK hs]; exact ⟨rfl,e2⟩
end Ma

namespace Ma
theorem cf {α : Type} {l : List α} (h : l.length = 0) : l = [] := List.length_eq_zero_iff.mp h
theorem c8 {α : Type} {l : List α} (h : l.length = 1) : ∃ a,l = [a] := by
 match l,h with
 | [a],_ => exact ⟨a,rfl⟩
theorem lW {α : Type} {l : List α} (h : l.length = 2) : ∃ a b,l = [a,b] := by
 match l,h with
 | [a,b],_ => exact ⟨a,b,rfl⟩
theorem uJ {α : Type} {l : List α} (h : l.length = 3) : ∃ a b c,l = [a,b,c] := by
 match l,h with
 | [a,b,c],_ => exact ⟨a,b,c,rfl⟩
theorem mT {α : Type} {l : List α} (h : l.length = 4) : ∃ a b c d,l = [a,b,c,d] := by
 match l,h with
 | [a,b,c,d],_ => exact ⟨a,b,c,d,rfl⟩
theorem mH {p : Int} {k m : Nat} (h : PyYqlnca.shape p = some (k,m)) : (p = 1 /\ k = 1 /\ m = 2) \/ (p = 2 /\ k = 2 /\ m = 1) \/ (p = 3 /\ k = 3 /\ m = 1) \/ (p = 4 /\ k = 1 /\ m = 0) \/ (p = 5 /\ k = 1 /\ m = 0) \/ (p = 6 /\ k = 1 /\ m = 0) \/ (p = 7 /\ k = 1 /\ m = 1) \/ (p = 8 /\ k = 2 /\ m = 1) \/ (p = 9 /\ k = 2 /\ m = 1) \/ (p = 10 /\ k = 2 /\ m = 1) \/ (p = 11 /\ k = 2 /\ m = 1) \/ (p = 12 /\ k = 2 /\ m = 1) \/ (p = 13 /\ k = 4 /\ m = 0) \/ (p = 14 /\ k = 4 /\ m = 0) \/ (p = 15 /\ k = 4 /\ m = 0) \/ (p = 16 /\ k = 4 /\ m = 0) \/ (p = 17 /\ k = 4 /\ m = 0) \/ (p = 18 /\ k = 4 /\ m = 0) \/ (p = 19 /\ k = 3 /\ m = 0) \/ (p = 20 /\ k = 4 /\ m = 0) \/ (p = 21 /\ k = 3 /\ m = 0) \/ (p = 22 /\ k = 4 /\ m = 0) \/ (p = 23 /\ k = 3 /\ m = 0) \/ (p = 24 /\ k = 2 /\ m = 0) \/ (p = 25 /\ k = 1 /\ m = 0) \/ (p = 26 /\ k = 1 /\ m = 1) := by
 unfold PyYqlnca.shape at h
 by_cases h1 : p = 1
 ·rw [if_pos h1] at h; cases h; exact .inl ⟨h1,rfl,rfl⟩
 rw [if_neg h1] at h; refine .inr ?_
 by_cases h2 : p = 2
 ·rw [if_pos h2] at h; cases h; exact .inl ⟨h2,rfl,rfl⟩
 rw [if_neg h2] at h; refine .inr ?_
 by_cases h3 : p = 3
 ·rw [if_pos h3] at h; cases h; exact .inl ⟨h3,rfl,rfl⟩
 rw [if_neg h3] at h; refine .inr ?_
 by_cases h4 : p = 4
 ·rw [if_pos h4] at h; cases h; exact .inl ⟨h4,rfl,rfl⟩
 rw [if_neg h4] at h; refine .inr ?_
 by_cases h5 : p = 5
 ·rw [if_pos h5] at h; cases h; exact .inl ⟨h5,rfl,rfl⟩
 rw [if_neg h5] at h; refine .inr ?_
 by_cases h6 : p = 6
 ·rw [if_pos h6] at h; cases h; exact .inl ⟨h6,rfl,rfl⟩
 rw [if_neg h6] at h; refine .inr ?_
 by_cases h7 : p = 7
 ·rw [if_pos h7] at h; cases h; exact .inl ⟨h7,rfl,rfl⟩
 rw [if_neg h7] at h; refine .inr ?_
 by_cases h8 : p = 8
 ·rw [if_pos h8] at h; cases h; exact .inl ⟨h8,rfl,rfl⟩
 rw [if_neg h8] at h; refine .inr ?_
 by_cases h9 : p = 9
 ·rw [if_pos h9] at h; cases h; exact .inl ⟨h9,rfl,rfl⟩
 rw [if_neg h9] at h; refine .inr ?_
 by_cases h10 : p = 10
 ·rw [if_pos h10] at h; cases h; exact .inl ⟨h10,rfl,rfl⟩
 rw [if_neg h10] at h; refine .inr ?_
 by_cases h11 : p = 11
 ·rw [if_pos h11] at h; cases h; exact .inl ⟨h11,rfl,rfl⟩
 rw [if_neg h11] at h; refine .inr ?_
 by_cases h12 : p = 12
 ·rw [if_pos h12] at h; cases h; exact .inl ⟨h12,rfl,rfl⟩
 rw [if_neg h12] at h; refine .inr ?_
 by_cases h13 : p = 13
 ·rw [if_pos h13] at h; cases h; exact .inl ⟨h13,rfl,rfl⟩
 rw [if_neg h13] at h; refine .inr ?_
 by_cases h14 : p = 14
 ·rw [if_pos h14] at h; cases h; exact .inl ⟨h14,rfl,rfl⟩
 rw [if_neg h14] at h; refine .inr ?_
 by_cases h15 : p = 15
 ·rw [if_pos h15] at h; cases h; exact .inl ⟨h15,rfl,rfl⟩
 rw [if_neg h15] at h; refine .inr ?_
 by_cases h16 : p = 16
 ·rw [if_pos h16] at h; cases h; exact .inl ⟨h16,rfl,rfl⟩
 rw [if_neg h16] at h; refine .inr ?_
 by_cases h17 : p = 17
 ·rw [if_pos h17] at h; cases h; exact .inl ⟨h17,rfl,rfl⟩
 rw [if_neg h17] at h; refine .inr ?_
 by_cases h18 : p = 18
 ·rw [if_pos h18] at h; cases h; exact .inl ⟨h18,rfl,rfl⟩
 rw [if_neg h18] at h; refine .inr ?_
 by_cases h19 : p = 19
 ·rw [if_pos h19] at h; cases h; exact .inl ⟨h19,rfl,rfl⟩
 rw [if_neg h19] at h; refine .inr ?_
 by_cases h20 : p = 20
 ·rw [if_pos h20] at h; cases h; exact .inl ⟨h20,rfl,rfl⟩
 rw [if_neg h20] at h; refine .inr ?_
 by_cases h21 : p = 21
 ·rw [if_pos h21] at h; cases h; exact .inl ⟨h21,rfl,rfl⟩
 rw [if_neg h21] at h; refine .inr ?_
 by_cases h22 : p = 22
 ·rw [if_pos h22] at h; cases h; exact .inl ⟨h22,rfl,rfl⟩
 rw [if_neg h22] at h; refine .inr ?_
 by_cases h23 : p = 23
 ·rw [if_pos h23] at h; cases h; exact .inl ⟨h23,rfl,rfl⟩
 rw [if_neg h23] at h; refine .inr ?_
 by_cases h24 : p = 24
 ·rw [if_pos h24] at h; cases h; exact .inl ⟨h24,rfl,rfl⟩
 rw [if_neg h24] at h; refine .inr ?_
 by_cases h25 : p = 25
 ·rw [if_pos h25] at h; cases h; exact .inl ⟨h25,rfl,rfl⟩
 rw [if_neg h25] at h; refine .inr ?_
 by_cases h26 : p = 26
 ·rw [if_pos h26] at h; cases h; exact ⟨h26,rfl,rfl⟩
 rw [if_neg h26] at h; cases h
theorem aby {p : Int} {k m : Nat} {W : List Int} {X : List (List Int)} (h : PyYqlnca.shape p = some (k,m)) (hW : W.length = k) (hX : X.length = m) : PyYqlnca.whole ((p :: W) :: X) = (p :: W) :: X := by
 rcases mH h with ⟨rfl,rfl,rfl⟩ | ⟨rfl,rfl,rfl⟩ | ⟨rfl,rfl,rfl⟩ | ⟨rfl,rfl,rfl⟩ | ⟨rfl,rfl,rfl⟩ | ⟨rfl,rfl,rfl⟩ | ⟨rfl,rfl,rfl⟩ | ⟨rfl,rfl,rfl⟩ | ⟨rfl,rfl,rfl⟩ | ⟨rfl,rfl,rfl⟩ | ⟨rfl,rfl,rfl⟩ | ⟨rfl,rfl,rfl⟩ | ⟨rfl,rfl,rfl⟩ | ⟨rfl,rfl,rfl⟩ | ⟨rfl,rfl,rfl⟩ | ⟨rfl,rfl,rfl⟩ | ⟨rfl,rfl,rfl⟩ | ⟨rfl,rfl,rfl⟩ | ⟨rfl,rfl,rfl⟩ | ⟨rfl,rfl,rfl⟩ | ⟨rfl,rfl,rfl⟩ | ⟨rfl,rfl,rfl⟩ | ⟨rfl,rfl,rfl⟩ | ⟨rfl,rfl,rfl⟩ | ⟨rfl,rfl,rfl⟩ | ⟨rfl,rfl,rfl⟩
 ·obtain ⟨x0,rfl⟩ := c8 hW; obtain ⟨r0,r1,rfl⟩ := lW hX; rfl
 ·obtain ⟨x0,x1,rfl⟩ := lW hW; obtain ⟨r0,rfl⟩ := c8 hX; rfl
 ·obtain ⟨x0,x1,x2,rfl⟩ := uJ hW; obtain ⟨r0,rfl⟩ := c8 hX; rfl
 ·obtain ⟨x0,rfl⟩ := c8 hW; cases cf hX; rfl
 ·obtain ⟨x0,rfl⟩ := c8 hW; cases cf hX; rfl
 ·obtain ⟨x0,rfl⟩ := c8 hW; cases cf hX; rfl
 ·obtain ⟨x0,rfl⟩ := c8 hW; obtain ⟨r0,rfl⟩ := c8 hX; rfl
 ·obtain ⟨x0,x1,rfl⟩ := lW hW; obtain ⟨r0,rfl⟩ := c8 hX; rfl
 ·obtain ⟨x0,x1,rfl⟩ := lW hW; obtain ⟨r0,rfl⟩ := c8 hX; rfl
 ·obtain ⟨x0,x1,rfl⟩ := lW hW; obtain ⟨r0,rfl⟩ := c8 hX; rfl
 ·obtain ⟨x0,x1,rfl⟩ := lW hW; obtain ⟨r0,rfl⟩ := c8 hX; rfl
 ·obtain ⟨x0,x1,rfl⟩ := lW hW; obtain ⟨r0,rfl⟩ := c8 hX; rfl
 ·obtain ⟨x0,x1,x2,x3,rfl⟩ := mT hW; cases cf hX; rfl
 ·obtain ⟨x0,x1,x2,x3,rfl⟩ := mT hW; cases cf hX; rfl
 ·obtain ⟨x0,x1,x2,x3,rfl⟩ := mT hW; cases cf hX; rfl
 ·obtain ⟨x0,x1,x2,x3,rfl⟩ := mT hW; cases cf hX; rfl
 ·obtain ⟨x0,x1,x2,x3,rfl⟩ := mT hW; cases cf hX; rfl
 ·obtain ⟨x0,x1,x2,x3,rfl⟩ := mT hW; cases cf hX; rfl
 ·obtain ⟨x0,x1,x2,rfl⟩ := uJ hW; cases cf hX; rfl
 ·obtain ⟨x0,x1,x2,x3,rfl⟩ := mT hW; cases cf hX; rfl
 ·obtain ⟨x0,x1,x2,rfl⟩ := uJ hW; cases cf hX; rfl
 ·obtain ⟨x0,x1,x2,x3,rfl⟩ := mT hW; cases cf hX; rfl
 ·obtain ⟨x0,x1,x2,rfl⟩ := uJ hW; cases cf hX; rfl
 ·obtain ⟨x0,x1,rfl⟩ := lW hW; cases cf hX; rfl
 ·obtain ⟨x0,rfl⟩ := c8 hW; cases cf hX; rfl
 ·obtain ⟨x0,rfl⟩ := c8 hW; obtain ⟨r0,rfl⟩ := c8 hX; rfl
end Ma

namespace L2
open PySem PySem.Spec PyProof.Rows
structure Df (K : Fg) (mg : Str -> Option Value) (x qual : Str) (st : Stmt) (ps : List Str) : Prop where
 ex : ∃ (f : Addr) (fd : FuncData),qQ K x qual st f fd /\ mg x = some (.ref f) /\ d9 K fd ps []
structure Ok (P : Program) (w : World) (K : Fg) (mg : Str -> Option Value) (base : Heap) (k : Nat) (x : Str) (ps : List Str) (sp : Sp) : Prop where
 ex : ∃ (f : Addr) (fd : FuncData),f7 P w K mg base pB k f fd ps sp /\ mg x = some (.ref f) /\ PySem.W.keepIn K (.ref f) = true /\ d9 K fd ps []
section
variable {P : Program} {w : World} {K : Fg} {mg : Str -> Option Value} {base : Heap}
theorem Df.ok {x qual : Str} {st : Stmt} {N ps : List Str} {k : Nat} {sp : Sp} (D : Df K mg x qual st ps) (S : aq N ps (aj st)) (len : ∀ vs H Q E,sp vs H Q E -> vs.length = ps.length)
  (hbody : ∀ (f : Addr) (cdv : Value) (A : Around) (outer : List Env) (s : Shared) (H : Hp) (vs : List V) (Q : VK) (E : XK),bM k (A.deeper (envOfC qual (aj st) s.heap.objs.size f cdv)) -> sp vs H Q E →
   ∃ t,kN (o5 pB P w K mg base N qual (aj st) f cdv A outer s H E).nox (b9 st) t /\ t { nx := fun _ H' => Q .non H',rt := Q } (start N vs) H) : Ok P w K mg base (k + 1) x ps sp := by
 obtain ⟨f,fd,F,hm,hb⟩ := D.ex; exact ⟨f,fd,F.ok S len (hbody f),hm,F.kp,hb⟩
end
section
variable {X : Cx} {k : Nat} {ps : List Str} {sp : Sp} {x : Str} {p pos : Pos} {e : Expr} {es : List Expr} {t : TA}
theorem adD (G : Ok X.prog X.w X.K X.mg X.base k x ps sp) (hr : bM k X.A) (hg : Gl X x) (ha : PA X (e :: es) t) (hdb : (x == ("__debug__" : Str)) = false := by decide)
  (he : starEach (e :: es) X.env = (false,eval e X.env) :: starEach es X.env := by rfl) (hpl : (backTo pos (starEach es X.env)).any (·.1) = false := by rfl) :
  PE X (.Call (.Name x p) (e :: es) [] pos) (t0 sp [] E0 t) := by
 obtain ⟨f,fd,F,hm,hk,hb⟩ := G.ex; exact ab0 F hr hg hm hk hb .nil tM ha hdb he hpl
theorem adc (G : Ok X.prog X.w X.K X.mg X.base k x ps sp) (hr : bM k X.A) (hg : Gl X x) (hdb : (x == ("__debug__" : Str)) = false := by decide) : PE X (.Call (.Name x p) [] [] pos) (t0 sp [] E0 uW) := by
 obtain ⟨f,fd,F,hm,hk,hb⟩ := G.ex; exact aa7 F hr hg hm hk hb .nil tM hdb
theorem aP {i : Int} (hm : ∃ t,X.mg x = some (.int i t)) (hg : Gl X x := by rfl) (hd : (x == ("__debug__" : Str)) = false := by decide) : PE X (.Name x pos) (tC (.int i)) := by
 obtain ⟨t,hm⟩ := hm; exact rc hg hm ⟨_,rfl⟩ hd
end
theorem ak.upd {H H' : Hp} {p : Addr} {o : HO} (s : ak H H') (h : H p = Option.none) : ak H (upd H' p o) := fun b u e => by
 rw [aK (aJ e h)]; exact s b u e
theorem ak.new {H : Hp} {p : Addr} {o : HO} (h : H p = Option.none) : ak H (L2.upd H p o) := ak.upd (ak.refl H) h
abbrev vi (l : List Int) : List V := l.map V.int
abbrev vn (l : List Nat) : List V := vi (Ma.nz l)
theorem dN {l : List Int} {i : Nat} {v : V} (h : (vi l)[i]? = some v) : ∃ z,l[i]? = some z /\ v = .int z := by
 rw [List.getElem?_map] at h
 cases e : l[i]? with
 | none => rw [e] at h; cases h
 | some z => rw [e] at h; exact ⟨z,rfl,(Option.some.inj h).symm⟩
theorem cJ {l : List Nat} {i : Nat} {v : V} (h : (vn l)[i]? = some v) : ∃ z : Nat,l[i]? = some z /\ v = .int z := by
 obtain ⟨z,h1,h2⟩ := dN h; rw [List.getElem?_map] at h1
 cases e : l[i]? with
 | none => rw [e] at h1; cases h1
 | some y => rw [e] at h1; cases h1; exact ⟨y,rfl,h2⟩
theorem bT {α : Type} : ∀ {l : List α} {i : Nat} {x : α},l[i]? = some x -> l.take (i + 1) = l.take i ++ [x]
 | [],i,x,h => by simp at h
 | a :: l,0,x,h => by
  have e : a = x := Option.some.inj h; subst e; rfl
 | a :: l,i + 1,x,h => by
  have ih := bT (l := l) (i := i) (x := x) h; show a :: l.take (i + 1) = a :: l.take i ++ [x]; rw [ih]; rfl
theorem aN (l : List Int) : (vi l).length = l.length := List.length_map ..
theorem aI (l : List Nat) : (vn l).length = l.length := by rw [aN]; exact List.length_map ..
theorem qC (l m : List Int) : vi (l ++ m) = vi l ++ vi m := List.map_append ..
theorem p9 (l m : List Nat) : vn (l ++ m) = vn l ++ vn m := by show vi (Ma.nz (l ++ m)) = _; rw [Ma.nz,List.map_append]; exact qC _ _
theorem acz (l : List Int) : vi l.reverse = (vi l).reverse := List.map_reverse ..
theorem acm (l : List Nat) : vn l.reverse = (vn l).reverse := by show vi (Ma.nz l.reverse) = _; rw [Ma.nz,List.map_reverse]; exact acz _
theorem cy {l : List Int} {i : Nat} {z : Int} (h : l[i]? = some z) : (vi l)[i]? = some (.int z) := by rw [List.getElem?_map,h]; rfl
theorem dn {l : List Nat} {i : Nat} {z : Nat} (h : l[i]? = some z) : (vn l)[i]? = some (.int z) := cy (by rw [List.getElem?_map,h]; rfl)
theorem im {K : Fg} {a b : Addr} {xs ys : List V} {g : TG} {tb : TS} {D : kf} {σ : St} {H : Hp} (Pv : Nat -> St -> Hp -> Prop) (h0 : Pv 0 σ H) (hlen : xs.length = ys.length) (hl : ∀ i σ H,i <= xs.length -> Pv i σ H -> ag K H a xs /\ ag K H b ys)
  (hs : ∀ i x y σ H T,xs[i]? = some x -> ys[i]? = some y -> H T = none -> Pv i σ H -> g (.ref T) σ (upd H T (.tup [x,y])) fun σ2 H2 => tb { D with nx := Pv (i + 1),ct := Pv (i + 1),bk := D.nx } σ2 H2) (hd : ∀ σ H,Pv xs.length σ H -> D.nx σ H) :
  ∃ W : Nat -> Nat -> St -> Hp -> Prop,(∃ m,W 0 m σ H) /\ ∀ i m σ H,W i m σ H →
   ((yf K a b).stop i H /\ D.nx σ H) \/ ((yf K a b).go i H /\ ∃ N : St -> Hp -> Prop,(∀ σ' H',N σ' H' -> ∃ m',m' < m /\ W (i + 1) m' σ' H') /\ ∀ x H',(yf K a b).yld i H x H' -> g x σ H' fun σ2 H2 => tb { D with nx := N,ct := N,bk := D.nx } σ2 H2) := by
 refine ⟨fun i m σ H => m = xs.length - i /\ i <= xs.length /\ Pv i σ H,⟨xs.length,by simp,Nat.zero_le _,h0⟩,?_⟩; rintro i m σ H ⟨rfl,hi,p⟩; have q := hl i σ H hi p
 by_cases hlt : i < xs.length
 ·refine .inr ⟨⟨xs,ys,xs[i],ys[i],q.1,q.2,by simp [hlt],by simp⟩,Pv (i + 1),fun σ' H' p' => ⟨xs.length - (i + 1),by omega,rfl,hlt,p'⟩,fun x H' y => ?_⟩; obtain ⟨T,x1,x2,rfl,hT,rfl,e1,e2⟩ := y; exact hs i x1 x2 σ H T (e1 xs q.1) (e2 ys q.2) hT p
 ·have e : i = xs.length := by omega
  subst e; exact .inl ⟨⟨xs,ys,q.1,q.2,.inl (Nat.le_refl _)⟩,hd σ H p⟩
theorem ab8 {K : Fg} {a : Addr} {xs : List V} {g : TG} {tb : TS} {D : kf} {σ : St} {H : Hp} (Pv : Nat -> St -> Hp -> Prop) (h0 : Pv 0 σ H) (hl : ∀ i σ H,i <= xs.length -> Pv i σ H -> ag K H a xs)
  (hs : ∀ i x σ H,i < xs.length -> xs[xs.length - 1 - i]? = some x -> Pv i σ H -> g x σ H fun σ2 H2 => tb { D with nx := Pv (i + 1),ct := Pv (i + 1),bk := D.nx } σ2 H2) (hd : ∀ σ H,Pv xs.length σ H -> D.nx σ H) :
  ∃ W : Nat -> Nat -> St -> Hp -> Prop,(∃ m,W 0 m σ H) /\ ∀ i m σ H,W i m σ H →
   ((z9 K a xs.length).stop i H /\ D.nx σ H) \/ ((z9 K a xs.length).go i H /\ ∃ N : St -> Hp -> Prop,(∀ σ' H',N σ' H' -> ∃ m',m' < m /\ W (i + 1) m' σ' H') /\ ∀ x H',(z9 K a xs.length).yld i H x H' -> g x σ H' fun σ2 H2 => tb { D with nx := N,ct := N,bk := D.nx } σ2 H2) := by
 refine ⟨fun i m σ H => m = xs.length - i /\ i <= xs.length /\ Pv i σ H,⟨xs.length,by simp,Nat.zero_le _,h0⟩,?_⟩; rintro i m σ H ⟨rfl,hi,p⟩; have q := hl i σ H hi p
 by_cases hlt : i < xs.length
 ·have hx : xs.length - 1 - i < xs.length := by omega
  refine .inr ⟨⟨hlt,xs,xs[xs.length - 1 - i],q,by simp [hx]⟩,Pv (i + 1),fun σ' H' p' => ⟨xs.length - (i + 1),by omega,rfl,hlt,p'⟩,fun x H' y => ?_⟩; obtain ⟨e,y⟩ := y; subst e; exact hs i x σ _ hlt (y xs q) p
 ·have e : i = xs.length := by omega
  subst e; exact .inl ⟨Nat.le_refl _,hd σ H p⟩
theorem abq {K : Fg} {a : Addr} {xs : List V} {g : TG} {tb : TS} {D : kf} {σ : St} {H : Hp} (Pv : Nat -> St -> Hp -> Prop) (h0 : Pv 0 σ H) (hl : ∀ i σ H,i <= xs.length -> Pv i σ H -> ag K H a xs)
  (hs : ∀ i x σ H T,xs[i]? = some x -> H T = none -> Pv i σ H -> g (.ref T) σ (upd H T (.tup [.int (i : Nat),x])) fun σ2 H2 => tb { D with nx := Pv (i + 1),ct := Pv (i + 1),bk := D.nx } σ2 H2) (hd : ∀ σ H,Pv xs.length σ H -> D.nx σ H) :
  ∃ W : Nat -> Nat -> St -> Hp -> Prop,(∃ m,W 0 m σ H) /\ ∀ i m σ H,W i m σ H →
   ((yr K a).stop i H /\ D.nx σ H) \/ ((yr K a).go i H /\ ∃ N : St -> Hp -> Prop,(∀ σ' H',N σ' H' -> ∃ m',m' < m /\ W (i + 1) m' σ' H') /\ ∀ x H',(yr K a).yld i H x H' -> g x σ H' fun σ2 H2 => tb { D with nx := N,ct := N,bk := D.nx } σ2 H2) := by
 refine ⟨fun i m σ H => m = xs.length - i /\ i <= xs.length /\ Pv i σ H,⟨xs.length,by simp,Nat.zero_le _,h0⟩,?_⟩; rintro i m σ H ⟨rfl,hi,p⟩; have q := hl i σ H hi p
 by_cases hlt : i < xs.length
 ·refine .inr ⟨⟨xs,xs[i],q,by simp [hlt]⟩,Pv (i + 1),fun σ' H' p' => ⟨xs.length - (i + 1),by omega,rfl,hlt,p'⟩,fun x H' y => ?_⟩; obtain ⟨T,x1,rfl,hT,rfl,e1⟩ := y; exact hs i x1 σ H T (e1 xs q) hT p
 ·have e : i = xs.length := by omega
  subst e; exact .inl ⟨⟨xs,q,Nat.le_refl _⟩,hd σ H p⟩
structure pZ (J : It) (H1 : Hp) (n : Nat) (Y : Nat -> Hp -> V -> Hp -> Prop) : Prop where
 go : ∀ i H,i < n -> ak H1 H -> J.go i H
 stop : ∀ H,ak H1 H -> J.stop n H
 yld : ∀ i H x H',i < n -> ak H1 H -> J.yld i H x H' -> Y i H x H'
theorem bW {K : Fg} {a : Addr} {xs : List V} {H1 : Hp} (h : ag K H1 a xs) : pZ (yl K a) H1 xs.length (fun i H x H' => H' = H /\ xs[i]? = some x) :=
 ⟨fun i H hi s => ⟨xs,xs[i],s.seq h,by simp [hi]⟩,fun H s => ⟨xs,s.seq h,Nat.le_refl _⟩,fun i H x H' _ s y => ⟨y.1,y.2 xs (s.seq h)⟩⟩
theorem fM {lo : Int} {n : Nat} {H1 : Hp} : pZ (vw lo n) H1 n (fun i H x H' => H' = H /\ x = .int (lo + i)) :=
 ⟨fun i H hi s => hi,fun H s => Nat.le_refl _,fun i H x H' _ s y => y⟩
theorem zk {lo c : Int} {n : Nat} {H1 : Hp} : pZ (x8 lo c n) H1 n (fun i H x H' => H' = H /\ x = .int (lo + (i : Nat) * c)) :=
 ⟨fun i H hi s => hi,fun H s => Nat.le_refl _,fun i H x H' _ s y => y⟩
theorem rm {K : Fg} {a b : Addr} {xs ys : List V} {H1 : Hp} (h : ag K H1 a xs) (h2 : ag K H1 b ys) (hl : xs.length = ys.length) :
  pZ (yf K a b) H1 xs.length (fun i H v H' => ∃ T x y,v = .ref T /\ H T = none /\ H' = upd H T (.tup [x,y]) /\ xs[i]? = some x /\ ys[i]? = some y) :=
 ⟨fun i H hi s => ⟨xs,ys,xs[i],ys[i],s.seq h,s.seq h2,by simp [hi],by simp⟩,fun H s => ⟨xs,ys,s.seq h,s.seq h2,.inl (Nat.le_refl _)⟩,
  fun i H v H' _ s ⟨T,x,y,e1,e2,e3,e4,e5⟩ => ⟨T,x,y,e1,e2,e3,e4 xs (s.seq h),e5 ys (s.seq h2)⟩⟩
theorem xA {K : Fg} {a : Addr} {xs : List V} {H1 : Hp} (h : ag K H1 a xs) :
  pZ (yr K a) H1 xs.length (fun i H v H' => ∃ T x,v = .ref T /\ H T = none /\ H' = upd H T (.tup [.int (i : Nat),x]) /\ xs[i]? = some x) :=
 ⟨fun i H hi s => ⟨xs,xs[i],s.seq h,by simp [hi]⟩,fun H s => ⟨xs,s.seq h,Nat.le_refl _⟩,
  fun i H v H' _ s ⟨T,x,e1,e2,e3,e4⟩ => ⟨T,x,e1,e2,e3,e4 xs (s.seq h)⟩⟩
theorem xx {J : It} {g : TG} {te : TE} {vs : List Nat} {σ : St} {H1 : Hp} {D : Addr} {Qd : Hp -> Prop} {n : Nat} {Y : Nat -> Hp -> V -> Hp -> Prop} (S : pZ J H1 n Y) (R : Nat -> V -> Hp -> Prop) (hD : H1 D = none) (hn : n <= sizeLine)
  (keep : ∀ i y H H',H1 D = none -> R i y H -> (∀ b o,H b = some o -> b ≠ D -> H' b = some o) -> R i y H')
  (turn : ∀ i H x H',i < n -> ak H1 H -> (∃ acc,H D = some (.lst acc)) -> Y i H x H' -> ∀ Q : VK,(∀ y H4,ak H H4 -> R i y H4 -> Q y H4) -> g x (bI σ vs) H' fun σ2 H2 => bI σ2 vs = bI σ vs /\ te σ2 H2 Q)
  (mg : ∀ x σ H (Q Q' : St -> Hp -> Prop),(∀ σ2 H2,Q σ2 H2 -> Q' σ2 H2) -> g x σ H Q -> g x σ H Q')
  (hd : ∀ H' ys,ak H1 H' -> H' D = some (.lst ys) -> ys.length = n -> (∀ i y,ys[i]? = some y -> R i y H') -> Qd H') :
  ∃ W : Nat -> Nat -> Hp -> Prop,(∃ m,W 0 m (upd H1 D (.lst []))) /\ ∀ i m H,W i m H →
   (J.stop i H /\ Qd H) \/ (J.go i H /\ ∃ Nx : Hp -> Prop,(∀ H',Nx H' -> ∃ m',m' < m /\ W (i + 1) m' H') /\ ∀ x H',J.yld i H x H' -> g x (bI σ vs) H' fun σ2 H2 => bI σ2 vs = bI σ vs /\ xz σ2 H2 fun b H3 =>
    if b = true then te σ2 H3 fun y H4 => ∃ acc,H4 D = some (.lst acc) /\ acc.length < sizeLine /\ Nx (upd H4 D (.lst (acc ++ [y]))) else Nx H3) := by
 refine ⟨fun i m H => m = n - i /\ i <= n /\ ak H1 H /\ ∃ ys,H D = some (.lst ys) /\ ys.length = i /\ ∀ j y,ys[j]? = some y -> R j y H,
  ⟨n,by simp,Nat.zero_le _,ak.new hD,[],am,rfl,fun j y e => by simp at e⟩,?_⟩
 rintro i m H ⟨rfl,hi,sm,ys,hys,hl,hR⟩
 by_cases hlt : i < n
 ·let Nx : Hp -> Prop := fun H' => ak H1 H' /\ ∃ ys,H' D = some (.lst ys) /\ ys.length = i + 1 /\ ∀ (j : Nat) y,ys[j]? = some y -> R j y H'
  refine .inr ⟨S.go i H hlt sm,Nx,fun H' p => ⟨n - (i + 1),by omega,rfl,hlt,p⟩,fun x H' y => ?_⟩; refine mg x _ _ _ _ (fun σ2 H2 q => ⟨q.1,?_⟩) (turn i H x H' hlt sm ⟨ys,hys⟩ (S.yld i H x H' hlt sm y) (fun y H4 => ∃ acc,H4 D = some (.lst acc) /\ acc.length < sizeLine /\ Nx (upd H4 D (.lst (acc ++ [y])))) fun y H4 s4 r4 => ?_)
  ·exact q.2
  ·have h4 : H4 D = some (.lst ys) := s4 _ _ hys; refine ⟨ys,h4,by omega,(sm.trans s4).upd hD,ys ++ [y],am,by simp [hl],fun j z e => ?_⟩; have kp : ∀ b o,H4 b = some o -> b ≠ D -> (upd H4 D (.lst (ys ++ [y]))) b = some o := fun b o e hb => by rw [aK hb]; exact e
   by_cases hj : j < ys.length
   ·rw [List.getElem?_append_left hj] at e; exact keep j z H4 _ hD (keep j z H H4 hD (hR j z e) fun b o e _ => s4 b o e) kp
   ·rw [List.getElem?_append_right (by omega)] at e
    have hj0 : j - ys.length = 0 := by
     cases hq : j - ys.length with
     | zero => rfl
     | succ k => rw [hq] at e; simp at e
    rw [hj0] at e; have ez : y = z := Option.some.inj e; subst ez; have ej : j = i := by omega
    rw [ej]; exact keep i y H4 _ hD r4 kp
 ·have e : i = n := by omega
  subst e; exact .inl ⟨S.stop H sm,hd H ys sm hys hl hR⟩
theorem bf {i : Nat} : ∀ x σ H (Q Q' : St -> Hp -> Prop),(∀ σ2 H2,Q σ2 H2 -> Q' σ2 H2) -> gX i x σ H Q -> gX i x σ H Q' := fun _ _ _ _ _ h q => h _ _ q
theorem j0 {K : Fg} {i j : Nat} : ∀ x σ H (Q Q' : St -> Hp -> Prop),(∀ σ2 H2,Q σ2 H2 -> Q' σ2 H2) -> zF K 2 (uo (gX i) (uo (gX j) abw)) x σ H Q -> zF K 2 (uo (gX i) (uo (gX j) abw)) x σ H Q' := by
 rintro x σ H Q Q' h ⟨a,xs,e,q,l,v,r,e1,v2,r2,e2,e3,z⟩; exact ⟨a,xs,e,q,l,v,r,e1,v2,r2,e2,e3,h _ _ z⟩
theorem cz {J : It} {g : TG} {te : TE} {vs : List Nat} {σ : St} {H1 : Hp} {D : Addr} {Qd : Hp -> Prop} {n : Nat} {Y : Nat -> Hp -> V -> Hp -> Prop} (S : pZ J H1 n Y) (f : Nat -> V) (hD : H1 D = none) (hn : n <= sizeLine)
  (turn : ∀ i H x H',i < n -> ak H1 H -> Y i H x H' -> ∀ Q : VK,(∀ H4,ak H H4 -> Q (f i) H4) -> g x (bI σ vs) H' fun σ2 H2 => bI σ2 vs = bI σ vs /\ te σ2 H2 Q)
  (mg : ∀ x σ H (Q Q' : St -> Hp -> Prop),(∀ σ2 H2,Q σ2 H2 -> Q' σ2 H2) -> g x σ H Q -> g x σ H Q')
  (hd : ∀ H',ak H1 H' -> H' D = some (.lst ((List.range n).map f)) -> Qd H') :
  ∃ W : Nat -> Nat -> Hp -> Prop,(∃ m,W 0 m (upd H1 D (.lst []))) /\ ∀ i m H,W i m H →
   (J.stop i H /\ Qd H) \/ (J.go i H /\ ∃ Nx : Hp -> Prop,(∀ H',Nx H' -> ∃ m',m' < m /\ W (i + 1) m' H') /\ ∀ x H',J.yld i H x H' -> g x (bI σ vs) H' fun σ2 H2 => bI σ2 vs = bI σ vs /\ xz σ2 H2 fun b H3 =>
    if b = true then te σ2 H3 fun y H4 => ∃ acc,H4 D = some (.lst acc) /\ acc.length < sizeLine /\ Nx (upd H4 D (.lst (acc ++ [y]))) else Nx H3) :=
 xx S (fun i y _ => y = f i) hD hn (fun _ _ _ _ _ h _ => h) (fun i H x H' hi s _ y Q q => turn i H x H' hi s y Q fun H4 s4 => q _ _ s4 rfl) mg fun H' ys s hys hl hR => hd H' s (by
  have e : ys = (List.range n).map f := by
   apply List.ext_getElem?; intro i
   by_cases hi : i < n
   ·have h1 : ys[i]? = some ys[i] := List.getElem?_eq_getElem (by omega); rw [h1,hR i _ h1,List.getElem?_map,List.getElem?_range hi]; rfl
   ·rw [List.getElem?_eq_none (by omega),List.getElem?_eq_none (by simp; omega)]
  rw [← e]
  exact hys)
theorem oH {J : It} {g : TG} {te : TE} {vs : List Nat} {σ : St} {H1 : Hp} {D : Addr} {Qd : Hp -> Prop} {n : Nat} {Y : Nat -> Hp -> V -> Hp -> Prop} (S : pZ J H1 n Y) (f : Nat -> List V) (hD : H1 D = none) (hn : n <= sizeLine)
  (turn : ∀ i H x H',i < n -> ak H1 H -> Y i H x H' -> ∀ Q : VK,(∀ q H4,ak H H4 -> H q = none -> H4 q = some (.lst (f i)) -> Q (.ref q) H4) -> g x (bI σ vs) H' fun σ2 H2 => bI σ2 vs = bI σ vs /\ te σ2 H2 Q)
  (mg : ∀ x σ H (Q Q' : St -> Hp -> Prop),(∀ σ2 H2,Q σ2 H2 -> Q' σ2 H2) -> g x σ H Q -> g x σ H Q')
  (hd : ∀ H' (qs : List Addr),ak H1 H' -> H' D = some (.lst (qs.map V.ref)) -> qs.length = n -> (∀ (i : Nat) q,qs[i]? = some q -> H' q = some (.lst (f i))) -> Qd H') :
  ∃ W : Nat -> Nat -> Hp -> Prop,(∃ m,W 0 m (upd H1 D (.lst []))) /\ ∀ i m H,W i m H →
   (J.stop i H /\ Qd H) \/ (J.go i H /\ ∃ Nx : Hp -> Prop,(∀ H',Nx H' -> ∃ m',m' < m /\ W (i + 1) m' H') /\ ∀ x H',J.yld i H x H' -> g x (bI σ vs) H' fun σ2 H2 => bI σ2 vs = bI σ vs /\ xz σ2 H2 fun b H3 =>
    if b = true then te σ2 H3 fun y H4 => ∃ acc,H4 D = some (.lst acc) /\ acc.length < sizeLine /\ Nx (upd H4 D (.lst (acc ++ [y]))) else Nx H3) :=
 xx S (fun i y H => ∃ q,y = .ref q /\ q ≠ D /\ H q = some (.lst (f i))) hD hn (fun i y H H' _ ⟨q,e,ne,h⟩ k => ⟨q,e,ne,k _ _ h ne⟩)
  (fun i H x H' hi s ⟨acc,ha⟩ y Q q => turn i H x H' hi s y Q fun a H4 s4 n4 h4 => q _ _ s4 ⟨a,rfl,fun e => by (rw [e,ha] at n4; cases n4),h4⟩) mg fun H' ys s hys hl hR => by
  have hq : ∃ qs : List Addr,ys = qs.map V.ref := by
   clear hl hys
   induction ys with
   | nil => exact ⟨[],rfl⟩
   | cons y r _ =>
    have : ∀ (l : List V) (k : Nat),(∀ (i : Nat) y,l[i]? = some y -> ∃ q,y = V.ref q) -> ∃ qs : List Addr,l = qs.map V.ref := by
     intro l
     induction l with
     | nil => intro _ _; exact ⟨[],rfl⟩
     | cons z l ih =>
      intro k h; obtain ⟨q,e⟩ := h 0 z rfl
      obtain ⟨qs,e2⟩ := ih k fun i y hy => h (i + 1) y hy
      exact ⟨q :: qs,by rw [e,e2]; rfl⟩
    exact this (y :: r) 0 fun i z hz => let ⟨q,e,_⟩ := hR i z hz; ⟨q,e⟩
  obtain ⟨qs,rfl⟩ := hq; refine hd H' qs s hys (by simpa using hl) fun i q hi => ?_
  obtain ⟨q',e,_,h⟩ := hR i (.ref q) (by rw [List.getElem?_map,hi]; rfl); cases e; exact h
end L2

namespace L2
open PySem PySem.Spec PyProof.Rows
structure wZ (K : Fg) (mg : Str -> Option Value) (x : Str) (C : Addr) (st : Stmt) (ps : List Str) : Prop where
 ex : ∃ (f : Addr) (fd : FuncData) (q : Str),qQ K "__init__" q st f fd /\ Mk K C f /\ mg x = some (.ref C) /\ d9 K fd ps []
structure oz (K : Fg) (C : Addr) (m qual : Str) (st : Stmt) (ps : List Str) : Prop where
 ex : ∃ (f : Addr) (fd : FuncData),qQ K m qual st f fd /\ wA K C m f /\ d9 K fd ps []
structure dO (P : Program) (w : World) (K : Fg) (mg : Str -> Option Value) (base : Heap) (k : Nat) (x : Str) (C : Addr) (ps : List Str) (sp : Sp) : Prop where
 ex : ∃ (f : Addr) (fd : FuncData),f7 P w K mg base pB k f fd ps sp /\ Mk K C f /\ mg x = some (.ref C) /\ d9 K fd ps []
structure gv (P : Program) (w : World) (K : Fg) (mg : Str -> Option Value) (base : Heap) (k : Nat) (C : Addr) (m : Str) (ps : List Str) (sp : Sp) : Prop where
 ex : ∃ (f : Addr) (fd : FuncData),f7 P w K mg base pB k f fd ps sp /\ wA K C m f /\ d9 K fd ps []
section
variable {P : Program} {w : World} {K : Fg} {mg : Str -> Option Value} {base : Heap}
theorem wZ.ok {x : Str} {C : Addr} {st : Stmt} {N ps : List Str} {k : Nat} {sp : Sp} (D : wZ K mg x C st ps) (S : aq N ps (aj st)) (len : ∀ vs H Q E,sp vs H Q E -> vs.length = ps.length)
  (hbody : ∀ (qual : Str) (f : Addr) (cdv : Value) (A : Around) (outer : List Env) (s : Shared) (H : Hp) (vs : List V) (Q : VK) (E : XK),bM k (A.deeper (envOfC qual (aj st) s.heap.objs.size f cdv)) -> sp vs H Q E →
   ∃ t,kN (o5 pB P w K mg base N qual (aj st) f cdv A outer s H E).nox (b9 st) t /\ t { nx := fun _ H' => Q .non H',rt := Q } (start N vs) H) : dO P w K mg base (k + 1) x C ps sp := by
 obtain ⟨f,fd,q,F,hm,h2,hb⟩ := D.ex; exact ⟨f,fd,F.ok S len (hbody q f),hm,h2,hb⟩
theorem oz.ok {m qual : Str} {C : Addr} {st : Stmt} {N ps : List Str} {k : Nat} {sp : Sp} (D : oz K C m qual st ps) (S : aq N ps (aj st)) (len : ∀ vs H Q E,sp vs H Q E -> vs.length = ps.length)
  (hbody : ∀ (f : Addr) (cdv : Value) (A : Around) (outer : List Env) (s : Shared) (H : Hp) (vs : List V) (Q : VK) (E : XK),bM k (A.deeper (envOfC qual (aj st) s.heap.objs.size f cdv)) -> sp vs H Q E →
   ∃ t,kN (o5 pB P w K mg base N qual (aj st) f cdv A outer s H E).nox (b9 st) t /\ t { nx := fun _ H' => Q .non H',rt := Q } (start N vs) H) : gv P w K mg base (k + 1) C m ps sp := by
 obtain ⟨f,fd,F,hm,hb⟩ := D.ex; exact ⟨f,fd,F.ok S len (hbody f),hm,hb⟩
end
section
variable {X : Cx} {k : Nat} {ps : List Str} {sp : Sp} {x m : Str} {C : Addr} {p pos apos : Pos} {e o : Expr} {es : List Expr} {ta : TE} {t : TA}
theorem acX (G : dO X.prog X.w X.K X.mg X.base k x C ps sp) (hr : bM (k + 1) X.A) (hg : Gl X x) (ha : PA X (e :: es) t) (hdb : (x == ("__debug__" : Str)) = false := by decide)
  (he : starEach (e :: es) X.env = (false,eval e X.env) :: starEach es X.env := by rfl) (hpl : (backTo pos (starEach es X.env)).any (·.1) = false := by rfl) :
  PE X (.Call (.Name x p) (e :: es) [] pos) (zB C sp [] E0 t) := by
 obtain ⟨f,fd,F,hM,hm,hb⟩ := G.ex; exact ace hM F hr hg hm hb .nil tM ha hdb he hpl
theorem sF {pl : Sem Bool} (c : kM X.K C) (G : gv X.prog X.w X.K X.mg X.base k C m ps sp) (hr : bM k X.A) (he : PE X o ta) (ha : PA X (e :: es) t)
  (hst : starEach (e :: es) X.env = (false,eval e X.env) :: starEach es X.env := by rfl) (hpl : (backTo pos (starEach es X.env)).any (·.1) = false := by rfl)
  (ht : eval (.Call (.Attribute o m apos) (e :: es) [] pos) X.env = (do
   let ov ← eval o X.env
   standAt apos.atName
   let (f,first) ← holding [ov] (getMethod ov m pl)
   callWith pos f first (backTo pos (starEach (e :: es) X.env)) (backToKw pos (keywordEach [] X.env))) := by rfl) :
  PE X (.Call (.Attribute o m apos) (e :: es) [] pos) (we C m sp [] E0 ta t) := by
 obtain ⟨f,fd,F,hm,hb⟩ := G.ex; exact abQ (pl := pl) he c hm F hr hb .nil tM ha hst hpl ht
theorem fK {pl : Sem Bool} (c : kM X.K C) (G : gv X.prog X.w X.K X.mg X.base k C m ps sp) (hr : bM k X.A) (he : PE X o ta)
  (ht : eval (.Call (.Attribute o m apos) [] [] pos) X.env = (do
   let ov ← eval o X.env
   standAt apos.atName
   let (f,first) ← holding [ov] (getMethod ov m pl)
   callWith pos f first (backTo pos (starEach [] X.env)) (backToKw pos (keywordEach [] X.env))) := by rfl) :
  PE X (.Call (.Attribute o m apos) [] [] pos) (we C m sp [] E0 ta uW) := by
 obtain ⟨f,fd,F,hm,hb⟩ := G.ex; exact abn (pl := pl) he c hm F hr hb .nil tM ht
end
def aM (l : Addr) (H H' : Hp) : Prop := ∀ b o,H b = some o -> b ≠ l -> H' b = some o
theorem ak.keep {l : Addr} {H H' : Hp} (s : ak H H') : aM l H H' := fun b o e _ => s b o e
theorem aM.trans {l : Addr} {H H1 H2 : Hp} (a : aM l H H1) (b : aM l H1 H2) : aM l H H2 := fun c o e n => b c o (a c o e n) n
theorem aM.upd {l : Addr} {H : Hp} {o : HO} : aM l H (upd H l o) := fun b u e n => by rw [aK n]; exact e
def af (a b : Addr) : List (Str × V) := cT "cells" (.ref b) (cT "lengths" (.ref a) [])
theorem aU (a b : Addr) : (af a b).lookup ("lengths" : Str) = some (.ref a) := by
 unfold af; rw [gL,if_neg (by decide +kernel),gL,if_pos rfl]
theorem cr (a b : Addr) : (af a b).lookup ("cells" : Str) = some (.ref b) := by
 unfold af; rw [gL,if_pos rfl]
def b0 (C : Addr) (H : Hp) (x : Addr) (A : Ad.Arr) : Prop := ∃ dx a b,H x = some (.ins C dx (af a b)) /\ H a = some (.lst (vn A.shape)) /\ H b = some (.lst (vi A.cells))
theorem b0.keep {C : Addr} {H H' : Hp} {x : Addr} {A : Ad.Arr} (h : b0 C H x A) (s : ak H H') : b0 C H' x A := by
 obtain ⟨dx,a,b,h1,h2,h3⟩ := h; exact ⟨dx,a,b,s _ _ h1,s _ _ h2,s _ _ h3⟩
theorem aG {A : Ad.Arr} (h : A.ok = true) : Ad.shapeOk A.shape = true /\ A.cells.length = Ad.product_ A.shape /\ ∀ z ∈ A.cells,Ad.cellFine z = true := by
 unfold Ad.Arr.ok at h; simp only [Bool.and_eq_true,beq_iff_eq,List.all_eq_true] at h; exact ⟨h.1,h.2.1,h.2.2⟩
theorem iC {A : Ad.Arr} (h1 : Ad.shapeOk A.shape = true) (h2 : A.cells.length = Ad.product_ A.shape) (h3 : ∀ z ∈ A.cells,Ad.cellFine z = true) : A.ok = true := by
 unfold Ad.Arr.ok; simp only [Bool.and_eq_true,beq_iff_eq,List.all_eq_true]; exact ⟨h1,h2,h3⟩
theorem cb {s : List Nat} (h : Ad.shapeOk s = true) : ∀ n ∈ s,n < 2 ^ 63 := fun n hn =>
 Nat.lt_of_le_of_lt (Nat.le_trans (Ma.b_ (Ma.aF h).2.1 n hn) (Ma.aF h).2.2) (by decide)
theorem wp {A : Ad.Arr} {p : List Nat} (h : A.ok = true) (hp : Ma.In A.shape p) : A.cells[Ad.cellOf A.shape p]? = some (A.at_ p) := by
 have hl := (aG h).2.1; have h1 := hp.lt; unfold Ad.Arr.at_ Ad.Arr.cell; rw [List.getD_eq_getElem?_getD]; rw [List.getElem?_eq_getElem (by omega)]; rfl
def jM (C : Addr) (H : Hp) : Option Ad.Arr -> V -> Prop
 | none,v => v = .non
 | some A,v => ∃ x,v = .ref x /\ b0 C H x A /\ A.ok = true
structure aB (C : Addr) (H : Hp) (l : Addr) (t : Ay.State) : Prop where
 ex : ∃ vs : List V,H l = some (.lst vs) /\ vs.length = 8 /\ t.length = 8 /\ ∀ (i : Nat) v o,vs[i]? = some v -> t[i]? = some o -> jM C H o v
theorem jM.keep {C : Addr} {H H' : Hp} {o : Option Ad.Arr} {v : V} (h : jM C H o v) (s : ak H H') : jM C H' o v := by
 cases o with
 | none => exact h
 | some A =>
  obtain ⟨x,e,h1,h2⟩ := h; exact ⟨x,e,h1.keep s,h2⟩
theorem aB.keep {C : Addr} {H H' : Hp} {l : Addr} {t : Ay.State} (h : aB C H l t) (s : ak H H') : aB C H' l t := by
 obtain ⟨vs,h1,h2,h3,h4⟩ := h.ex; exact ⟨vs,s _ _ h1,h2,h3,fun i v o e1 e2 => (h4 i v o e1 e2).keep s⟩
theorem adj {vs : List V} {zs : List Int} (h : vs.length = 8) (h0 : ∀ v,vs[0]? = some v -> ∀ z,v ≠ .int z) : HO.lst vs ≠ HO.lst (vi zs) := fun e => by
 have e : vs = vi zs := HO.lst.inj e; obtain ⟨v,h1⟩ : ∃ v,vs[0]? = some v := ⟨_,List.getElem?_eq_getElem (by omega)⟩; have h2 := h1; rw [e] at h2; obtain ⟨z,_,hz⟩ := dN h2; exact h0 _ h1 z hz
theorem jM.noInt {C : Addr} {H : Hp} {o : Option Ad.Arr} {v : V} (h : jM C H o v) : ∀ z,v ≠ .int z := by
 cases o with
 | none => intro z e; rw [show v = .non from h] at e; cases e
 | some A =>
  obtain ⟨x,e,_⟩ := h; intro z e'; rw [e] at e'; cases e'
theorem aB.apart {C : Addr} {H : Hp} {l b : Addr} {t : Ay.State} {zs : List Int} (h : aB C H l t) (hb : H b = some (.lst (vi zs))) : b ≠ l := by
 obtain ⟨vs,h1,h2,h3,h4⟩ := h.ex; refine fun e => mt h1 hb (adj h2 fun v hv => ?_) e.symm
 have ht : t[0]? = some t[0] := List.getElem?_eq_getElem (by omega); exact (h4 0 v _ hv ht).noInt
theorem b0.keepL {C : Addr} {H H' : Hp} {l x : Addr} {t : Ay.State} {A : Ad.Arr} (S : aB C H l t) (h : b0 C H x A) (k : aM l H H') : b0 C H' x A := by
 obtain ⟨dx,a,b,h1,h2,h3⟩ := h; obtain ⟨vs,g1,_⟩ := S.ex; exact ⟨dx,a,b,k _ _ h1 (fun e => mt h1 g1 (by intro z; cases z) e),k _ _ h2 (S.apart h2),k _ _ h3 (S.apart h3)⟩
theorem aB.set {C : Addr} {H : Hp} {l : Addr} {t : Ay.State} (S : aB C H l t) {vs : List V} (hv : H l = some (.lst vs)) (k : Nat) {v : V} {o : Option Ad.Arr} (hs : jM C H o v) : aB C (upd H l (.lst (vs.set k v))) l (t.set k o) := by
 obtain ⟨ws,h1,h2,h3,h4⟩ := S.ex; rw [hv] at h1; cases h1; have kp : aM l H (upd H l (.lst (vs.set k v))) := aM.upd
 have ks : ∀ {o : Option Ad.Arr} {v' : V},jM C H o v' -> jM C (upd H l (.lst (vs.set k v))) o v' := fun {o v'} h => by
  cases o with
  | none => exact h
  | some A =>
   obtain ⟨x,e,q1,q2⟩ := h; exact ⟨x,e,q1.keepL S kp,q2⟩
 refine ⟨_,am,by rw [List.length_set]; exact h2,by rw [List.length_set]; exact h3,fun i v' o' e1 e2 => ?_⟩
 by_cases hi : i = k
 ·subst hi
  by_cases hl : i < 8
  ·rw [List.getElem?_set_self (by omega)] at e1 e2; cases e1; cases e2; exact ks hs
  ·rw [List.getElem?_eq_none (by rw [List.length_set]; omega)] at e1; cases e1
 ·rw [List.getElem?_set_ne (Ne.symm hi)] at e1 e2; exact ks (h4 i v' o' e1 e2)
def aQ (C : Addr) (H : Hp) (l : Addr) (r : Ay.State × Ay.Answer) (Q : VK) : Prop :=
 ∀ (H' : Hp) (p : Addr),aM l H H' -> aB C H' l r.1 -> H p = none -> H' p = some (.lst (vi (AyNeutral.told r.2))) -> Q (.ref p) H'
theorem aQ.no {C : Addr} {H H' : Hp} {l : Addr} {t : Ay.State} {n : Nat} {z : Int} {Q : VK} (S : aB C H l t) (sm : ak H H') (k : aQ C H l (t,Ay.no n) Q) (hz : z = -(n : Int)) : ∀ p,H' p = none -> Q (.ref p) (upd H' p (.lst [.int z])) := fun p hp => by
 have s2 : ak H (L2.upd H' p (.lst [.int z])) := sm.upd (sm.free hp); refine k _ p s2.keep (S.keep s2) (sm.free hp) ?_; rw [am,hz]; rfl
theorem aQ.same {C : Addr} {H H' : Hp} {l : Addr} {r : Ay.State × Ay.Answer} {Q : VK} (k : aQ C H l r Q) (sm : ak H H') : aQ C H' l r Q := fun H2 p k2 S2 hp h2 => k H2 p (sm.keep.trans k2) S2 (sm.free hp) h2
theorem ji {t : Ay.State} {k : Nat} {x : Ay.State × Ay.Answer} (h : 8 <= k) : Ay.into t k x = (t,Ay.no 1) := if_pos h
theorem eS {t : Ay.State} {k : Nat} {x : Ay.State × Ay.Answer} (h : k < 8) : Ay.into t k x = x := if_neg (by show ¬ 8 <= k; omega)
theorem abg {t : Ay.State} {i : Nat} {f : Ad.Arr -> Ay.State × Ay.Answer} (h : 8 <= i) : Ay.ofSlot t i f = (t,Ay.no 1) := if_pos h
theorem aaN {t : Ay.State} {i : Nat} {f : Ad.Arr -> Ay.State × Ay.Answer} (h : i < 8) (e : t.getD i none = none) : Ay.ofSlot t i f = (t,Ay.no 2) := by
 unfold Ay.ofSlot; rw [if_neg (by show ¬ 8 <= i; omega),e]
theorem aaU {t : Ay.State} {i : Nat} {f : Ad.Arr -> Ay.State × Ay.Answer} {A : Ad.Arr} (h : i < 8) (e : t.getD i none = some A) : Ay.ofSlot t i f = f A := by
 unfold Ay.ofSlot; rw [if_neg (by show ¬ 8 <= i; omega),e]
theorem ba : 1 <= sizeLine := by decide
theorem lj : 2 <= sizeLine := by decide
theorem bx {c A B : Prop} [Decidable c] (hc : ¬ c) (h : A) : if (!decide c) = true then A else B := by
 rw [decide_eq_false hc]; exact h
theorem a5 {a b : Int} (h : ¬ a = b) : ¬ V.int a = V.int b := fun e => h (V.int.inj e)
end L2

namespace L2
open PySem PySem.Spec PyProof.Rows
theorem iZ {K : Fg} {H : Hp} : ∀ zs : List Int,oE K H (vi zs) (zs.map PyData.int)
 | [] => .nil
 | z :: r => .cons (.int z) (iZ r)
theorem r_ : ∀ zs : List Int,PyData.canLayAll0 (zs.map PyData.int) = true
 | [] => by simp [PyData.canLayAll0]
 | z :: r => by simp [PyData.canLayAll0,PyData.canLay0,r_ r]
theorem tu : ∀ zs : List Int,PyData.depthAll (zs.map PyData.int) = 0
 | [] => by simp [PyData.depthAll]
 | z :: r => by simp [PyData.depthAll,PyData.depth,tu r]
theorem jC (zs : List Int) : SeqAt.shaped (.list (zs.map PyData.int)) = true := by
 simp [SeqAt.shaped,PyData.canLay0,PyData.depth,r_,tu]
theorem sq : ∀ xs ys : List Int,PyData.eqvAll (xs.map PyData.int) (ys.map PyData.int) = decide (xs = ys)
 | [],[] => by simp [PyData.eqvAll]
 | [],_ :: _ => by simp [PyData.eqvAll]
 | _ :: _,[] => by simp [PyData.eqvAll]
 | x :: xs,y :: ys => by
  simp only [List.map_cons,PyData.eqvAll,PyData.eqv,sq xs ys,List.cons.injEq]
  by_cases h1 : x = y <;> by_cases h2 : xs = ys <;> simp [h1,h2]
theorem xB (xs ys : List Int) : PyData.eqv (.list (xs.map PyData.int)) (.list (ys.map PyData.int)) = decide (xs = ys) := by
 rw [PyData.eqv,sq]
def aef (K : Fg) : R2 := fun x y H Q => ∃ a b xs ys,x = .ref a /\ y = .ref b /\ ag K H a (vi xs) /\ ag K H b (vi ys) /\ Q (.bl (decide (xs = ys))) H
def adS (K : Fg) : R2 := fun x y H Q => ∃ a b xs ys,x = .ref a /\ y = .ref b /\ ag K H a (vi xs) /\ ag K H b (vi ys) /\ Q (.bl (!decide (xs = ys))) H
section
variable {X : Cx}
theorem wf (hu : X.A.units + 64 < cLine) : d8 X (compareOp .Eq) (aef X.K) := by
 intro pins s σ H x y v u Q I rx ry h; obtain ⟨a,b,xs,ys,e1,e2,ha,hb,q⟩ := h; subst e1 e2; exact acx hu pins s σ H _ _ v u Q I rx ry ⟨_,_,.lst ha (iZ xs),.lst hb (iZ ys),jC xs,jC ys,by rw [xB]; exact q⟩
theorem t9 (hu : X.A.units + 64 < cLine) : d8 X (compareOp .NotEq) (adS X.K) := by
 intro pins s σ H x y v u Q I rx ry h; obtain ⟨a,b,xs,ys,e1,e2,ha,hb,q⟩ := h; subst e1 e2; exact acC hu pins s σ H _ _ v u Q I rx ry ⟨_,_,.lst ha (iZ xs),.lst hb (iZ ys),jC xs,jC ys,by rw [xB]; exact q⟩
def aa0 (K : Fg) : List V -> Hp -> VK -> Prop := fun vs H Q => ∃ (a : Addr) (ns : List Int),vs = [V.ref a] /\ ag K H a (ns.map V.int) ∧
 ∀ (ys : List Int) (p : Addr),ys.Perm ns -> ys.Pairwise (· <= ·) -> H p = none -> Q (.ref p) (upd H p (.lst (ys.map V.int)))
theorem zh : gr X (.builtin "sorted") (aa0 X.K) := by
 intro pins s σ H vs us Q I r h; obtain ⟨a,ns,rfl,hs,q⟩ := h; obtain ⟨its,rv,hl,hz⟩ := I.list hs; rw [aL.ref1 r]; have hi := rv.ints; rw [List.length_map] at hz; refine PyProof.Rows.sorted_intsAny hl.isList hi (by rw [hi.length]; exact hz) fun out ns' h1 h2 h3 => ?_
 obtain ⟨ep,he'⟩ := PyProof.Rows.sortedAll_at s.heap its out; have hlen : (ns'.map V.int).length <= sizeLine := by rw [List.length_map,h2.length_eq]; exact hz
 exact ⟨.ref _,upd H (s.heap.objs.size + 1) (.lst (ns'.map V.int)),I.laid (t' := s.toks) (fun _ _ => PyProof.Rows.sortedAll_old) (Nat.le_succ _) ⟨hlen,out.toList,ep,qD h1,he'⟩,rfl,q ns' _ h2 h3 (I.hok.fresh (Nat.le_succ _))⟩
theorem xY : gr X (.type "range") (fun xs H Q => ∃ j,xs = [.int j] /\ ∀ p,H p = none -> Q (.ref p) (upd H p (.rng 0 j))) := by
 intro pins s σ H xs us Q I r h; obtain ⟨j,rfl,q⟩ := h; obtain ⟨u,rfl,t,rfl⟩ := r.one; refine call_range_1 ?_; exact ⟨.ref _,_,I.laid (o := .rng 0 j) (fun _ _ e => Heap.get?_push_of_some _ e) (Nat.le_refl _) ⟨_,_,_,Heap.get?_push_size _ rfl⟩,rfl,q _ I.fresh⟩
theorem zo {n : Nat} {acc : Array Value} (h : ItemsOf (fun i v => ∃ t,v = Value.int ((0 : Int) + i * 1) t) acc n) : aL (vn (List.range n)) acc.toList := by
 obtain ⟨hs,hi⟩ := h
 have : ∀ (k : Nat) (l : List Value) (m : Nat),l.length = k -> (∀ (j : Nat) v,l[j]? = some v -> ∃ t,v = Value.int (((m + j : Nat) : Int)) t) -> aL (vn ((List.range k).map (m + ·))) l := by
  intro k
  induction k with
  | zero =>
   intro l m hl _
   cases l with
   | nil => exact .nil
   | cons _ _ => simp at hl
  | succ k ih =>
   intro l m hl h
   cases l with
   | nil => simp at hl
   | cons v l =>
    rw [List.range_succ_eq_map,List.map_cons,List.map_map]; refine .cons (h 0 v rfl) ?_
    have e : (List.range k).map ((m + ·) ∘ Nat.succ) = (List.range k).map ((m + 1) + ·) := by
     apply List.map_congr_left; intro a _; show m + (a + 1) = m + 1 + a; omega
    rw [e]; refine ih l (m + 1) (by simpa using hl) fun j w hw => ?_
    obtain ⟨t,e⟩ := h (j + 1) w hw; exact ⟨t,by rw [e]; congr 2; omega⟩
 have h2 := this n acc.toList 0 (by simpa using hs) fun j v hv => by
  obtain ⟨t,e⟩ := hi j v (by simpa using hv); exact ⟨t,by rw [e]; congr 1; omega⟩
 have e : (List.range n).map (0 + ·) = List.range n := by
  have : ∀ l : List Nat,l.map (0 + ·) = l := by
   intro l
   induction l with
   | nil => rfl
   | cons x l ih => rw [List.map_cons,ih,Nat.zero_add]
  exact this _
 rw [e] at h2; exact h2
theorem v0 (hc : X.calm = true) : gr X (.type "list") (fun xs H Q => ∃ (p : Addr) (n : Nat),xs = [.ref p] /\ H p = some (.rng 0 n) /\ n <= 2 ^ 24 /\ ∀ l,H l = none -> Q (.ref l) (upd H l (.lst (vn (List.range n))))) := by
 intro pins s σ H xs us Q I r h; obtain ⟨p,n,rfl,hp,hn,q⟩ := h; rw [aL.ref1 r]; obtain ⟨t,u,v,hr⟩ := I.hok p _ hp; have hsm : Builtin.Range.small 0 (n : Int) 1 = true := small_one (by omega) (by omega) (by omega) (by omega); refine call_list_range (n := n) (I.ok.hd hc) hr hsm (by rw [rangeSize_nat]; omega) hn fun h' tk acc' c' hk hS' hacc => ?_
 have hv := zo hacc; have hl : (vn (List.range n)).length <= sizeLine := by rw [aI,List.length_range]; exact hn
 exact ⟨.ref _,_,I.laid (o := .lst (vn (List.range n))) (t' := tk) hk (Nat.le_refl _) ⟨hl,acc'.toList,c',hv,by rw [hS']⟩,rfl,q _ I.fresh⟩
end
theorem jT (xs : List V) (k : Nat) : eN xs (some (k : Int)) none = xs.drop k := by
 unfold eN; rw [HT.re,HT.wz]
 by_cases h : k <= xs.length
 ·rw [Nat.min_eq_left h,List.take_of_length_le (by rw [List.length_drop]; omega)]
 ·rw [Nat.min_eq_right (by omega),List.drop_of_length_le (by omega : xs.length <= xs.length),List.drop_of_length_le (by omega),List.take_nil]
theorem vt (xs : List V) (k n : Nat) (h : k + n <= xs.length) : eN xs (some (k : Int)) (some ((k + n : Nat) : Int)) = (xs.drop k).take n := by
 unfold eN; rw [HT.re,HT.re,Nat.min_eq_left (by omega),Nat.min_eq_left (by omega)]; congr 1; omega
theorem yF (xs : List V) (n : Nat) : eN xs none (some (n : Int)) = xs.take n := by
 unfold eN; rw [HT.re,HT.wz,List.drop_zero,Nat.sub_zero]
 by_cases h : n <= xs.length
 ·rw [Nat.min_eq_left h]
 ·rw [Nat.min_eq_right (by omega),List.take_of_length_le (by omega),List.take_of_length_le (by omega)]
theorem uy (l : List Nat) (k : Nat) : (vn l).drop k = vn (l.drop k) := by
 show ((l.map _).map _).drop k = ((l.drop k).map _).map _; rw [List.map_drop,List.map_drop]
theorem uV (l : List Int) (k : Nat) : (vi l).drop k = vi (l.drop k) := (List.map_drop ..).symm
theorem yk (l : List Int) (k : Nat) : (vi l).take k = vi (l.take k) := (List.map_take ..).symm
theorem wg.three (r : Nat) (h : r <= 1000) : wg 2 ((3 * r : Nat) : Int) 3 r := by
 have e : Builtin.Range.rangeSize 2 ((3 * r : Nat) : Int) 3 = r := by
  unfold Builtin.Range.rangeSize; rw [if_pos (by decide)]
  by_cases h0 : r = 0
  ·subst h0; rfl
  ·rw [if_pos (by omega)]; omega
 refine ⟨by decide,by decide,?_,e⟩; unfold Builtin.Range.small; rw [e]; have hj : (0 : Int) <= ((3 * r : Nat) : Int) /\ ((3 * r : Nat) : Int) <= 3000 := by omega
 have hr : (r : Int) <= 1000 := by omega
 generalize ((3 * r : Nat) : Int) = j at hj; have h0 : (0 : Int) <= (r : Int) := by omega
 generalize (r : Int) = k at hr h0; have f2 : Builtin.Range.rangeFitsLong 2 = true := by decide
 have f3 : Builtin.Range.rangeFitsLong 3 = true := by decide
 have fit : ∀ i : Int,0 <= i -> i <= 10000 -> Builtin.Range.rangeFitsLong i = true := fun i h1 h2 => by
  unfold Builtin.Range.rangeFitsLong; rw [decide_eq_true (show -(2 ^ 63) <= i by omega),decide_eq_true (show i < 2 ^ 63 by omega)]; rfl
 rw [f2,f3,fit j hj.1 (by omega),fit k h0 (by omega),if_pos (by decide),fit (j + (3 - 1)) (by omega) (by omega)]
 simp
section
variable {X : Cx} {pos : Pos}
theorem u6 (K : Fg) (hK : X.K = K) {e : Expr} {f : Str} {ta : TE} (he : PE X e ta) (hb : attributeBase e f X.env (eval e X.env) = eval e X.env) : PE X (.Attribute e f pos) (ack K ta f) := by
 subst hK; exact aD he hb
theorem aa3 (K : Fg) (hK : X.K = K) : IxR X (yT K) := by
 subst hK; exact yi
theorem ab7 (K : Fg) (hK : X.K = K) : IxR X (act K) := by
 subst hK; exact tG
theorem lf (K : Fg) (hK : X.K = K) {es : List Expr} {k : Nat} {t : vD} {n : Nat} (hc : X.calm = true) (h : PGs X es t)
  (hn : (assignEach es X.env).length = n := by rfl) (hst : (assignEach es X.env).findIdx? (·.1) = none := by rfl) : PG X (.Tuple es k pos) (zF K n t) := by
 subst hK; exact gF hc h hn hst
theorem vW (K : Fg) (hK : X.K = K) : gr X (.builtin "len") (fun xs H Q => ∃ p ys,xs = [.ref p] /\ (ag K H p ys \/ cx K H p ys) /\ Q (.int ys.length) H) := by
 subst hK; exact qK
end
end L2

namespace L2
open PySem PySem.Spec PyProof.Rows
def rD (es : Array DictEntry) : Bool := es.all fun e => match e.key with
 | .int k _ => e.hash == hashInt k
 | _ => false
theorem wj {P : Program} {w : World} {es : Array DictEntry} (h : rD es = true) : KeysOf (gg P w) es := by
 intro e he; unfold rD at h; have := Array.all_eq_true_iff_forall_mem.mp h e he
 cases hk : e.key with
 | int k t =>
  rw [hk] at this; exact ⟨.inl k,by rw [y6]; exact vC k t,show e.hash = hashInt k by simpa using this⟩
 | _ => rw [hk] at this; cases this
structure v9 (K : Fg) (mg : Str -> Option Value) (sh : Int -> Option (Nat × Nat)) : Prop where
 ex : ∃ (d : Addr) (es : Array DictEntry) (ep : Nat),mg "FORMS" = some (.ref d) /\ K.lookup d = some { cls := .type "dict",data := .dict es ep } /\ rD es = true ∧
  ∀ p n m,sh p = some (n,m) -> ∃ a,findBy iL es (.inl p) = some (.ref a) /\ ∀ H,cx K H a [.int (n : Int),.int (m : Int)]
def acO (K : Fg) (sh : Int -> Option (Nat × Nat)) (ty : TE) : TE := fun σ H Q => ty σ H fun y H1 => ∃ p n m,y = .int p /\ sh p = some (n,m) /\ ∀ a,(∀ H,cx K H a [.int (n : Int),.int (m : Int)]) -> Q (.ref a) H1
theorem aa5 {X : Cx} {sh : Int -> Option (Nat × Nat)} {i : Expr} {ty : TE} {p pos : Pos} (F : v9 X.K X.mg sh) (hg : Gl X "FORMS") (hi : PE X i ty) (hs : aaK i) : PE X (.Subscript (.Name "FORMS" p) i pos) (acO X.K sh ty) := by
 intro pins s σ H Q I h; obtain ⟨d,es,ep,hm,hk,ht,hf⟩ := F.ex; have ho : PE X (.Name "FORMS" p) (tC (.ref d)) := rc hg hm rfl (by decide); refine yp PySem.F.slot_dict_getitem.lookup hs (bo (ho pins s σ H (fun v H1 => v = .ref d /\ H1 = H) I ⟨rfl,rfl⟩) fun u s1 ⟨x,H1,I1,rx,ex,eH⟩ => ?_); subst ex eH; obtain rfl : u = Value.ref d := rx; refine bo (hi pins s1 σ H1 _ I1 h) fun iv s2 ⟨y,H2,I2,ry,q,n,m,ey,hsh,k⟩ => ?_
 subst ey; obtain ⟨a,h1,h2⟩ := hf q n m hsh; have hd := I2.kIn d _ hk; have hM : s2.heap.MapOf (gg X.prog X.w) d (findBy (gg X.prog X.w).is es) := ⟨_,es,ep,hd,⟨rfl,rfl,rfl⟩,rfl,wj ht,fun _ => rfl⟩; refine ⟨⟨_,hd,rfl⟩,?_⟩; obtain ⟨t,rfl⟩ := ry; exact wpAny_getItem_of (k := Sum.inl q) (rZ X.prog X.w q t) hM h1 ⟨.ref a,H2,I2.tok _,rfl,k a h2⟩
end L2

namespace L2
open PySem PySem.Spec PyProof.Rows
section
variable {K : Fg} {h : Heap} {mg : Str -> Option Value} {R : Prop}
theorem adv {x qual : Str} {st : Stmt} {ps : List Str} {f : Addr} {oc : Value} {od an : Option Addr} {osl : Array (Option Value)} {kV doc pm cdv ct : Value} (X : K.In h) (G : h.Ns mainGlobals mg)
  (a : PySem.W.nsIn K mainGlobals x = some (some (.ref f))) (l : K.lookup f = some ⟨oc,od,.func (PySem.W.fnOf x qual (dc st) (b9 st) (aj st) .none kV doc pm an cdv ct),osl⟩)
  (c : PySem.W.codeIn K cdv qual = true) (k : PySem.W.keepIn K (.ref f) = true)
  (hb : ∀ (kV doc pm : Value) (an : Option Addr) (cdv ct : Value) (us : List Value),us.length = ps.length -> bindArgs (PySem.W.fnOf x qual (dc st) (b9 st) (aj st) .none kV doc pm an cdv ct) ⟨us,[]⟩ = pure (ps.zip us))
  (cont : Df K mg x qual st ps -> R) : R :=
 have F := tL (st := st) l c k
 cont ⟨f,_,F,PySem.W.mg_of X G a,F.binds hb⟩
theorem acW {x qual : Str} {st : Stmt} {ps : List Str} {f : Addr} {oc : Value} {od an : Option Addr} {osl : Array (Option Value)} {kV doc pm cdv ct : Value} (X : K.In h) (G : h.Ns mainGlobals mg)
  (a : PySem.W.nsIn K mainGlobals x = some (some (.ref f))) (l : K.lookup f = some ⟨oc,od,.func (PySem.W.fnOf x qual (dc st) (b9 st) (aj st) .none kV doc pm an cdv ct),osl⟩)
  (c : PySem.W.codeIn K cdv qual = true) (k : PySem.W.keepIn K (.ref f) = true)
  (hb : ∀ (kV doc pm : Value) (an : Option Addr) (cdv ct : Value) (us : List Value),us.length = ps.length -> bindArgs (PySem.W.fnOf x qual (dc st) (b9 st) (aj st) .none kV doc pm an cdv ct) ⟨us,[]⟩ = pure (ps.zip us))
  (cont : ∀ f fd,mg x = some (.ref f) -> qQ K x qual st f fd -> (∀ (s : Shared) (us : List Value),us.length = ps.length -> BindsTo s fd ⟨us,[]⟩ (ps.zip us)) -> R) : R :=
 cont f _ (PySem.W.mg_of X G a) (tL (st := st) l c k) fun s us hu => .of_eq (hb _ _ _ _ _ _ us hu)
theorem aah {x : Str} {C : Addr} (X : K.In h) (G : h.Ns mainGlobals mg) (a : PySem.W.nsIn K mainGlobals x = some (some (.ref C)))
  (pg : PySem.W.plainGet K C Str.empty = true) (hd : PySem.W.hasDictIn K C = true) (po : PySem.W.plainOver K C = true) (sa : PySem.W.findIn K (.ref C) "__setattr__" = some (some (.builtin "object.__setattr__")))
  (mk : PySem.W.makesIn K C = true) (kc : PySem.W.keepIn K (.ref C) = true) (cont : mg x = some (.ref C) -> kM K C -> PySem.W.makesIn K C = true -> PySem.W.keepIn K (.ref C) = true -> R) : R :=
 cont (PySem.W.mg_of X G a) ⟨pg,hd,po,sa⟩ mk kc
theorem aaq {x qual : Str} {st : Stmt} {ps : List Str} {C f : Addr} {oc : Value} {od an : Option Addr} {osl : Array (Option Value)} {kV doc pm cdv ct : Value} (hm : mg x = some (.ref C)) (mk : PySem.W.makesIn K C = true) (kc : PySem.W.keepIn K (.ref C) = true)
  (a : PySem.W.findIn K (.ref C) "__init__" = some (some (.ref f))) (i : PySem.W.isFn K (.ref f) = true) (l : K.lookup f = some ⟨oc,od,.func (PySem.W.fnOf "__init__" qual (dc st) (b9 st) (aj st) .none kV doc pm an cdv ct),osl⟩)
  (c : PySem.W.codeIn K cdv qual = true) (k : PySem.W.keepIn K (.ref f) = true)
  (hb : ∀ (kV doc pm : Value) (an : Option Addr) (cdv ct : Value) (us : List Value),us.length = ps.length -> bindArgs (PySem.W.fnOf "__init__" qual (dc st) (b9 st) (aj st) .none kV doc pm an cdv ct) ⟨us,[]⟩ = pure (ps.zip us))
  (cont : wZ K mg x C st ps -> R) : R :=
 have F := tL (st := st) l c k
 cont ⟨f,_,_,F,⟨mk,a,i,kc⟩,hm,F.binds hb⟩
theorem p_ {m qual : Str} {st : Stmt} {ps : List Str} {C f : Addr} {oc : Value} {od an : Option Addr} {osl : Array (Option Value)} {kV doc pm cdv ct : Value} (_ : kM K C)
  (a : PySem.W.findIn K (.ref C) m = some (some (.ref f))) (i : PySem.W.isFn K (.ref f) = true) (l : K.lookup f = some ⟨oc,od,.func (PySem.W.fnOf m qual (dc st) (b9 st) (aj st) .none kV doc pm an cdv ct),osl⟩)
  (c : PySem.W.codeIn K cdv qual = true) (k : PySem.W.keepIn K (.ref f) = true)
  (hb : ∀ (kV doc pm : Value) (an : Option Addr) (cdv ct : Value) (us : List Value),us.length = ps.length -> bindArgs (PySem.W.fnOf m qual (dc st) (b9 st) (aj st) .none kV doc pm an cdv ct) ⟨us,[]⟩ = pure (ps.zip us))
  (cont : oz K C m qual st ps -> R) : R :=
 have F := tL (st := st) l c k
 cont ⟨f,_,F,⟨a,i,k⟩,F.binds hb⟩
theorem bR {x : Str} {i : Int} {t : Tok} (X : K.In h) (G : h.Ns mainGlobals mg) (a : PySem.W.nsIn K mainGlobals x = some (some (.int i t))) (cont : (∃ t,mg x = some (.int i t)) -> R) : R := cont ⟨t,PySem.W.mg_of X G a⟩
theorem eM {x : Str} (X : K.In h) (G : h.Ns mainGlobals mg) (a : PySem.W.nsIn K mainGlobals x = some none) (cont : mg x = none -> R) : R := cont (PySem.W.mg_none_of X G a)
theorem v_ {C : Addr} {x : Str} (_ : kM K C) (a : PySem.W.findIn K (.ref C) x = some none) (cont : fX K C x -> R) : R := cont a
theorem abj {sh : Int -> Option (Nat × Nat)} {d : Addr} {es : Array DictEntry} {ep : Nat} (X : K.In h) (G : h.Ns mainGlobals mg) (a : PySem.W.nsIn K mainGlobals "FORMS" = some (some (.ref d))) (l : K.lookup d = some { cls := .type "dict",data := .dict es ep })
  (t : rD es = true) (hf : ∀ p n m,sh p = some (n,m) -> ∃ a,findBy iL es (.inl p) = some (.ref a) /\ ∀ H,cx K H a [.int (n : Int),.int (m : Int)]) (cont : v9 K mg sh -> R) : R := cont ⟨d,es,ep,PySem.W.mg_of X G a,l,t,hf⟩
theorem bE {es : Array DictEntry} {a : Addr} {p : Int} {n m : Nat} {t u : Tok} {k : Nat} {oc : Option Addr} {sl : Array (Option Value)} (b : findBy iL es (.inl p) = some (.ref a)) (l : K.lookup a = some { cls := .type "tuple",dict := oc,data := .seq #[.int (n : Int) t,.int (m : Int) u] k,slots := sl }) :
  ∃ a,findBy iL es (.inl p) = some (.ref a) /\ ∀ H,cx K H a [.int (n : Int),.int (m : Int)] :=
 ⟨a,b,fun H => .inr ⟨_,_,_,l,rfl,rfl,(show 2 <= sizeLine by decide),.cons ⟨_,rfl⟩ (.cons ⟨_,rfl⟩ .nil)⟩⟩
end
theorem acp {J : It} {g : TG} {tt : TT} {te : TE} {vs : List Nat} {σ : St} {H1 : Hp} {D : Addr} {Qd : Hp -> Prop} {n : Nat} {Y : Nat -> Hp -> V -> Hp -> Prop} (S : pZ J H1 n Y) (f : Nat -> V) (c : Nat -> Bool) (hD : H1 D = none) (hn : n <= sizeLine)
  (turn : ∀ i H x H',i < n -> ak H1 H -> Y i H x H' -> ∀ (Q : VK) (Q' : Hp -> Prop),(c i = true -> ∀ H4,ak H H4 -> Q (f i) H4) -> (c i = false -> ∀ H4,ak H H4 -> Q' H4) →
   g x (bI σ vs) H' fun σ2 H2 => bI σ2 vs = bI σ vs /\ tt σ2 H2 fun b H3 => if b = true then te σ2 H3 Q else Q' H3)
  (hd : ∀ H',ak H1 H' -> H' D = some (.lst (((List.range n).filter c).map f)) -> Qd H') :
  ∃ W : Nat -> Nat -> Hp -> Prop,(∃ m,W 0 m (upd H1 D (.lst []))) /\ ∀ i m H,W i m H →
   (J.stop i H /\ Qd H) \/ (J.go i H /\ ∃ Nx : Hp -> Prop,(∀ H',Nx H' -> ∃ m',m' < m /\ W (i + 1) m' H') /\ ∀ x H',J.yld i H x H' -> g x (bI σ vs) H' fun σ2 H2 => bI σ2 vs = bI σ vs /\ tt σ2 H2 fun b H3 =>
    if b = true then te σ2 H3 fun y H4 => ∃ acc,H4 D = some (.lst acc) /\ acc.length < sizeLine /\ Nx (upd H4 D (.lst (acc ++ [y]))) else Nx H3) := by
 refine ⟨fun i m H => m = n - i /\ i <= n /\ ak H1 H /\ H D = some (.lst (((List.range i).filter c).map f)),⟨n,by simp,Nat.zero_le _,ak.new hD,am⟩,?_⟩; rintro i m H ⟨rfl,hi,sm,hys⟩
 by_cases hlt : i < n
 ·have hlen : (((List.range i).filter c).map f).length < sizeLine := by
   rw [List.length_map]; have := List.length_filter_le c (List.range i); rw [List.length_range] at this; omega
  refine .inr ⟨S.go i H hlt sm,fun H' => ak H1 H' /\ H' D = some (.lst (((List.range (i + 1)).filter c).map f)),fun H' p => ⟨n - (i + 1),by omega,rfl,hlt,p⟩,fun x H' y => ?_⟩; refine turn i H x H' hlt sm (S.yld i H x H' hlt sm y) _ _ (fun hc H4 s4 => ?_) (fun hc H4 s4 => ?_)
  ·refine ⟨_,s4 _ _ hys,hlen,(sm.trans s4).upd hD,?_⟩; rw [am,List.range_succ,List.filter_append,List.filter_cons,if_pos hc,List.filter_nil,List.map_append]; rfl
  ·refine ⟨sm.trans s4,?_⟩; rw [s4 _ _ hys,List.range_succ,List.filter_append,List.filter_cons,if_neg (by rw [hc]; simp),List.filter_nil,List.append_nil]
 ·have e : i = n := by omega
  subst e; exact .inl ⟨S.stop H sm,hd H sm hys⟩
theorem wm {X : Cx} : d8 X (binaryOp .FloorDiv) (rI (fun _ j => j ≠ 0 /\ j.natAbs < 2 ^ 64) fun i j => .int (i.fdiv j)) := opI fun _ j _ _ _ _ _ hc q => floordiv_int hc.1 q (.inl (PyProof.noPylong_of_log2 (by
 have h : j.natAbs.log2 < 64 := (Nat.log2_lt (by omega)).mpr hc.2
 omega)))
end L2

namespace L2
open PySem PySem.Spec PyProof.Rows
def GT (K : Fg) (mg : Str -> Option Value) (x : Str) (vs : List V) : Prop := ∃ a,mg x = some (.ref a) /\ ∀ H,cx K H a vs
def tGT (K : Fg) (vs : List V) : TE := fun _ H Q => ∀ a,(∀ H',cx K H' a vs) -> Q (.ref a) H
theorem abE {X : Cx} {x : Str} {vs : List V} {pos : Pos} (h : GT X.K X.mg x vs) (hg : Gl X x) (hd : (x == ("__debug__" : Str)) = false := by decide) : PE X (.Name x pos) (tGT X.K vs) := by
 obtain ⟨a,hm,ha⟩ := h; intro pins s σ H Q I q; exact rc hg hm (v := .ref a) rfl hd pins s σ H Q I (q a ha)
theorem adu {K : Fg} {h : Heap} {mg : Str -> Option Value} {R : Prop} {x : Str} {a : Addr} {its : Array Value} {k : Nat} {oc : Option Addr} {sl : Array (Option Value)} (vs : List V) (X : K.In h) (G : h.Ns mainGlobals mg)
  (b : PySem.W.nsIn K mainGlobals x = some (some (.ref a))) (l : K.lookup a = some { cls := .type "tuple",dict := oc,data := .seq its k,slots := sl }) (hz : its.size <= sizeLine) (hv : aL vs its.toList) (cont : GT K mg x vs -> R) : R :=
 cont ⟨a,PySem.W.mg_of X G b,fun H => .inr ⟨_,_,_,l,rfl,rfl,hz,hv⟩⟩
def Tab (K : Fg) (mg : Str -> Option Value) (x : Str) (f : Int -> Option Int) : Prop := ∃ (d : Addr) (es : Array DictEntry) (ep : Nat),mg x = some (.ref d) /\ K.lookup d = some { cls := .type "dict",data := .dict es ep } /\ rD es = true ∧
  ∀ p n,f p = some n -> ∃ t,findBy iL es (.inl p) = some (.int n t)
def adR (f : Int -> Option Int) (ty : TE) : TE := fun σ H Q => ty σ H fun y H1 => ∃ p n,y = .int p /\ f p = some n /\ Q (.int n) H1
theorem acq {X : Cx} {x : Str} {f : Int -> Option Int} {i : Expr} {ty : TE} {p pos : Pos} (F : Tab X.K X.mg x f) (hg : Gl X x) (hi : PE X i ty) (hs : aaK i) (hd : (x == ("__debug__" : Str)) = false := by decide) : PE X (.Subscript (.Name x p) i pos) (adR f ty) := by
 intro pins s σ H Q I h; obtain ⟨d,es,ep,hm,hk,ht,hf⟩ := F; have ho : PE X (.Name x p) (tC (.ref d)) := rc hg hm rfl hd; refine yp PySem.F.slot_dict_getitem.lookup hs (bo (ho pins s σ H (fun v H1 => v = .ref d /\ H1 = H) I ⟨rfl,rfl⟩) fun u s1 ⟨y,H1,I1,rx,ex,eH⟩ => ?_); subst ex eH; obtain rfl : u = Value.ref d := rx; refine bo (hi pins s1 σ H1 _ I1 h) fun iv s2 ⟨y,H2,I2,ry,q,n,ey,hsh,k⟩ => ?_
 subst ey; obtain ⟨tn,h1⟩ := hf q n hsh; have hdd := I2.kIn d _ hk; have hM : s2.heap.MapOf (gg X.prog X.w) d (findBy (gg X.prog X.w).is es) := ⟨_,es,ep,hdd,⟨rfl,rfl,rfl⟩,rfl,wj ht,fun _ => rfl⟩; refine ⟨⟨_,hdd,rfl⟩,?_⟩; obtain ⟨t,rfl⟩ := ry; exact wpAny_getItem_of (k := Sum.inl q) (rZ X.prog X.w q t) hM h1 ⟨.int n,H2,I2.tok _,⟨tn,rfl⟩,k⟩
theorem acN {K : Fg} {h : Heap} {mg : Str -> Option Value} {R : Prop} {x : Str} {f : Int -> Option Int} {d : Addr} {es : Array DictEntry} {ep : Nat} (X : K.In h) (G : h.Ns mainGlobals mg) (a : PySem.W.nsIn K mainGlobals x = some (some (.ref d))) (l : K.lookup d = some { cls := .type "dict",data := .dict es ep })
  (t : rD es = true) (hf : ∀ p n,f p = some n -> ∃ t,findBy iL es (.inl p) = some (.int n t)) (cont : Tab K mg x f -> R) : R := cont ⟨d,es,ep,PySem.W.mg_of X G a,l,t,hf⟩
abbrev ov : Option Int -> V
 | none => .non
 | some z => .int z
abbrev vo (l : List (Option Int)) : List V := l.map ov
theorem yC (l : List Int) : vo (l.map some) = vi l := by
 show List.map _ (List.map _ _) = _; rw [List.map_map]; rfl
theorem ab5 (l : List (Option Int)) : (vo l).all ld = true := by
 rw [List.all_eq_true]; intro v hv; obtain ⟨o,_,rfl⟩ := List.mem_map.mp hv; cases o <;> rfl
theorem adf (l : List (Option Int)) : yw .non (vo l) = decide (none ∈ l) := by
 induction l with
 | nil => simp [yw]
 | cons o l ih =>
  unfold yw at ih ⊢; show (pI (ov o) .non || (vo l).any fun y => pI y V.non) = _; rw [ih]
  cases o with
  | none => simp [pI]
  | some z => simp [pI]
theorem wR {l : List (Option Int)} {i : Nat} {o : Option Int} (h : l[i]? = some o) : (vo l)[i]? = some (ov o) := by rw [List.getElem?_map,h]; rfl
def dM (H : Hp) (p : Addr) : Int × Int := match H p with
 | some (.tup [.int a,.int b]) => (a,b)
 | _ => (0,0)
def lt2 (a b : Int × Int) : Prop := a.1 < b.1 \/ (a.1 = b.1 /\ a.2 < b.2)
def aaX : List V -> Hp -> VK -> Prop := fun vs H Q => ∃ (a : Addr) (ps : List Addr),vs = [V.ref a] /\ H a = some (.lst (ps.map V.ref)) /\ (∀ p ∈ ps,H p = some (.tup [.int (dM H p).1,.int (dM H p).2])) ∧
 ∀ (qs : List Addr) (p : Addr),qs.Perm ps -> qs.Pairwise (fun u v => ¬ lt2 (dM H v) (dM H u)) -> H p = none -> Q (.ref p) (upd H p (.lst (qs.map V.ref)))
theorem abI : ∀ {ps : List Addr} {us : List Value},aL (ps.map V.ref) us -> us = ps.map Value.ref
 | [],us,h => by cases h; rfl
 | p :: ps,us,h => by
  cases h with
  | cons r t =>
   rw [abI t]; rw [show _ = Value.ref p from r]; rfl
theorem abA : ∀ (ps : List Addr),aL (ps.map V.ref) (ps.map Value.ref)
 | [] => .nil
 | p :: ps => .cons rfl (abA ps)
theorem ad6 {a b c d : Int} (h : lexLt itemOrd [Sum.inl a,Sum.inl b] [Sum.inl c,Sum.inl d] = false) : ¬ lt2 (a,b) (c,d) := by
 intro z; have h1 : lexLt itemOrd [Sum.inl a,Sum.inl b] [Sum.inl c,Sum.inl d] = (decide (a < c) || (!decide (c < a) && (decide (b < d) || (!decide (d < b) && false)))) := rfl; rw [h1] at h
 rcases z with z | ⟨z1,z2⟩
 ·rw [decide_eq_true (show a < c from z)] at h; cases h
 ·have z1 : a = c := z1; have z2 : b < d := z2; rw [decide_eq_true z2,decide_eq_false (show ¬ c < a by omega)] at h; simp at h
theorem zC {X : Cx} : gr X (.builtin "sorted") aaX := by
 intro pins s σ H vs us Q I r h; obtain ⟨a,ps,rfl,hs,hk,q⟩ := h; obtain ⟨its,rv,hl,hz⟩ := I.list (ag.of hs); rw [aL.ref1 r]; have hi := abI rv; subst hi; rw [List.length_map] at hz
 have tup : ∀ p ∈ ps,∃ o xs n,s.heap.get? p = some o /\ o.cls = .type "tuple" /\ o.data = .seq xs n /\ ∃ t u,xs = #[.int (dM H p).1 t,.int (dM H p).2 u] := fun p hp => by
  obtain ⟨its2,r2,⟨o,ho,hc,n,hd⟩,_⟩ := I.tuple (cx.of (K := X.K) (hk p hp)); obtain ⟨t,u,e⟩ := aL.int2 r2; subst e; exact ⟨o,_,n,ho,hc,hd,t,u,rfl⟩
 have key : ∀ p ∈ ps,PyProof.Rows.G.tupKeyC s.heap (fun _ => false) (.ref p) = some [Sum.inl (dM H p).1,Sum.inl (dM H p).2] := fun p hp => by
  obtain ⟨o,xs,n,ho,hc,hd,t,u,rfl⟩ := tup p hp; unfold PyProof.Rows.G.tupKeyC; have e1 : PyProof.Rows.G.isTupObj s.heap (.ref p) = true := by simp [PyProof.Rows.G.isTupObj,ho,hc]
  rw [if_pos e1]; simp only [tupKey,ho,hd]; rfl
 have tups : ∀ l : List Addr,(∀ p ∈ l,p ∈ ps) -> ∃ fs,TupsOf s.heap (fun _ => false) (l.map Value.ref) fs := by
  intro l
  induction l with
  | nil => exact fun _ => ⟨[],.nil⟩
  | cons p l ih =>
   intro hm
   obtain ⟨fs,h2⟩ := ih fun x hx => hm x (List.mem_cons_of_mem _ hx)
   obtain ⟨o,xs,n,ho,hc,hd,t,u,e⟩ := tup p (hm p (List.mem_cons_self ..)); subst e; exact ⟨_,.cons ⟨p,o,_,n,rfl,ho,hc,hd,rfl,fun _ => ⟨_,_,rfl⟩,fun e => by cases e⟩ h2⟩
 obtain ⟨fs,htup⟩ := tups ps fun _ h => h
 refine PyProof.Rows.G.sorted_tups (shape := fun _ => false) (vs := ps.map Value.ref) hl.isList htup (fun v hv => ?_) (by rw [List.length_map]; exact hz) fun st' hp hso _ => ?_
 ·obtain ⟨p,hp,rfl⟩ := List.mem_map.mp hv; exact ⟨_,key p hp⟩
 ·have hpl : (arrOf st').toList.Perm ((ps.map Value.ref).zip (ps.map Value.ref)) := by
   have e := Array.perm_iff_toList_perm.mp hp; rw [pairsOf_toList] at e; exact e
  have hzip : (ps.map Value.ref).zip (ps.map Value.ref) = ps.map fun p => ((Value.ref p,Value.ref p) : Keyed) := by
   rw [List.zip_map',]
  rw [hzip] at hpl
  have hex : ∀ (l : List Keyed),(∀ k ∈ l,∃ p ∈ ps,k = ((Value.ref p,Value.ref p) : Keyed)) -> ∃ qs : List Addr,l = qs.map fun p => ((Value.ref p,Value.ref p) : Keyed) := by
   intro l
   induction l with
   | nil => exact fun _ => ⟨[],rfl⟩
   | cons k l ih =>
    intro hm
    obtain ⟨qs,e⟩ := ih fun x hx => hm x (List.mem_cons_of_mem _ hx)
    obtain ⟨p,_,ek⟩ := hm k (List.mem_cons_self ..); exact ⟨p :: qs,by rw [e,ek]; rfl⟩
  obtain ⟨qs,hqs⟩ := hex (arrOf st').toList fun k hk2 => by
   obtain ⟨p,h1,h2⟩ := List.mem_map.mp (hpl.mem_iff.mp hk2); exact ⟨p,h1,h2.symm⟩
  have hqp : qs.Perm ps := by
   rw [hqs] at hpl; have := hpl.map (fun k : Keyed => match k.1 with | .ref a => a | _ => 0); rw [List.map_map,List.map_map] at this
   have e1 : ∀ l : List Addr,l.map ((fun k : Keyed => match k.1 with | .ref a => a | _ => 0) ∘ fun p => ((Value.ref p,Value.ref p) : Keyed)) = l := by
    intro l
    induction l with
    | nil => rfl
    | cons x l ih => rw [List.map_cons,ih]; rfl
   rw [e1,e1] at this; exact this
  have hlen : qs.length = ps.length := hqp.length_eq; have hsz : (pairsOf (ps.map Value.ref)).size = ps.length := by rw [pairsOf_size,List.length_map]
  have hat : ∀ i p,qs[i]? = some p -> KK (PyProof.Rows.G.tupKindC s.heap fun _ => false) (arrOf st') i = [Sum.inl (dM H p).1,Sum.inl (dM H p).2] := fun i p hi => by
   unfold KK
   have e : (arrOf st')[i]? = some ((Value.ref p,Value.ref p) : Keyed) := by
    rw [← Array.getElem?_toList,hqs,List.getElem?_map,hi]; rfl
   rw [e]; show (PyProof.Rows.G.tupKeyC s.heap (fun _ => false) (.ref p)).getD [] = _; rw [key p (hqp.mem_iff.mp (List.mem_of_getElem? hi))]; rfl
  have hpw : qs.Pairwise (fun u v => ¬ lt2 (dM H v) (dM H u)) := by
   rw [List.pairwise_iff_getElem]; intro i j hi hj hij; have := hso i j (by omega) (by rw [hsz]; omega); rw [hat i _ (List.getElem?_eq_getElem hi),hat j _ (List.getElem?_eq_getElem hj)] at this; exact ad6 this
  have hout : (arrOf st').map (·.2) = (qs.map Value.ref).toArray := by
   apply Array.ext'; rw [Array.toList_map,hqs,List.map_map]; rfl
  rw [hout]; obtain ⟨ep,he'⟩ := PyProof.Rows.sortedAll_at s.heap (ps.map Value.ref) (qs.map Value.ref).toArray; have hlen2 : (qs.map V.ref).length <= sizeLine := by rw [List.length_map,hlen]; exact hz
  exact ⟨.ref _,upd H (s.heap.objs.size + 1) (.lst (qs.map V.ref)),I.laid (t' := s.toks) (fun _ _ => PyProof.Rows.sortedAll_old) (Nat.le_succ _) ⟨hlen2,qs.map Value.ref,ep,abA qs,he'⟩,rfl,q qs _ hqp hpw (I.hok.fresh (Nat.le_succ _))⟩
theorem acT {J : It} {g : TG} {te : TE} {vs : List Nat} {σ : St} {H1 : Hp} {D : Addr} {Qd : Hp -> Prop} {n : Nat} {Y : Nat -> Hp -> V -> Hp -> Prop} (S : pZ J H1 n Y) (f : Nat -> List V) (hD : H1 D = none) (hn : n <= sizeLine)
  (turn : ∀ i H x H',i < n -> ak H1 H -> Y i H x H' -> ∀ Q : VK,(∀ q H4,ak H H4 -> H q = none -> H4 q = some (.tup (f i)) -> Q (.ref q) H4) -> g x (bI σ vs) H' fun σ2 H2 => bI σ2 vs = bI σ vs /\ te σ2 H2 Q)
  (mg : ∀ x σ H (Q Q' : St -> Hp -> Prop),(∀ σ2 H2,Q σ2 H2 -> Q' σ2 H2) -> g x σ H Q -> g x σ H Q')
  (hd : ∀ H' (qs : List Addr),ak H1 H' -> H' D = some (.lst (qs.map V.ref)) -> qs.length = n -> (∀ (i : Nat) q,qs[i]? = some q -> H' q = some (.tup (f i))) -> Qd H') :
  ∃ W : Nat -> Nat -> Hp -> Prop,(∃ m,W 0 m (upd H1 D (.lst []))) /\ ∀ i m H,W i m H →
   (J.stop i H /\ Qd H) \/ (J.go i H /\ ∃ Nx : Hp -> Prop,(∀ H',Nx H' -> ∃ m',m' < m /\ W (i + 1) m' H') /\ ∀ x H',J.yld i H x H' -> g x (bI σ vs) H' fun σ2 H2 => bI σ2 vs = bI σ vs /\ xz σ2 H2 fun b H3 =>
    if b = true then te σ2 H3 fun y H4 => ∃ acc,H4 D = some (.lst acc) /\ acc.length < sizeLine /\ Nx (upd H4 D (.lst (acc ++ [y]))) else Nx H3) :=
 xx S (fun i y H => ∃ q,y = .ref q /\ q ≠ D /\ H q = some (.tup (f i))) hD hn (fun i y H H' _ ⟨q,e,ne,h⟩ k => ⟨q,e,ne,k _ _ h ne⟩)
  (fun i H x H' hi s ⟨acc,ha⟩ y Q q => turn i H x H' hi s y Q fun a H4 s4 n4 h4 => q _ _ s4 ⟨a,rfl,fun e => by (rw [e,ha] at n4; cases n4),h4⟩) mg fun H' ys s hys hl hR => by
  have hq : ∃ qs : List Addr,ys = qs.map V.ref := by
   clear hl hys
   have : ∀ (l : List V),(∀ (i : Nat) y,l[i]? = some y -> ∃ q,y = V.ref q) -> ∃ qs : List Addr,l = qs.map V.ref := by
    intro l
    induction l with
    | nil => intro _; exact ⟨[],rfl⟩
    | cons z l ih =>
     intro h; obtain ⟨q,e⟩ := h 0 z rfl
     obtain ⟨qs,e2⟩ := ih fun i y hy => h (i + 1) y hy
     exact ⟨q :: qs,by rw [e,e2]; rfl⟩
   exact this ys fun i z hz => let ⟨q,e,_⟩ := hR i z hz; ⟨q,e⟩
  obtain ⟨qs,rfl⟩ := hq; refine hd H' qs s hys (by simpa using hl) fun i q hi => ?_
  obtain ⟨q',e,_,h⟩ := hR i (.ref q) (by rw [List.getElem?_map,hi]; rfl); cases e; exact h
theorem aca {x : Str} {H1 : Hp} : pZ (Its x) H1 x.cps.size (fun i H v H' => H' = H /\ ∃ c,x.cps[i]? = some c /\ v = .str ⟨#[c]⟩) :=
 ⟨fun i H hi s => hi,fun H s => Nat.le_refl _,fun i H x H' _ s y => y⟩
end L2

namespace L2
open PySem PySem.Spec PyProof.Rows
theorem fs {N P : List Str} {sc : Scope} (a : sc.kind = .function := by rfl) (b : sc.isCoroutine = false := by rfl) (c : sc.isGenerator = false := by rfl) (d : N.Nodup := by decide +kernel) (e : N.take P.length = P := by rfl)
  (f : ∀ x ∈ P,sc.names.lookup x = some .local \/ sc.names.lookup x = some .cell := by decide +kernel) (g : ∀ y ∈ sc.names,y.2 ≠ .free := by decide +kernel) : aq N P sc := ⟨a,b,c,d,e,f,g⟩
abbrev Dd (K : Fg) (mg : Str -> Option Value) (x : Str) (st : Stmt) (ps : List Str) : Prop := Df K mg x x st ps
theorem aC (x : Str) (st : Stmt) (ps : List Str) {K : Fg} {h : Heap} {mg : Str -> Option Value} {R : Prop} {f : Addr} {oc : Value} {od an : Option Addr} {osl : Array (Option Value)} {kV doc pm cdv ct : Value} (X : K.In h) (G : h.Ns mainGlobals mg)
  (a : PySem.W.nsIn K mainGlobals x = some (some (.ref f))) (l : K.lookup f = some ⟨oc,od,.func (PySem.W.fnOf x x (dc st) (b9 st) (aj st) .none kV doc pm an cdv ct),osl⟩)
  (c : PySem.W.codeIn K cdv x = true) (k : PySem.W.keepIn K (.ref f) = true)
  (hb : ∀ (kV doc pm : Value) (an : Option Addr) (cdv ct : Value) (us : List Value),us.length = ps.length -> bindArgs (PySem.W.fnOf x x (dc st) (b9 st) (aj st) .none kV doc pm an cdv ct) ⟨us,[]⟩ = pure (ps.zip us))
  (cont : Dd K mg x st ps -> R) : R := adv X G a l c k hb cont
theorem bM.m {j k : Nat} {A : Around} (r : bM k A) (h : j <= k := by decide) : bM j A := r.mono h
section
variable {X : Cx} {a b e : Expr} {es : List Expr} {ta tb te : TE} {t : TA} {p pos pos' apos : Pos}
theorem au (ha : PE X a ta) (hb : PE X b tb) (hs : uw b := by exact fun _ _ => rfl) : PE X (.Subscript a b pos) (vv (yT X.K) ta tb) := rA yi ha hb hs
theorem oX (K : Fg) (ha : PE X a ta) (hb : PE X b tb) (hK : X.K = K := by rfl) (hs : uw b := by exact fun _ _ => rfl) : PE X (.Subscript a b pos) (vv (yT K) ta tb) := rA (aa3 K hK) ha hb hs
theorem aE {op : CmpOp} {r : R2} (ho : d8 X (compareOp op) r) (ha : PE X a ta) (hb : PE X b tb) (hm : behindInMarks op b = false := by exact aaG _) : PT X (.Compare a [op] [b] pos) (abB (vv r ta tb)) := yb ho ha hb hm
theorem lF {op : CmpOp} {r : R2} (ho : d8 X (compareOp op) r) (ha : PE X a ta) (hb : PE X b tb) (hm : behindInMarks op b = false := by exact aaG _) : PE X (.Compare a [op] [b] pos) (vv r ta tb) := ab4 ho ha hb hm
theorem aH (i : Nat) {x : Str} (hN : X.N.Nodup) (he : PE X e te) (hi : X.N[i]? = some x := by rfl) (hx : yh X.env.scope x := by first | exact Or.inl rfl | exact Or.inr rfl) (hs : swapsWith e (some (.Name x pos')) pos.line X.env = pure false := by rfl) (hf : X.fn x = true \/ X.env.scope.names.lookup x = some .local := by first | exact .inl rfl | exact .inr rfl | assumption) :
  PS X (.Assign [.Name x pos'] e pos) (zM te (gX i)) := acF hN hi hx he hs hf
theorem a0 (i : Nat) {x : Str} (hN : X.N.Nodup) (hi : X.N[i]? = some x := by rfl) (hx : yh X.env.scope x := by first | exact Or.inl rfl | exact Or.inr rfl) (hf : X.fn x = true \/ X.env.scope.names.lookup x = some .local := by first | exact .inl rfl | exact .inr rfl | assumption) :
  PG X (.Name x pos) (gX i) := abM hN hi hx hf
theorem ap {k kk : Nat} {ps : List Str} {sp : Sp} {x : Str} (G : Ok X.prog X.w X.K X.mg X.base k x ps sp) (hr : bM kk X.A) (ha : PA X (e :: es) t) (hk : k <= kk := by decide) (hg : Gl X x := by rfl) (hdb : (x == ("__debug__" : Str)) = false := by decide)
  (he : starEach (e :: es) X.env = (false,eval e X.env) :: starEach es X.env := by rfl) (hpl : (backTo pos (starEach es X.env)).any (·.1) = false := by rfl) : PE X (.Call (.Name x p) (e :: es) [] pos) (t0 sp [] E0 t) := adD G (hr.mono hk) hg ha hdb he hpl
theorem dZ {k kk : Nat} {ps : List Str} {sp : Sp} {x : Str} {C : Addr} (G : dO X.prog X.w X.K X.mg X.base k x C ps sp) (hr : bM kk X.A) (ha : PA X (e :: es) t) (hk : k + 1 <= kk := by decide) (hg : Gl X x := by rfl) (hdb : (x == ("__debug__" : Str)) = false := by decide)
  (he : starEach (e :: es) X.env = (false,eval e X.env) :: starEach es X.env := by rfl) (hpl : (backTo pos (starEach es X.env)).any (·.1) = false := by rfl) : PE X (.Call (.Name x p) (e :: es) [] pos) (zB C sp [] E0 t) := acX G (hr.mono hk) hg ha hdb he hpl
theorem bA (hm : X.mg "len" = none) (he : PE X e te) (hg : Gl X "len" := by rfl) (h1 : starEach [e] X.env = (false,eval e X.env) :: starEach [] X.env := by rfl) (hpl : (backTo pos (starEach [] X.env)).any (·.1) = false := by rfl) :
  PE X (.Call (.Name "len" p) [e] [] pos) (tCB (fun xs H Q => ∃ p ys,xs = [.ref p] /\ (ag X.K H p ys \/ cx X.K H p ys) /\ Q (.int ys.length) H) (abH te uW)) := bG qK hg hm PySem.boot_len (ab he ac h1) (by decide) (by decide) h1 hpl
end
end L2

namespace Go
open PySem PySem.Spec PyProof.Rows L2
def aT (i : Nat) : Stmt := PySem.Challenge.pw_arraydesk_s01_answers.main.body.getD i (.Pass ⟨0,0,0,0⟩)
def rb (p : Int) : Option Int := if p = 1 then some 0 else if p = 2 then some 3 else if p = 3 then some 4 else none
structure Txt (K : Fg) (mg : Str -> Option Value) (C : Addr) : Prop where
 b_len : mg "len" = none
 b_range : mg "range" = none
 b_zip : mg "zip" = none
 b_reversed : mg "reversed" = none
 b_list : mg "list" = none
 b_enumerate : mg "enumerate" = none
 b_min : mg "min" = none
 b_max : mg "max" = none
 b_sorted : mg "sorted" = none
 b_str : mg "str" = none
 b_ord : mg "ord" = none
 g_MOST_LENGTHS : ∃ t,mg "MOST_LENGTHS" = some (.int 4 t)
 g_MOST_CELLS : ∃ t,mg "MOST_CELLS" = some (.int 1024 t)
 g_MOST_COUNT : ∃ t,mg "MOST_COUNT" = some (.int 1024 t)
 g_GREATEST_CELL : ∃ t,mg "GREATEST_CELL" = some (.int 1000000000000000 t)
 g_SLOTS : ∃ t,mg "SLOTS" = some (.int 8 t)
 g_WRONG : ∃ t,mg "WRONG" = some (.int (-1) t)
 g_EMPTY : ∃ t,mg "EMPTY" = some (.int (-2) t)
 g_UNLIKE : ∃ t,mg "UNLIKE" = some (.int (-3) t)
 g_NOWHERE : ∃ t,mg "NOWHERE" = some (.int (-4) t)
 g_BEYOND : ∃ t,mg "BEYOND" = some (.int (-6) t)
 g_NOTHING : ∃ t,mg "NOTHING" = some (.int (-5) t)
 g_NO_TEXT : ∃ t,mg "NO_TEXT" = some (.int (-8) t)
 g_MOST_TIMES : ∃ t,mg "MOST_TIMES" = some (.int 1024 t)
 g_MOST_BYTES : ∃ t,mg "MOST_BYTES" = some (.int 8192 t)
 g_SUM : ∃ t,mg "SUM" = some (.int 0 t)
 g_DIFFERENCE : ∃ t,mg "DIFFERENCE" = some (.int 1 t)
 g_PRODUCT : ∃ t,mg "PRODUCT" = some (.int 2 t)
 g_LEAST : ∃ t,mg "LEAST" = some (.int 3 t)
 g_MOST : ∃ t,mg "MOST" = some (.int 4 t)
 g_QUOTIENT : ∃ t,mg "QUOTIENT" = some (.int 5 t)
 g_REST : ∃ t,mg "REST" = some (.int 6 t)
 g_BELOW : ∃ t,mg "BELOW" = some (.int 7 t)
 g_GREATEST_OP : ∃ t,mg "GREATEST_OP" = some (.int 8 t)
 g_GREATEST_MODE : ∃ t,mg "GREATEST_MODE" = some (.int 3 t)
 t_FOLD_OPS : GT K mg "FOLD_OPS" [.int 0,.int 2,.int 3,.int 4]
 d_LANDING_OPS : Tab K mg "LANDING_OPS" rb
 cl : kM K C
 nL : fX K C "lengths"
 nC : fX K C "cells"
end Go

namespace Go
open PySem PySem.Spec PyProof.Rows L2
abbrev iS : Stmt := (aT 3)
abbrev lc : Stmt := (aT 4)
abbrev k_ : Stmt := (aT 5)
abbrev jK : Stmt := (aT 6)
abbrev kY : Stmt := (aT 7)
abbrev gO : Stmt := (aT 8)
abbrev gk : Stmt := (aT 10)
abbrev jG : Stmt := (aT 9)
abbrev gQ : Stmt := (aT 11)
abbrev gm : Stmt := (aT 31)
abbrev lv : Stmt := (aT 57)
abbrev jO : Stmt := (aT 58)
abbrev fD : Stmt := (aT 59)
structure iy (K : Fg) (R : Addr) : Prop where
 cl : kM K R
 nN : fX K R "numbers"
 nR : fX K R "reached"
abbrev eq : Stmt := (jk (aT 81) 0)
abbrev eY : Stmt := (jk (aT 81) 1)
abbrev dL : Stmt := (jk (aT 81) 4)
abbrev eA : Stmt := (jk (aT 81) 5)
abbrev gW : Stmt := (aT 82)
abbrev jF : Stmt := (aT 83)
def o0 (K : Fg) : Sp := fun vs H Q _ => ∃ (a : Addr) (zs : List Int),vs = [.ref a] /\ ag K H a (vi zs) /\ PyYqlnca.answers_asked zs = true /\ ∀ (H' : Hp) (p : Addr),H' p = some (.lst (vi (PyYqlnca.answers zs))) -> Q (.ref p) H'
abbrev mv : Stmt := (aT 142)
abbrev fF : Stmt := (aT 40)
abbrev eZ : Stmt := (aT 113)
abbrev fe : Stmt := (aT 107)
abbrev gV : Stmt := (aT 141)
abbrev eU : Stmt := (jk (aT 14) 0)
abbrev mn : Stmt := (aT 15)
abbrev mB : Stmt := (aT 16)
abbrev fr : Stmt := (aT 26)
abbrev eW : Stmt := (aT 27)
abbrev ff : Stmt := (aT 28)
abbrev eg : Stmt := (aT 29)
abbrev fE : Stmt := (aT 30)
abbrev tI : Stmt := (aT 32)
abbrev jv : Stmt := (aT 35)
abbrev js : Stmt := (aT 36)
abbrev gM : Stmt := (aT 37)
abbrev f_ : Stmt := (aT 38)
abbrev jr : Stmt := (aT 39)
abbrev iJ : Stmt := (aT 109)
abbrev iY : Stmt := (aT 110)
abbrev mD : Stmt := (aT 111)
abbrev k9 : Stmt := (aT 112)
abbrev mf : Stmt := (aT 85)
abbrev cp : Stmt := (aT 86)
abbrev eO : Stmt := (aT 87)
abbrev dk : Stmt := (aT 99)
abbrev kZ : Stmt := (aT 100)
abbrev eh : Stmt := (aT 101)
abbrev c6 : Stmt := (aT 102)
abbrev di : Stmt := (aT 103)
abbrev gT : Stmt := (aT 104)
abbrev iF : Stmt := (aT 105)
abbrev k8 : Stmt := (aT 106)
abbrev cK : Stmt := (aT 129)
abbrev dG : Stmt := (aT 130)
abbrev jA : Stmt := (aT 133)
abbrev gq : Stmt := (aT 131)
abbrev fO : Stmt := (aT 132)
abbrev jH : Stmt := (aT 78)
abbrev iH : Stmt := (aT 61)
abbrev gS : Stmt := (aT 62)
abbrev c9 : Stmt := (aT 63)
abbrev iT : Stmt := (aT 64)
abbrev jI : Stmt := (aT 65)
abbrev jx : Stmt := (aT 116)
abbrev ip : Stmt := (aT 117)
abbrev gJ : Stmt := (aT 124)
abbrev eu : Stmt := (jk (aT 81) 2)
abbrev fC : Stmt := (jk (aT 81) 3)
abbrev iR : Stmt := (aT 118)
abbrev gZ : Stmt := (aT 119)
abbrev jJ : Stmt := (aT 121)
abbrev gb : Stmt := (aT 120)
abbrev iD : Stmt := (aT 122)
abbrev iX : Stmt := (aT 123)
abbrev jD : Stmt := (aT 125)
theorem yS {p n : Int} (h : rb p = some n) : (p = 1 /\ n = 0) \/ (p = 2 /\ n = 3) \/ (p = 3 /\ n = 4) := by
 unfold rb at h
 split at h
 ·cases h; exact .inl ⟨by assumption,rfl⟩
 ·split at h
  ·cases h; exact .inr (.inl ⟨by assumption,rfl⟩)
  ·split at h
   ·cases h; exact .inr (.inr ⟨by assumption,rfl⟩)
   ·cases h
abbrev fb : Stmt := (aT 137)
abbrev d5 : Stmt := (aT 96)
abbrev eT : Stmt := (aT 79)
abbrev gY : Stmt := (aT 66)
abbrev gR : Stmt := (aT 126)
abbrev g9 : Stmt := (aT 140)
abbrev gG : Stmt := (aT 134)
abbrev gK : Stmt := (aT 135)
abbrev fi : Stmt := (aT 136)
abbrev kT : Stmt := (aT 52)
abbrev mG : Stmt := (aT 53)
abbrev g_ : Stmt := (aT 54)
abbrev iz : Stmt := (aT 55)
abbrev fG : Stmt := (aT 33)
abbrev dl : Stmt := (aT 88)
abbrev et : Stmt := (aT 89)
abbrev dJ : Stmt := (aT 91)
abbrev gd : Stmt := (aT 92)
abbrev jw : Stmt := (aT 93)
abbrev gI : Stmt := (aT 94)
abbrev gE : Stmt := (aT 95)
abbrev dP : Stmt := (aT 70)
abbrev jB : Stmt := (aT 71)
abbrev eJ : Stmt := (aT 72)
abbrev g8 : Stmt := (aT 73)
abbrev gi : Stmt := (aT 74)
abbrev fT : Stmt := (aT 75)
abbrev jz : Stmt := (aT 77)
abbrev gN : Stmt := (aT 76)
end Go

namespace Go
open PySem PySem.Spec PyProof.Rows L2
def abz : Prop := ∀ (P : Program) (w : World) (K : Fg) (mg : Str -> Option Value) (base : Heap) (C al f : Addr) (fd : FuncData),Txt K mg C -> iy K al -> v9 K mg PyYqlnca.shape →
  Dd K mg "cell_count" iS ["lengths"] →
  Dd K mg "is_shape" lc ["lengths"] →
  Dd K mg "is_place" k_ ["lengths","place"] →
  Dd K mg "number_of" jK ["lengths","place"] →
  Dd K mg "place_of" kY ["lengths","cell"] →
  Dd K mg "places_of" gO ["lengths"] →
  wZ K mg "Array" C eU ["self","lengths","cells"] →
  Dd K mg "is_cell" mn ["number"] →
  Dd K mg "cell_at" mB ["array","place"] →
  Dd K mg "empty_slots" fr [] →
  Dd K mg "target_refusal" eW ["k"] →
  Dd K mg "source_refusal" ff ["slots","i"] →
  Dd K mg "sources_refusal" eg ["slots","sources"] →
  Dd K mg "slots_refusal" fE ["slots","k","sources"] →
  Dd K mg "keep" tI ["slots","k","array"] →
  Dd K mg "are_cells" jv ["numbers"] →
  Dd K mg "call_make" js ["slots","k","lengths","cells"] →
  Dd K mg "call_fill" gM ["slots","k","v","lengths"] →
  Dd K mg "call_count" f_ ["slots","k","start","step","lengths"] →
  Dd K mg "call_drop" jr ["slots","k"] →
  Dd K mg "call_shape" iJ ["slots","i"] →
  Dd K mg "call_cells" iY ["slots","i"] →
  Dd K mg "call_at" mD ["slots","i","place"] →
  Dd K mg "call_set" k9 ["slots","i","v","place"] →
  Dd K mg "spreads" mf ["small","great"] →
  Dd K mg "place_before_spread" cp ["small","place"] →
  Dd K mg "spread_array" eO ["array","lengths"] →
  Dd K mg "section_lengths" dk ["cuts"] →
  Dd K mg "are_cuts" kZ ["lengths","cuts"] →
  Dd K mg "cuts_lie_within" eh ["lengths","cuts"] →
  Dd K mg "place_before_cut" c6 ["cuts","place"] →
  Dd K mg "section_numbers" di ["lengths","cuts"] →
  Dd K mg "call_spread" gT ["slots","k","i","lengths"] →
  Dd K mg "call_cut" iF ["slots","k","i","cuts"] →
  Dd K mg "call_put" k8 ["slots","i","j","cuts"] →
  Dd K mg "place_before_turn" cK ["axes","place"] →
  Dd K mg "turned_array" dG ["array","axes"] →
  Dd K mg "call_turn" jA ["slots","k","i","axes"] →
  Dd K mg "without_axis" gk ["numbers","axis"] →
  Dd K mg "with_axis" jG ["numbers","axis","number"] →
  Dd K mg "with_length" gQ ["lengths","axis","length"] →
  Dd K mg "axis_refusal" gm ["slots","k","sources","axis"] →
  Dd K mg "row_at" lv ["array","axis","others"] →
  Dd K mg "rows_of" jO ["array","axis"] →
  Dd K mg "array_of_rows" fD ["lengths","axis","rows"] →
  wZ K mg "Reader" al eq ["self","numbers"] →
  oz K al "is_done" "Reader.is_done" eY ["self"] →
  oz K al "read_whole" "Reader.read_whole" dL ["self"] →
  oz K al "read_row" "Reader.read_row" eA ["self"] →
  Dd K mg "read_wholes" gW ["reader","size"] →
  Dd K mg "read_rows" jF ["reader","size"] →
  Dd K mg "making_answer" fF ["slots","call","wholes","rows"] →
  Dd K mg "telling_answer" eZ ["slots","call","wholes","rows"] →
  Dd K mg "section_answer" fe ["slots","call","wholes","rows"] →
  Dd K mg "lengths_join" gq ["first","second","axis"] →
  Dd K mg "rolled_row" fO ["row","by"] →
  Dd K mg "call_join" gG ["slots","k","axis","i","j"] →
  Dd K mg "call_roll" gK ["slots","k","axis","by","i"] →
  Dd K mg "call_repeat" fi ["slots","k","axis","times","i"] →
  Dd K mg "op_value" kT ["op","x","y"] →
  Dd K mg "op_cell" mG ["op","x","y"] →
  Dd K mg "scanned_row" g_ ["f","row"] →
  Dd K mg "folded_row" iz ["f","row"] →
  Dd K mg "keep_reckoned" fG ["slots","k","array"] →
  Dd K mg "with_ones_ahead" dl ["lengths","rank"] →
  Dd K mg "meeting_lengths" et ["first","second"] →
  Dd K mg "reckoned_array" dJ ["op","first","second","lengths"] →
  Dd K mg "fold_refusal" gd ["slots","k","f","axis","i"] →
  Dd K mg "call_both" jw ["slots","k","op","i","j"] →
  Dd K mg "call_fold" gI ["slots","k","f","axis","i"] →
  Dd K mg "call_scan" gE ["slots","k","f","axis","i"] →
  Dd K mg "ordered_row" dP ["row"] →
  Dd K mg "are_below" jB ["numbers","bound"] →
  Dd K mg "packed_cells" eJ ["array","mask"] →
  Dd K mg "landed_cell" g8 ["mode","standing","cell"] →
  Dd K mg "landed_array" gi ["array","mode","numbers","landing"] →
  Dd K mg "call_order" fT ["slots","k","axis","i"] →
  Dd K mg "call_pack" jz ["slots","k","i","j"] →
  Dd K mg "call_take" gN ["slots","k","axis","i","j"] →
  Dd K mg "call_land" jH ["slots","i","mode","j","l"] →
  Dd K mg "tables_fit" iH ["first","second"] →
  Dd K mg "product_sum" gS ["row","column"] →
  Dd K mg "multiplied_cells" c9 ["first","second"] →
  Dd K mg "call_times" iT ["slots","k","i","j"] →
  Dd K mg "call_same" jI ["slots","i","j"] →
  Dd K mg "line_size" jx ["lengths"] →
  Dd K mg "text_of" ip ["array"] →
  Dd K mg "call_text" gJ ["slots","i"] →
  oz K al "upcoming" "Reader.upcoming" eu ["self"] →
  oz K al "passes" "Reader.passes" fC ["self","number"] →
  Dd K mg "next_digit" iR ["reader"] →
  Dd K mg "read_number" gZ ["reader","least","most"] →
  Dd K mg "read_cell" jJ ["reader"] →
  Dd K mg "read_lengths" gb ["reader"] →
  Dd K mg "read_cells" iD ["reader","lengths"] →
  Dd K mg "read_array" iX ["reader"] →
  Dd K mg "call_read" jD ["slots","k","text"] →
  Dd K mg "turning_answer" fb ["slots","call","wholes","rows"] →
  Dd K mg "reckoning_answer" d5 ["slots","call","wholes"] →
  Dd K mg "picking_answer" eT ["slots","call","wholes"] →
  Dd K mg "pair_answer" gY ["slots","call","wholes"] →
  Dd K mg "text_answer" gR ["slots","call","wholes","rows"] →
  Dd K mg "call_answer" g9 ["slots","call","wholes","rows"] →
  Dd K mg "next_answer" gV ["slots","reader"] →
  qQ K "answers" "answers" mv f fd -> f7 P w K mg base pB 12 f fd ["calls"] (o0 K)
theorem two {R : Prop} {T : Prop} (hc : T) (main : R) : R := main
end Go
section
open PySem PySem.W PyProof.Rows
set_option maxRecDepth 100000 in
set_option maxHeartbeats 0 in
theorem Go.main_of (w8 : Go.abz) : PySem.Challenge.rw_arraydesk_s01_answers.Holds := by
 apply Go.two
 case main =>
  w_on; k_headS; (case hw => exact ⟨[.list [.int 4,.int 0]],by decide +kernel,by decide +kernel⟩)
 k_fillS
 refine L2.zb (r := PySem.Challenge.rw_arraydesk_s01_answers) (k := 12) (CX := L2.pB) (ps := ["calls"]) (sp := Go.o0) (by decide +kernel) rfl rfl ⟨rfl,by decide,by decide⟩ (fun w h Y => PySem.W.kIn_of Y) ?F ?S (fun _ _ _ _ z => z)
 case F =>
  intro w mg fa h Y KX G hmg
  refine' L2.aah (x := "Array") KX G ?a ?pg ?hd ?po ?sa ?mk ?kc ?_; (case a => k_is); (case pg => k_is); (case hd => k_is); (case po => k_is); (case sa => k_is); (case mk => k_is); (case kc => k_is)
  intro hm_Array cl_Array mk_Array kc_Array
  refine' L2.v_ (x := "lengths") cl_Array ?a ?_; (case a => k_is)
  intro no_Array_lengths
  refine' L2.v_ (x := "cells") cl_Array ?a ?_; (case a => k_is)
  intro no_Array_cells
  refine' L2.aah (x := "Reader") KX G ?a ?pg ?hd ?po ?sa ?mk ?kc ?_; (case a => k_is); (case pg => k_is); (case hd => k_is); (case po => k_is); (case sa => k_is); (case mk => k_is); (case kc => k_is)
  intro hm_Reader cl_Reader mk_Reader kc_Reader
  refine' L2.v_ (x := "numbers") cl_Reader ?a ?_; (case a => k_is)
  intro no_Reader_numbers
  refine' L2.v_ (x := "reached") cl_Reader ?a ?_; (case a => k_is)
  intro no_Reader_reached
  refine' L2.eM (x := "len") KX G ?a ?_; (case a => k_is)
  intro b_len
  refine' L2.eM (x := "range") KX G ?a ?_; (case a => k_is)
  intro b_range
  refine' L2.eM (x := "zip") KX G ?a ?_; (case a => k_is)
  intro b_zip
  refine' L2.eM (x := "reversed") KX G ?a ?_; (case a => k_is)
  intro b_reversed
  refine' L2.eM (x := "list") KX G ?a ?_; (case a => k_is)
  intro b_list
  refine' L2.eM (x := "enumerate") KX G ?a ?_; (case a => k_is)
  intro b_enumerate
  refine' L2.eM (x := "min") KX G ?a ?_; (case a => k_is)
  intro b_min
  refine' L2.eM (x := "max") KX G ?a ?_; (case a => k_is)
  intro b_max
  refine' L2.eM (x := "sorted") KX G ?a ?_; (case a => k_is)
  intro b_sorted
  refine' L2.eM (x := "str") KX G ?a ?_; (case a => k_is)
  intro b_str
  refine' L2.eM (x := "ord") KX G ?a ?_; (case a => k_is)
  intro b_ord
  refine' L2.bR (x := "MOST_LENGTHS") (i := (4)) KX G ?a ?_; (case a => k_is)
  intro g_MOST_LENGTHS
  refine' L2.bR (x := "MOST_CELLS") (i := (1024)) KX G ?a ?_; (case a => k_is)
  intro g_MOST_CELLS
  refine' L2.bR (x := "MOST_COUNT") (i := (1024)) KX G ?a ?_; (case a => k_is)
  intro g_MOST_COUNT
  refine' L2.bR (x := "GREATEST_CELL") (i := (1000000000000000)) KX G ?a ?_; (case a => k_is)
  intro g_GREATEST_CELL
  refine' L2.bR (x := "SLOTS") (i := (8)) KX G ?a ?_; (case a => k_is)
  intro g_SLOTS
  refine' L2.bR (x := "WRONG") (i := (-1)) KX G ?a ?_; (case a => k_is)
  intro g_WRONG
  refine' L2.bR (x := "EMPTY") (i := (-2)) KX G ?a ?_; (case a => k_is)
  intro g_EMPTY
  refine' L2.bR (x := "UNLIKE") (i := (-3)) KX G ?a ?_; (case a => k_is)
  intro g_UNLIKE
  refine' L2.bR (x := "NOWHERE") (i := (-4)) KX G ?a ?_; (case a => k_is)
  intro g_NOWHERE
  refine' L2.bR (x := "BEYOND") (i := (-6)) KX G ?a ?_; (case a => k_is)
  intro g_BEYOND
  refine' L2.bR (x := "NOTHING") (i := (-5)) KX G ?a ?_; (case a => k_is)
  intro g_NOTHING
  refine' L2.bR (x := "NO_TEXT") (i := (-8)) KX G ?a ?_; (case a => k_is)
  intro g_NO_TEXT
  refine' L2.bR (x := "MOST_TIMES") (i := (1024)) KX G ?a ?_; (case a => k_is)
  intro g_MOST_TIMES
  refine' L2.bR (x := "MOST_BYTES") (i := (8192)) KX G ?a ?_; (case a => k_is)
  intro g_MOST_BYTES
  refine' L2.bR (x := "SUM") (i := (0)) KX G ?a ?_; (case a => k_is)
  intro g_SUM
  refine' L2.bR (x := "DIFFERENCE") (i := (1)) KX G ?a ?_; (case a => k_is)
  intro g_DIFFERENCE
  refine' L2.bR (x := "PRODUCT") (i := (2)) KX G ?a ?_; (case a => k_is)
  intro g_PRODUCT
  refine' L2.bR (x := "LEAST") (i := (3)) KX G ?a ?_; (case a => k_is)
  intro g_LEAST
  refine' L2.bR (x := "MOST") (i := (4)) KX G ?a ?_; (case a => k_is)
  intro g_MOST
  refine' L2.bR (x := "QUOTIENT") (i := (5)) KX G ?a ?_; (case a => k_is)
  intro g_QUOTIENT
  refine' L2.bR (x := "REST") (i := (6)) KX G ?a ?_; (case a => k_is)
  intro g_REST
  refine' L2.bR (x := "BELOW") (i := (7)) KX G ?a ?_; (case a => k_is)
  intro g_BELOW
  refine' L2.bR (x := "GREATEST_OP") (i := (8)) KX G ?a ?_; (case a => k_is)
  intro g_GREATEST_OP
  refine' L2.bR (x := "GREATEST_MODE") (i := (3)) KX G ?a ?_; (case a => k_is)
  intro g_GREATEST_MODE
  refine' L2.adu (x := "FOLD_OPS") [.int 0,.int 2,.int 3,.int 4] KX G ?b ?l ?hz ?hv ?_; (case b => k_is); (case l => k_is); (case hz => decide); (case hv => exact .cons ⟨_,rfl⟩ (.cons ⟨_,rfl⟩ (.cons ⟨_,rfl⟩ (.cons ⟨_,rfl⟩ (.nil)))))
  intro t_FOLD_OPS
  refine' L2.acN (x := "LANDING_OPS") (f := Go.rb) KX G ?a ?l ?t ?hf ?_; (case a => k_is); (case l => k_is); (case t => decide +kernel)
  case hf =>
   intro p n hs
   rcases Go.yS hs with ⟨rfl,rfl⟩ | ⟨rfl,rfl⟩ | ⟨rfl,rfl⟩
   ·exact ⟨_,rfl⟩
   ·exact ⟨_,rfl⟩
   ·exact ⟨_,rfl⟩
  intro d_LANDING_OPS; have T : Go.Txt _ mg _ := ⟨b_len,b_range,b_zip,b_reversed,b_list,b_enumerate,b_min,b_max,b_sorted,b_str,b_ord,g_MOST_LENGTHS,g_MOST_CELLS,g_MOST_COUNT,g_GREATEST_CELL,g_SLOTS,g_WRONG,g_EMPTY,g_UNLIKE,g_NOWHERE,g_BEYOND,g_NOTHING,g_NO_TEXT,g_MOST_TIMES,g_MOST_BYTES,g_SUM,g_DIFFERENCE,g_PRODUCT,g_LEAST,g_MOST,g_QUOTIENT,g_REST,g_BELOW,g_GREATEST_OP,g_GREATEST_MODE,t_FOLD_OPS,d_LANDING_OPS,cl_Array,no_Array_lengths,no_Array_cells⟩; have aA : Go.iy _ _ := ⟨cl_Reader,no_Reader_numbers,no_Reader_reached⟩
  refine' L2.abj (sh := PyYqlnca.shape) KX G ?a ?l ?t ?hf ?_; (case a => k_is); (case l => k_is); (case t => decide +kernel)
  case hf =>
   intro p n m hs
   rcases Ma.mH hs with ⟨rfl,rfl,rfl⟩ | ⟨rfl,rfl,rfl⟩ | ⟨rfl,rfl,rfl⟩ | ⟨rfl,rfl,rfl⟩ | ⟨rfl,rfl,rfl⟩ | ⟨rfl,rfl,rfl⟩ | ⟨rfl,rfl,rfl⟩ | ⟨rfl,rfl,rfl⟩ | ⟨rfl,rfl,rfl⟩ | ⟨rfl,rfl,rfl⟩ | ⟨rfl,rfl,rfl⟩ | ⟨rfl,rfl,rfl⟩ | ⟨rfl,rfl,rfl⟩ | ⟨rfl,rfl,rfl⟩ | ⟨rfl,rfl,rfl⟩ | ⟨rfl,rfl,rfl⟩ | ⟨rfl,rfl,rfl⟩ | ⟨rfl,rfl,rfl⟩ | ⟨rfl,rfl,rfl⟩ | ⟨rfl,rfl,rfl⟩ | ⟨rfl,rfl,rfl⟩ | ⟨rfl,rfl,rfl⟩ | ⟨rfl,rfl,rfl⟩ | ⟨rfl,rfl,rfl⟩ | ⟨rfl,rfl,rfl⟩ | ⟨rfl,rfl,rfl⟩
   ·refine' L2.bE ?b ?l; (case b => rfl); (case l => k_is)
   ·refine' L2.bE ?b ?l; (case b => rfl); (case l => k_is)
   ·refine' L2.bE ?b ?l; (case b => rfl); (case l => k_is)
   ·refine' L2.bE ?b ?l; (case b => rfl); (case l => k_is)
   ·refine' L2.bE ?b ?l; (case b => rfl); (case l => k_is)
   ·refine' L2.bE ?b ?l; (case b => rfl); (case l => k_is)
   ·refine' L2.bE ?b ?l; (case b => rfl); (case l => k_is)
   ·refine' L2.bE ?b ?l; (case b => rfl); (case l => k_is)
   ·refine' L2.bE ?b ?l; (case b => rfl); (case l => k_is)
   ·refine' L2.bE ?b ?l; (case b => rfl); (case l => k_is)
   ·refine' L2.bE ?b ?l; (case b => rfl); (case l => k_is)
   ·refine' L2.bE ?b ?l; (case b => rfl); (case l => k_is)
   ·refine' L2.bE ?b ?l; (case b => rfl); (case l => k_is)
   ·refine' L2.bE ?b ?l; (case b => rfl); (case l => k_is)
   ·refine' L2.bE ?b ?l; (case b => rfl); (case l => k_is)
   ·refine' L2.bE ?b ?l; (case b => rfl); (case l => k_is)
   ·refine' L2.bE ?b ?l; (case b => rfl); (case l => k_is)
   ·refine' L2.bE ?b ?l; (case b => rfl); (case l => k_is)
   ·refine' L2.bE ?b ?l; (case b => rfl); (case l => k_is)
   ·refine' L2.bE ?b ?l; (case b => rfl); (case l => k_is)
   ·refine' L2.bE ?b ?l; (case b => rfl); (case l => k_is)
   ·refine' L2.bE ?b ?l; (case b => rfl); (case l => k_is)
   ·refine' L2.bE ?b ?l; (case b => rfl); (case l => k_is)
   ·refine' L2.bE ?b ?l; (case b => rfl); (case l => k_is)
   ·refine' L2.bE ?b ?l; (case b => rfl); (case l => k_is)
   ·refine' L2.bE ?b ?l; (case b => rfl); (case l => k_is)
  intro TF
  refine' L2.aC "cell_count" Go.iS ["lengths"] KX G ?a ?l ?c ?k (fun _ _ _ _ _ _ u h => match u,h with | [_],_ => rfl) ?_; (case a => k_is); (case l => k_is); (case c => k_is); (case k => k_is)
  intro l7
  refine' L2.aC "is_shape" Go.lc ["lengths"] KX G ?a ?l ?c ?k (fun _ _ _ _ _ _ u h => match u,h with | [_],_ => rfl) ?_; (case a => k_is); (case l => k_is); (case c => k_is); (case k => k_is)
  intro pc
  refine' L2.aC "is_place" Go.k_ ["lengths","place"] KX G ?a ?l ?c ?k (fun _ _ _ _ _ _ u h => match u,h with | [_,_],_ => rfl) ?_; (case a => k_is); (case l => k_is); (case c => k_is); (case k => k_is)
  intro oW
  refine' L2.aC "number_of" Go.jK ["lengths","place"] KX G ?a ?l ?c ?k (fun _ _ _ _ _ _ u h => match u,h with | [_,_],_ => rfl) ?_; (case a => k_is); (case l => k_is); (case c => k_is); (case k => k_is)
  intro m5
  refine' L2.aC "place_of" Go.kY ["lengths","cell"] KX G ?a ?l ?c ?k (fun _ _ _ _ _ _ u h => match u,h with | [_,_],_ => rfl) ?_; (case a => k_is); (case l => k_is); (case c => k_is); (case k => k_is)
  intro oN
  refine' L2.aC "places_of" Go.gO ["lengths"] KX G ?a ?l ?c ?k (fun _ _ _ _ _ _ u h => match u,h with | [_],_ => rfl) ?_; (case a => k_is); (case l => k_is); (case c => k_is); (case k => k_is)
  intro m9
  refine' L2.aaq (x := "Array") (qual := "Array.__init__") (st := Go.eU) (ps := ["self","lengths","cells"]) hm_Array mk_Array kc_Array ?a ?i ?l ?c ?k (fun _ _ _ _ _ _ u h => match u,h with | [_,_,_],_ => rfl) ?_; (case a => k_is); (case i => k_is); (case l => k_is); (case c => k_is); (case k => k_is)
  intro uK
  refine' L2.aC "is_cell" Go.mn ["number"] KX G ?a ?l ?c ?k (fun _ _ _ _ _ _ u h => match u,h with | [_],_ => rfl) ?_; (case a => k_is); (case l => k_is); (case c => k_is); (case k => k_is)
  intro qg
  refine' L2.aC "cell_at" Go.mB ["array","place"] KX G ?a ?l ?c ?k (fun _ _ _ _ _ _ u h => match u,h with | [_,_],_ => rfl) ?_; (case a => k_is); (case l => k_is); (case c => k_is); (case k => k_is)
  intro p0
  refine' L2.aC "empty_slots" Go.fr [] KX G ?a ?l ?c ?k (fun _ _ _ _ _ _ u h => match u,h with | [],_ => rfl) ?_; (case a => k_is); (case l => k_is); (case c => k_is); (case k => k_is)
  intro kl
  refine' L2.aC "target_refusal" Go.eW ["k"] KX G ?a ?l ?c ?k (fun _ _ _ _ _ _ u h => match u,h with | [_],_ => rfl) ?_; (case a => k_is); (case l => k_is); (case c => k_is); (case k => k_is)
  intro hE
  refine' L2.aC "source_refusal" Go.ff ["slots","i"] KX G ?a ?l ?c ?k (fun _ _ _ _ _ _ u h => match u,h with | [_,_],_ => rfl) ?_; (case a => k_is); (case l => k_is); (case c => k_is); (case k => k_is)
  intro ib
  refine' L2.aC "sources_refusal" Go.eg ["slots","sources"] KX G ?a ?l ?c ?k (fun _ _ _ _ _ _ u h => match u,h with | [_,_],_ => rfl) ?_; (case a => k_is); (case l => k_is); (case c => k_is); (case k => k_is)
  intro gy
  refine' L2.aC "slots_refusal" Go.fE ["slots","k","sources"] KX G ?a ?l ?c ?k (fun _ _ _ _ _ _ u h => match u,h with | [_,_,_],_ => rfl) ?_; (case a => k_is); (case l => k_is); (case c => k_is); (case k => k_is)
  intro iB
  refine' L2.aC "keep" Go.tI ["slots","k","array"] KX G ?a ?l ?c ?k (fun _ _ _ _ _ _ u h => match u,h with | [_,_,_],_ => rfl) ?_; (case a => k_is); (case l => k_is); (case c => k_is); (case k => k_is)
  intro xw
  refine' L2.aC "are_cells" Go.jv ["numbers"] KX G ?a ?l ?c ?k (fun _ _ _ _ _ _ u h => match u,h with | [_],_ => rfl) ?_; (case a => k_is); (case l => k_is); (case c => k_is); (case k => k_is)
  intro nh
  refine' L2.aC "call_make" Go.js ["slots","k","lengths","cells"] KX G ?a ?l ?c ?k (fun _ _ _ _ _ _ u h => match u,h with | [_,_,_,_],_ => rfl) ?_; (case a => k_is); (case l => k_is); (case c => k_is); (case k => k_is)
  intro mY
  refine' L2.aC "call_fill" Go.gM ["slots","k","v","lengths"] KX G ?a ?l ?c ?k (fun _ _ _ _ _ _ u h => match u,h with | [_,_,_,_],_ => rfl) ?_; (case a => k_is); (case l => k_is); (case c => k_is); (case k => k_is)
  intro nD
  refine' L2.aC "call_count" Go.f_ ["slots","k","start","step","lengths"] KX G ?a ?l ?c ?k (fun _ _ _ _ _ _ u h => match u,h with | [_,_,_,_,_],_ => rfl) ?_; (case a => k_is); (case l => k_is); (case c => k_is); (case k => k_is)
  intro lx
  refine' L2.aC "call_drop" Go.jr ["slots","k"] KX G ?a ?l ?c ?k (fun _ _ _ _ _ _ u h => match u,h with | [_,_],_ => rfl) ?_; (case a => k_is); (case l => k_is); (case c => k_is); (case k => k_is)
  intro nr
  refine' L2.aC "call_shape" Go.iJ ["slots","i"] KX G ?a ?l ?c ?k (fun _ _ _ _ _ _ u h => match u,h with | [_,_],_ => rfl) ?_; (case a => k_is); (case l => k_is); (case c => k_is); (case k => k_is)
  intro lY
  refine' L2.aC "call_cells" Go.iY ["slots","i"] KX G ?a ?l ?c ?k (fun _ _ _ _ _ _ u h => match u,h with | [_,_],_ => rfl) ?_; (case a => k_is); (case l => k_is); (case c => k_is); (case k => k_is)
  intro lD
  refine' L2.aC "call_at" Go.mD ["slots","i","place"] KX G ?a ?l ?c ?k (fun _ _ _ _ _ _ u h => match u,h with | [_,_,_],_ => rfl) ?_; (case a => k_is); (case l => k_is); (case c => k_is); (case k => k_is)
  intro qj
  refine' L2.aC "call_set" Go.k9 ["slots","i","v","place"] KX G ?a ?l ?c ?k (fun _ _ _ _ _ _ u h => match u,h with | [_,_,_,_],_ => rfl) ?_; (case a => k_is); (case l => k_is); (case c => k_is); (case k => k_is)
  intro oO
  refine' L2.aC "spreads" Go.mf ["small","great"] KX G ?a ?l ?c ?k (fun _ _ _ _ _ _ u h => match u,h with | [_,_],_ => rfl) ?_; (case a => k_is); (case l => k_is); (case c => k_is); (case k => k_is)
  intro pT
  refine' L2.aC "place_before_spread" Go.cp ["small","place"] KX G ?a ?l ?c ?k (fun _ _ _ _ _ _ u h => match u,h with | [_,_],_ => rfl) ?_; (case a => k_is); (case l => k_is); (case c => k_is); (case k => k_is)
  intro eB
  refine' L2.aC "spread_array" Go.eO ["array","lengths"] KX G ?a ?l ?c ?k (fun _ _ _ _ _ _ u h => match u,h with | [_,_],_ => rfl) ?_; (case a => k_is); (case l => k_is); (case c => k_is); (case k => k_is)
  intro jd
  refine' L2.aC "section_lengths" Go.dk ["cuts"] KX G ?a ?l ?c ?k (fun _ _ _ _ _ _ u h => match u,h with | [_],_ => rfl) ?_; (case a => k_is); (case l => k_is); (case c => k_is); (case k => k_is)
  intro gB
  refine' L2.aC "are_cuts" Go.kZ ["lengths","cuts"] KX G ?a ?l ?c ?k (fun _ _ _ _ _ _ u h => match u,h with | [_,_],_ => rfl) ?_; (case a => k_is); (case l => k_is); (case c => k_is); (case k => k_is)
  intro pb
  refine' L2.aC "cuts_lie_within" Go.eh ["lengths","cuts"] KX G ?a ?l ?c ?k (fun _ _ _ _ _ _ u h => match u,h with | [_,_],_ => rfl) ?_; (case a => k_is); (case l => k_is); (case c => k_is); (case k => k_is)
  intro gw
  refine' L2.aC "place_before_cut" Go.c6 ["cuts","place"] KX G ?a ?l ?c ?k (fun _ _ _ _ _ _ u h => match u,h with | [_,_],_ => rfl) ?_; (case a => k_is); (case l => k_is); (case c => k_is); (case k => k_is)
  intro fL
  refine' L2.aC "section_numbers" Go.di ["lengths","cuts"] KX G ?a ?l ?c ?k (fun _ _ _ _ _ _ u h => match u,h with | [_,_],_ => rfl) ?_; (case a => k_is); (case l => k_is); (case c => k_is); (case k => k_is)
  intro gx
  refine' L2.aC "call_spread" Go.gT ["slots","k","i","lengths"] KX G ?a ?l ?c ?k (fun _ _ _ _ _ _ u h => match u,h with | [_,_,_,_],_ => rfl) ?_; (case a => k_is); (case l => k_is); (case c => k_is); (case k => k_is)
  intro kh
  refine' L2.aC "call_cut" Go.iF ["slots","k","i","cuts"] KX G ?a ?l ?c ?k (fun _ _ _ _ _ _ u h => match u,h with | [_,_,_,_],_ => rfl) ?_; (case a => k_is); (case l => k_is); (case c => k_is); (case k => k_is)
  intro o9
  refine' L2.aC "call_put" Go.k8 ["slots","i","j","cuts"] KX G ?a ?l ?c ?k (fun _ _ _ _ _ _ u h => match u,h with | [_,_,_,_],_ => rfl) ?_; (case a => k_is); (case l => k_is); (case c => k_is); (case k => k_is)
  intro o7
  refine' L2.aC "place_before_turn" Go.cK ["axes","place"] KX G ?a ?l ?c ?k (fun _ _ _ _ _ _ u h => match u,h with | [_,_],_ => rfl) ?_; (case a => k_is); (case l => k_is); (case c => k_is); (case k => k_is)
  intro fB
  refine' L2.aC "turned_array" Go.dG ["array","axes"] KX G ?a ?l ?c ?k (fun _ _ _ _ _ _ u h => match u,h with | [_,_],_ => rfl) ?_; (case a => k_is); (case l => k_is); (case c => k_is); (case k => k_is)
  intro je
  refine' L2.aC "call_turn" Go.jA ["slots","k","i","axes"] KX G ?a ?l ?c ?k (fun _ _ _ _ _ _ u h => match u,h with | [_,_,_,_],_ => rfl) ?_; (case a => k_is); (case l => k_is); (case c => k_is); (case k => k_is)
  intro nT
  refine' L2.aC "without_axis" Go.gk ["numbers","axis"] KX G ?a ?l ?c ?k (fun _ _ _ _ _ _ u h => match u,h with | [_,_],_ => rfl) ?_; (case a => k_is); (case l => k_is); (case c => k_is); (case k => k_is)
  intro jg
  refine' L2.aC "with_axis" Go.jG ["numbers","axis","number"] KX G ?a ?l ?c ?k (fun _ _ _ _ _ _ u h => match u,h with | [_,_,_],_ => rfl) ?_; (case a => k_is); (case l => k_is); (case c => k_is); (case k => k_is)
  intro nE
  refine' L2.aC "with_length" Go.gQ ["lengths","axis","length"] KX G ?a ?l ?c ?k (fun _ _ _ _ _ _ u h => match u,h with | [_,_,_],_ => rfl) ?_; (case a => k_is); (case l => k_is); (case c => k_is); (case k => k_is)
  intro kK
  refine' L2.aC "axis_refusal" Go.gm ["slots","k","sources","axis"] KX G ?a ?l ?c ?k (fun _ _ _ _ _ _ u h => match u,h with | [_,_,_,_],_ => rfl) ?_; (case a => k_is); (case l => k_is); (case c => k_is); (case k => k_is)
  intro jh
  refine' L2.aC "row_at" Go.lv ["array","axis","others"] KX G ?a ?l ?c ?k (fun _ _ _ _ _ _ u h => match u,h with | [_,_,_],_ => rfl) ?_; (case a => k_is); (case l => k_is); (case c => k_is); (case k => k_is)
  intro sP
  refine' L2.aC "rows_of" Go.jO ["array","axis"] KX G ?a ?l ?c ?k (fun _ _ _ _ _ _ u h => match u,h with | [_,_],_ => rfl) ?_; (case a => k_is); (case l => k_is); (case c => k_is); (case k => k_is)
  intro qh
  refine' L2.aC "array_of_rows" Go.fD ["lengths","axis","rows"] KX G ?a ?l ?c ?k (fun _ _ _ _ _ _ u h => match u,h with | [_,_,_],_ => rfl) ?_; (case a => k_is); (case l => k_is); (case c => k_is); (case k => k_is)
  intro iN
  refine' L2.aaq (x := "Reader") (qual := "Reader.__init__") (st := Go.eq) (ps := ["self","numbers"]) hm_Reader mk_Reader kc_Reader ?a ?i ?l ?c ?k (fun _ _ _ _ _ _ u h => match u,h with | [_,_],_ => rfl) ?_; (case a => k_is); (case i => k_is); (case l => k_is); (case c => k_is); (case k => k_is)
  intro sw
  refine' L2.p_ (m := "is_done") (qual := "Reader.is_done") (st := Go.eY) (ps := ["self"]) cl_Reader ?a ?i ?l ?c ?k (fun _ _ _ _ _ _ u h => match u,h with | [_],_ => rfl) ?_; (case a => k_is); (case i => k_is); (case l => k_is); (case c => k_is); (case k => k_is)
  intro qG
  refine' L2.p_ (m := "read_whole") (qual := "Reader.read_whole") (st := Go.dL) (ps := ["self"]) cl_Reader ?a ?i ?l ?c ?k (fun _ _ _ _ _ _ u h => match u,h with | [_],_ => rfl) ?_; (case a => k_is); (case i => k_is); (case l => k_is); (case c => k_is); (case k => k_is)
  intro lJ
  refine' L2.p_ (m := "read_row") (qual := "Reader.read_row") (st := Go.eA) (ps := ["self"]) cl_Reader ?a ?i ?l ?c ?k (fun _ _ _ _ _ _ u h => match u,h with | [_],_ => rfl) ?_; (case a => k_is); (case i => k_is); (case l => k_is); (case c => k_is); (case k => k_is)
  intro o8
  refine' L2.aC "read_wholes" Go.gW ["reader","size"] KX G ?a ?l ?c ?k (fun _ _ _ _ _ _ u h => match u,h with | [_,_],_ => rfl) ?_; (case a => k_is); (case l => k_is); (case c => k_is); (case k => k_is)
  intro kG
  refine' L2.aC "read_rows" Go.jF ["reader","size"] KX G ?a ?l ?c ?k (fun _ _ _ _ _ _ u h => match u,h with | [_,_],_ => rfl) ?_; (case a => k_is); (case l => k_is); (case c => k_is); (case k => k_is)
  intro nU
  refine' L2.aC "making_answer" Go.fF ["slots","call","wholes","rows"] KX G ?a ?l ?c ?k (fun _ _ _ _ _ _ u h => match u,h with | [_,_,_,_],_ => rfl) ?_; (case a => k_is); (case l => k_is); (case c => k_is); (case k => k_is)
  intro iU
  refine' L2.aC "telling_answer" Go.eZ ["slots","call","wholes","rows"] KX G ?a ?l ?c ?k (fun _ _ _ _ _ _ u h => match u,h with | [_,_,_,_],_ => rfl) ?_; (case a => k_is); (case l => k_is); (case c => k_is); (case k => k_is)
  intro ii
  refine' L2.aC "section_answer" Go.fe ["slots","call","wholes","rows"] KX G ?a ?l ?c ?k (fun _ _ _ _ _ _ u h => match u,h with | [_,_,_,_],_ => rfl) ?_; (case a => k_is); (case l => k_is); (case c => k_is); (case k => k_is)
  intro il
  refine' L2.aC "lengths_join" Go.gq ["first","second","axis"] KX G ?a ?l ?c ?k (fun _ _ _ _ _ _ u h => match u,h with | [_,_,_],_ => rfl) ?_; (case a => k_is); (case l => k_is); (case c => k_is); (case k => k_is)
  intro i7
  refine' L2.aC "rolled_row" Go.fO ["row","by"] KX G ?a ?l ?c ?k (fun _ _ _ _ _ _ u h => match u,h with | [_,_],_ => rfl) ?_; (case a => k_is); (case l => k_is); (case c => k_is); (case k => k_is)
  intro lO
  refine' L2.aC "call_join" Go.gG ["slots","k","axis","i","j"] KX G ?a ?l ?c ?k (fun _ _ _ _ _ _ u h => match u,h with | [_,_,_,_,_],_ => rfl) ?_; (case a => k_is); (case l => k_is); (case c => k_is); (case k => k_is)
  intro nO
  refine' L2.aC "call_roll" Go.gK ["slots","k","axis","by","i"] KX G ?a ?l ?c ?k (fun _ _ _ _ _ _ u h => match u,h with | [_,_,_,_,_],_ => rfl) ?_; (case a => k_is); (case l => k_is); (case c => k_is); (case k => k_is)
  intro m_
  refine' L2.aC "call_repeat" Go.fi ["slots","k","axis","times","i"] KX G ?a ?l ?c ?k (fun _ _ _ _ _ _ u h => match u,h with | [_,_,_,_,_],_ => rfl) ?_; (case a => k_is); (case l => k_is); (case c => k_is); (case k => k_is)
  intro kr
  refine' L2.aC "op_value" Go.kT ["op","x","y"] KX G ?a ?l ?c ?k (fun _ _ _ _ _ _ u h => match u,h with | [_,_,_],_ => rfl) ?_; (case a => k_is); (case l => k_is); (case c => k_is); (case k => k_is)
  intro oG
  refine' L2.aC "op_cell" Go.mG ["op","x","y"] KX G ?a ?l ?c ?k (fun _ _ _ _ _ _ u h => match u,h with | [_,_,_],_ => rfl) ?_; (case a => k_is); (case l => k_is); (case c => k_is); (case k => k_is)
  intro qy
  refine' L2.aC "scanned_row" Go.g_ ["f","row"] KX G ?a ?l ?c ?k (fun _ _ _ _ _ _ u h => match u,h with | [_,_],_ => rfl) ?_; (case a => k_is); (case l => k_is); (case c => k_is); (case k => k_is)
  intro ke
  refine' L2.aC "folded_row" Go.iz ["f","row"] KX G ?a ?l ?c ?k (fun _ _ _ _ _ _ u h => match u,h with | [_,_],_ => rfl) ?_; (case a => k_is); (case l => k_is); (case c => k_is); (case k => k_is)
  intro lU
  refine' L2.aC "keep_reckoned" Go.fG ["slots","k","array"] KX G ?a ?l ?c ?k (fun _ _ _ _ _ _ u h => match u,h with | [_,_,_],_ => rfl) ?_; (case a => k_is); (case l => k_is); (case c => k_is); (case k => k_is)
  intro iu
  refine' L2.aC "with_ones_ahead" Go.dl ["lengths","rank"] KX G ?a ?l ?c ?k (fun _ _ _ _ _ _ u h => match u,h with | [_,_],_ => rfl) ?_; (case a => k_is); (case l => k_is); (case c => k_is); (case k => k_is)
  intro gC
  refine' L2.aC "meeting_lengths" Go.et ["first","second"] KX G ?a ?l ?c ?k (fun _ _ _ _ _ _ u h => match u,h with | [_,_],_ => rfl) ?_; (case a => k_is); (case l => k_is); (case c => k_is); (case k => k_is)
  intro gA
  refine' L2.aC "reckoned_array" Go.dJ ["op","first","second","lengths"] KX G ?a ?l ?c ?k (fun _ _ _ _ _ _ u h => match u,h with | [_,_,_,_],_ => rfl) ?_; (case a => k_is); (case l => k_is); (case c => k_is); (case k => k_is)
  intro ic
  refine' L2.aC "fold_refusal" Go.gd ["slots","k","f","axis","i"] KX G ?a ?l ?c ?k (fun _ _ _ _ _ _ u h => match u,h with | [_,_,_,_,_],_ => rfl) ?_; (case a => k_is); (case l => k_is); (case c => k_is); (case k => k_is)
  intro i4
  refine' L2.aC "call_both" Go.jw ["slots","k","op","i","j"] KX G ?a ?l ?c ?k (fun _ _ _ _ _ _ u h => match u,h with | [_,_,_,_,_],_ => rfl) ?_; (case a => k_is); (case l => k_is); (case c => k_is); (case k => k_is)
  intro nP
  refine' L2.aC "call_fold" Go.gI ["slots","k","f","axis","i"] KX G ?a ?l ?c ?k (fun _ _ _ _ _ _ u h => match u,h with | [_,_,_,_,_],_ => rfl) ?_; (case a => k_is); (case l => k_is); (case c => k_is); (case k => k_is)
  intro nq
  refine' L2.aC "call_scan" Go.gE ["slots","k","f","axis","i"] KX G ?a ?l ?c ?k (fun _ _ _ _ _ _ u h => match u,h with | [_,_,_,_,_],_ => rfl) ?_; (case a => k_is); (case l => k_is); (case c => k_is); (case k => k_is)
  intro nu
  refine' L2.aC "ordered_row" Go.dP ["row"] KX G ?a ?l ?c ?k (fun _ _ _ _ _ _ u h => match u,h with | [_],_ => rfl) ?_; (case a => k_is); (case l => k_is); (case c => k_is); (case k => k_is)
  intro kJ
  refine' L2.aC "are_below" Go.jB ["numbers","bound"] KX G ?a ?l ?c ?k (fun _ _ _ _ _ _ u h => match u,h with | [_,_],_ => rfl) ?_; (case a => k_is); (case l => k_is); (case c => k_is); (case k => k_is)
  intro nA
  refine' L2.aC "packed_cells" Go.eJ ["array","mask"] KX G ?a ?l ?c ?k (fun _ _ _ _ _ _ u h => match u,h with | [_,_],_ => rfl) ?_; (case a => k_is); (case l => k_is); (case c => k_is); (case k => k_is)
  intro i9
  refine' L2.aC "landed_cell" Go.g8 ["mode","standing","cell"] KX G ?a ?l ?c ?k (fun _ _ _ _ _ _ u h => match u,h with | [_,_,_],_ => rfl) ?_; (case a => k_is); (case l => k_is); (case c => k_is); (case k => k_is)
  intro kH
  refine' L2.aC "landed_array" Go.gi ["array","mode","numbers","landing"] KX G ?a ?l ?c ?k (fun _ _ _ _ _ _ u h => match u,h with | [_,_,_,_],_ => rfl) ?_; (case a => k_is); (case l => k_is); (case c => k_is); (case k => k_is)
  intro i5
  refine' L2.aC "call_order" Go.fT ["slots","k","axis","i"] KX G ?a ?l ?c ?k (fun _ _ _ _ _ _ u h => match u,h with | [_,_,_,_],_ => rfl) ?_; (case a => k_is); (case l => k_is); (case c => k_is); (case k => k_is)
  intro lR
  refine' L2.aC "call_pack" Go.jz ["slots","k","i","j"] KX G ?a ?l ?c ?k (fun _ _ _ _ _ _ u h => match u,h with | [_,_,_,_],_ => rfl) ?_; (case a => k_is); (case l => k_is); (case c => k_is); (case k => k_is)
  intro nQ
  refine' L2.aC "call_take" Go.gN ["slots","k","axis","i","j"] KX G ?a ?l ?c ?k (fun _ _ _ _ _ _ u h => match u,h with | [_,_,_,_,_],_ => rfl) ?_; (case a => k_is); (case l => k_is); (case c => k_is); (case k => k_is)
  intro nt
  refine' L2.aC "call_land" Go.jH ["slots","i","mode","j","l"] KX G ?a ?l ?c ?k (fun _ _ _ _ _ _ u h => match u,h with | [_,_,_,_,_],_ => rfl) ?_; (case a => k_is); (case l => k_is); (case c => k_is); (case k => k_is)
  intro nI
  refine' L2.aC "tables_fit" Go.iH ["first","second"] KX G ?a ?l ?c ?k (fun _ _ _ _ _ _ u h => match u,h with | [_,_],_ => rfl) ?_; (case a => k_is); (case l => k_is); (case c => k_is); (case k => k_is)
  intro lL
  refine' L2.aC "product_sum" Go.gS ["row","column"] KX G ?a ?l ?c ?k (fun _ _ _ _ _ _ u h => match u,h with | [_,_],_ => rfl) ?_; (case a => k_is); (case l => k_is); (case c => k_is); (case k => k_is)
  intro ki
  refine' L2.aC "multiplied_cells" Go.c9 ["first","second"] KX G ?a ?l ?c ?k (fun _ _ _ _ _ _ u h => match u,h with | [_,_],_ => rfl) ?_; (case a => k_is); (case l => k_is); (case c => k_is); (case k => k_is)
  intro fH
  refine' L2.aC "call_times" Go.iT ["slots","k","i","j"] KX G ?a ?l ?c ?k (fun _ _ _ _ _ _ u h => match u,h with | [_,_,_,_],_ => rfl) ?_; (case a => k_is); (case l => k_is); (case c => k_is); (case k => k_is)
  intro lP
  refine' L2.aC "call_same" Go.jI ["slots","i","j"] KX G ?a ?l ?c ?k (fun _ _ _ _ _ _ u h => match u,h with | [_,_,_],_ => rfl) ?_; (case a => k_is); (case l => k_is); (case c => k_is); (case k => k_is)
  intro mS
  refine' L2.aC "line_size" Go.jx ["lengths"] KX G ?a ?l ?c ?k (fun _ _ _ _ _ _ u h => match u,h with | [_],_ => rfl) ?_; (case a => k_is); (case l => k_is); (case c => k_is); (case k => k_is)
  intro nj
  refine' L2.aC "text_of" Go.ip ["array"] KX G ?a ?l ?c ?k (fun _ _ _ _ _ _ u h => match u,h with | [_],_ => rfl) ?_; (case a => k_is); (case l => k_is); (case c => k_is); (case k => k_is)
  intro qJ
  refine' L2.aC "call_text" Go.gJ ["slots","i"] KX G ?a ?l ?c ?k (fun _ _ _ _ _ _ u h => match u,h with | [_,_],_ => rfl) ?_; (case a => k_is); (case l => k_is); (case c => k_is); (case k => k_is)
  intro m8
  refine' L2.p_ (m := "upcoming") (qual := "Reader.upcoming") (st := Go.eu) (ps := ["self"]) cl_Reader ?a ?i ?l ?c ?k (fun _ _ _ _ _ _ u h => match u,h with | [_],_ => rfl) ?_; (case a => k_is); (case i => k_is); (case l => k_is); (case c => k_is); (case k => k_is)
  intro oF
  refine' L2.p_ (m := "passes") (qual := "Reader.passes") (st := Go.fC) (ps := ["self","number"]) cl_Reader ?a ?i ?l ?c ?k (fun _ _ _ _ _ _ u h => match u,h with | [_,_],_ => rfl) ?_; (case a => k_is); (case i => k_is); (case l => k_is); (case c => k_is); (case k => k_is)
  intro sN
  refine' L2.aC "next_digit" Go.iR ["reader"] KX G ?a ?l ?c ?k (fun _ _ _ _ _ _ u h => match u,h with | [_],_ => rfl) ?_; (case a => k_is); (case l => k_is); (case c => k_is); (case k => k_is)
  intro me
  refine' L2.aC "read_number" Go.gZ ["reader","least","most"] KX G ?a ?l ?c ?k (fun _ _ _ _ _ _ u h => match u,h with | [_,_,_],_ => rfl) ?_; (case a => k_is); (case l => k_is); (case c => k_is); (case k => k_is)
  intro j_
  refine' L2.aC "read_cell" Go.jJ ["reader"] KX G ?a ?l ?c ?k (fun _ _ _ _ _ _ u h => match u,h with | [_],_ => rfl) ?_; (case a => k_is); (case l => k_is); (case c => k_is); (case k => k_is)
  intro nB
  refine' L2.aC "read_lengths" Go.gb ["reader"] KX G ?a ?l ?c ?k (fun _ _ _ _ _ _ u h => match u,h with | [_],_ => rfl) ?_; (case a => k_is); (case l => k_is); (case c => k_is); (case k => k_is)
  intro ja
  refine' L2.aC "read_cells" Go.iD ["reader","lengths"] KX G ?a ?l ?c ?k (fun _ _ _ _ _ _ u h => match u,h with | [_,_],_ => rfl) ?_; (case a => k_is); (case l => k_is); (case c => k_is); (case k => k_is)
  intro li
  refine' L2.aC "read_array" Go.iX ["reader"] KX G ?a ?l ?c ?k (fun _ _ _ _ _ _ u h => match u,h with | [_],_ => rfl) ?_; (case a => k_is); (case l => k_is); (case c => k_is); (case k => k_is)
  intro lN
  refine' L2.aC "call_read" Go.jD ["slots","k","text"] KX G ?a ?l ?c ?k (fun _ _ _ _ _ _ u h => match u,h with | [_,_,_],_ => rfl) ?_; (case a => k_is); (case l => k_is); (case c => k_is); (case k => k_is)
  intro nv
  refine' L2.aC "turning_answer" Go.fb ["slots","call","wholes","rows"] KX G ?a ?l ?c ?k (fun _ _ _ _ _ _ u h => match u,h with | [_,_,_,_],_ => rfl) ?_; (case a => k_is); (case l => k_is); (case c => k_is); (case k => k_is)
  intro hZ
  refine' L2.aC "reckoning_answer" Go.d5 ["slots","call","wholes"] KX G ?a ?l ?c ?k (fun _ _ _ _ _ _ u h => match u,h with | [_,_,_],_ => rfl) ?_; (case a => k_is); (case l => k_is); (case c => k_is); (case k => k_is)
  intro fP
  refine' L2.aC "picking_answer" Go.eT ["slots","call","wholes"] KX G ?a ?l ?c ?k (fun _ _ _ _ _ _ u h => match u,h with | [_,_,_],_ => rfl) ?_; (case a => k_is); (case l => k_is); (case c => k_is); (case k => k_is)
  intro hC
  refine' L2.aC "pair_answer" Go.gY ["slots","call","wholes"] KX G ?a ?l ?c ?k (fun _ _ _ _ _ _ u h => match u,h with | [_,_,_],_ => rfl) ?_; (case a => k_is); (case l => k_is); (case c => k_is); (case k => k_is)
  intro ko
  refine' L2.aC "text_answer" Go.gR ["slots","call","wholes","rows"] KX G ?a ?l ?c ?k (fun _ _ _ _ _ _ u h => match u,h with | [_,_,_,_],_ => rfl) ?_; (case a => k_is); (case l => k_is); (case c => k_is); (case k => k_is)
  intro ka
  refine' L2.aC "call_answer" Go.g9 ["slots","call","wholes","rows"] KX G ?a ?l ?c ?k (fun _ _ _ _ _ _ u h => match u,h with | [_,_,_,_],_ => rfl) ?_; (case a => k_is); (case l => k_is); (case c => k_is); (case k => k_is)
  intro kE
  refine' L2.aC "next_answer" Go.gV ["slots","reader"] KX G ?a ?l ?c ?k (fun _ _ _ _ _ _ u h => match u,h with | [_,_],_ => rfl) ?_; (case a => k_is); (case l => k_is); (case c => k_is); (case k => k_is)
  intro kx
  refine' L2.acW (x := "answers") (qual := "answers") (st := Go.mv) (ps := ["calls"]) KX G ?a ?l ?c ?k (fun _ _ _ _ _ _ u h => match u,h with | [_],_ => rfl) ?_; (case a => k_is); (case l => k_is); (case c => k_is); (case k => k_is)
  intro f fd hf F hb
  have e : fa = f := by
   have := hmg.symm.trans hf; cases this; rfl
  subst e; refine ⟨fd,hb,fun base _ _ => w8 _ _ _ _ base _ _ _ fd T aA TF l7 pc oW m5 oN m9 uK qg p0 kl hE ib gy iB xw nh mY nD lx nr lY lD qj oO pT eB jd gB pb gw fL gx kh o9 o7 fB je nT jg nE kK jh sP qh iN sw qG lJ o8 kG nU iU ii il i7 lO nO m_ kr oG qy ke lU iu gC gA ic i4 nP nq nu kJ nA i9 kH i5 lR nQ nt nI lL ki fH lP mS nj qJ m8 oF sN me j_ nB ja li lN nv hZ fP hC ko ka kE kx F⟩
 case S =>
  intro K H xs a hO hwi hask hx
  cases hx with
  | cons h1 h2 =>
   cases h2
   cases h1 with
   | lst hs ha =>
    have e := L2.yj a.1 _ ha; subst e; exact ⟨_,a.1,rfl,hs,hask,fun H' p hp => .lst (L2.ag.of hp) (L2.x_ _)⟩
end

namespace Ma
structure bS (p : Int) (W : List Int) (X : List (List Int)) : Prop where
 ex : ∃ k m,PyYqlnca.shape p = some (k,m) /\ W.length = k /\ X.length = m
 ins : PyInside.call PyYqlnca.bound ((p :: W) :: X) = true
 ask : AyNeutral.asked1 ((p :: W) :: X) = true
def Rg (lo hi : Int) (m : Nat) (r : List Int) : Prop := (∀ z ∈ r,lo <= z /\ z <= hi) /\ r.length <= m
abbrev pf := Rg 0 4294967295 2000
abbrev aaO := Rg (-9223372036854775808) 9223372036854775807 2000
abbrev acH := Rg 0 255 15900
theorem wn {z : Int} (h : PyInside.within 0 4294967295 z = true) : ∃ n : Nat,z = n := by
 simp only [PyInside.within,Bool.and_eq_true,decide_eq_true_eq] at h; exact ⟨z.toNat,by omega⟩
theorem fJ {lo hi : Int} {m : Nat} {r : List Int} {b c : Bool} (h : (b && (decide (0 <= r.length) && decide (r.length <= m) && r.all (PyInside.within lo hi) && c)) = true) : Rg lo hi m r := by
 simp only [Bool.and_eq_true,List.all_eq_true,decide_eq_true_eq,PyInside.within] at h; exact ⟨h.2.1.2,h.2.1.1.2⟩
theorem rw2 {lo hi : Int} {m : Nat} {r : List Int} {b c d : Bool} (h : (b && (d && (decide (0 <= r.length) && decide (r.length <= m) && r.all (PyInside.within lo hi) && c))) = true) : Rg lo hi m r := by
 rw [← Bool.and_assoc] at h; exact fJ h
theorem wN {W : List Int} {r : Bool} (hl : W.length = 1) (h : (PyInside.each [(0,4294967295)] W && r) = true) : ∃ (a : Nat),W = [(a : Int)] := by
 obtain ⟨a,rfl⟩ := c8 hl; simp only [PyInside.each,Bool.and_eq_true] at h; obtain ⟨na,ea⟩ := wn h.1.1; exact ⟨na,by rw [ea]⟩
theorem wNN {W : List Int} {r : Bool} (hl : W.length = 2) (h : (PyInside.each [(0,4294967295),(0,4294967295)] W && r) = true) : ∃ (a : Nat) (b : Nat),W = [(a : Int),(b : Int)] := by
 obtain ⟨a,b,rfl⟩ := lW hl; simp only [PyInside.each,Bool.and_eq_true] at h; obtain ⟨na,ea⟩ := wn h.1.1; obtain ⟨nb,eb⟩ := wn h.1.2.1; exact ⟨na,nb,by rw [ea,eb]⟩
theorem wNZ {W : List Int} {r : Bool} (hl : W.length = 2) (h : (PyInside.each [(0,4294967295),(-9223372036854775808,9223372036854775807)] W && r) = true) : ∃ (a : Nat) (b : Int),W = [(a : Int),b] := by
 obtain ⟨a,b,rfl⟩ := lW hl; simp only [PyInside.each,Bool.and_eq_true] at h; obtain ⟨na,ea⟩ := wn h.1.1; exact ⟨na,b,by rw [ea]⟩
theorem abp {W : List Int} {r : Bool} (hl : W.length = 3) (h : (PyInside.each [(0,4294967295),(0,4294967295),(0,4294967295)] W && r) = true) : ∃ (a : Nat) (b : Nat) (c : Nat),W = [(a : Int),(b : Int),(c : Int)] := by
 obtain ⟨a,b,c,rfl⟩ := uJ hl; simp only [PyInside.each,Bool.and_eq_true] at h; obtain ⟨na,ea⟩ := wn h.1.1; obtain ⟨nb,eb⟩ := wn h.1.2.1; obtain ⟨nc,ec⟩ := wn h.1.2.2.1; exact ⟨na,nb,nc,by rw [ea,eb,ec]⟩
theorem adL {W : List Int} {r : Bool} (hl : W.length = 3) (h : (PyInside.each [(0,4294967295),(-9223372036854775808,9223372036854775807),(-9223372036854775808,9223372036854775807)] W && r) = true) : ∃ (a : Nat) (b : Int) (c : Int),W = [(a : Int),b,c] := by
 obtain ⟨a,b,c,rfl⟩ := uJ hl; simp only [PyInside.each,Bool.and_eq_true] at h; obtain ⟨na,ea⟩ := wn h.1.1; exact ⟨na,b,c,by rw [ea]⟩
theorem oQ {W : List Int} {r : Bool} (hl : W.length = 4) (h : (PyInside.each [(0,4294967295),(0,4294967295),(0,4294967295),(0,4294967295)] W && r) = true) : ∃ (a : Nat) (b : Nat) (c : Nat) (d : Nat),W = [(a : Int),(b : Int),(c : Int),(d : Int)] := by
 obtain ⟨a,b,c,d,rfl⟩ := mT hl; simp only [PyInside.each,Bool.and_eq_true] at h; obtain ⟨na,ea⟩ := wn h.1.1; obtain ⟨nb,eb⟩ := wn h.1.2.1; obtain ⟨nc,ec⟩ := wn h.1.2.2.1; obtain ⟨nd,ed⟩ := wn h.1.2.2.2.1; exact ⟨na,nb,nc,nd,by rw [ea,eb,ec,ed]⟩
theorem adA {W : List Int} {r : Bool} (hl : W.length = 4) (h : (PyInside.each [(0,4294967295),(0,4294967295),(-9223372036854775808,9223372036854775807),(0,4294967295)] W && r) = true) : ∃ (a : Nat) (b : Nat) (c : Int) (d : Nat),W = [(a : Int),(b : Int),c,(d : Int)] := by
 obtain ⟨a,b,c,d,rfl⟩ := mT hl; simp only [PyInside.each,Bool.and_eq_true] at h; obtain ⟨na,ea⟩ := wn h.1.1; obtain ⟨nb,eb⟩ := wn h.1.2.1; obtain ⟨nd,ed⟩ := wn h.1.2.2.2.1; exact ⟨na,nb,c,nd,by rw [ea,eb,ed]⟩
theorem aee {W : List Int} {X : List (List Int)} (V : bS 1 W X) : ∃ (x0 : Nat) (r0 r1 : List Int),W = [(x0 : Int)] /\ X = [r0,r1] /\ pf r0 /\ aaO r1 /\ AyNeutral.callOf ((1 :: W) :: X) = some (.make x0 (AyNeutral.nats r0) r1) := by
 obtain ⟨⟨k,m,hsh,hW,hX⟩,hi,_⟩ := V; cases hsh; obtain ⟨x0,rfl⟩ := wN hW hi; obtain ⟨r0,r1,rfl⟩ := lW hX; exact ⟨x0,r0,r1,rfl,rfl,fJ hi,rw2 hi,rfl⟩
theorem ad5 {W : List Int} {X : List (List Int)} (V : bS 2 W X) : ∃ (x0 : Nat) (x1 : Int) (r0 : List Int),W = [(x0 : Int),x1] /\ X = [r0] /\ pf r0 /\ AyNeutral.callOf ((2 :: W) :: X) = some (.fill x0 x1 (AyNeutral.nats r0)) := by
 obtain ⟨⟨k,m,hsh,hW,hX⟩,hi,_⟩ := V; cases hsh; obtain ⟨x0,x1,rfl⟩ := wNZ hW hi; obtain ⟨r0,rfl⟩ := c8 hX; exact ⟨x0,x1,r0,rfl,rfl,fJ hi,rfl⟩
theorem adF {W : List Int} {X : List (List Int)} (V : bS 3 W X) : ∃ (x0 : Nat) (x1 : Int) (x2 : Int) (r0 : List Int),W = [(x0 : Int),x1,x2] /\ X = [r0] /\ pf r0 /\ AyNeutral.callOf ((3 :: W) :: X) = some (.count x0 x1 x2 (AyNeutral.nats r0)) := by
 obtain ⟨⟨k,m,hsh,hW,hX⟩,hi,_⟩ := V; cases hsh; obtain ⟨x0,x1,x2,rfl⟩ := adL hW hi; obtain ⟨r0,rfl⟩ := c8 hX; exact ⟨x0,x1,x2,r0,rfl,rfl,fJ hi,rfl⟩
theorem aec {W : List Int} {X : List (List Int)} (V : bS 4 W X) : ∃ (x0 : Nat),W = [(x0 : Int)] /\ X = [] /\ AyNeutral.callOf ((4 :: W) :: X) = some (.drop x0) := by
 obtain ⟨⟨k,m,hsh,hW,hX⟩,hi,_⟩ := V; cases hsh; obtain ⟨x0,rfl⟩ := wN hW hi; cases cf hX; exact ⟨x0,rfl,rfl,rfl⟩
theorem ad0 {W : List Int} {X : List (List Int)} (V : bS 5 W X) : ∃ (x0 : Nat),W = [(x0 : Int)] /\ X = [] /\ AyNeutral.callOf ((5 :: W) :: X) = some (.shape x0) := by
 obtain ⟨⟨k,m,hsh,hW,hX⟩,hi,_⟩ := V; cases hsh; obtain ⟨x0,rfl⟩ := wN hW hi; cases cf hX; exact ⟨x0,rfl,rfl,rfl⟩
theorem aeb {W : List Int} {X : List (List Int)} (V : bS 6 W X) : ∃ (x0 : Nat),W = [(x0 : Int)] /\ X = [] /\ AyNeutral.callOf ((6 :: W) :: X) = some (.cells x0) := by
 obtain ⟨⟨k,m,hsh,hW,hX⟩,hi,_⟩ := V; cases hsh; obtain ⟨x0,rfl⟩ := wN hW hi; cases cf hX; exact ⟨x0,rfl,rfl,rfl⟩
theorem adO {W : List Int} {X : List (List Int)} (V : bS 7 W X) : ∃ (x0 : Nat) (r0 : List Int),W = [(x0 : Int)] /\ X = [r0] /\ pf r0 /\ AyNeutral.callOf ((7 :: W) :: X) = some (.at_ x0 (AyNeutral.nats r0)) := by
 obtain ⟨⟨k,m,hsh,hW,hX⟩,hi,_⟩ := V; cases hsh; obtain ⟨x0,rfl⟩ := wN hW hi; obtain ⟨r0,rfl⟩ := c8 hX; exact ⟨x0,r0,rfl,rfl,fJ hi,rfl⟩
theorem ad7 {W : List Int} {X : List (List Int)} (V : bS 8 W X) : ∃ (x0 : Nat) (x1 : Int) (r0 : List Int),W = [(x0 : Int),x1] /\ X = [r0] /\ pf r0 /\ AyNeutral.callOf ((8 :: W) :: X) = some (.set x0 x1 (AyNeutral.nats r0)) := by
 obtain ⟨⟨k,m,hsh,hW,hX⟩,hi,_⟩ := V; cases hsh; obtain ⟨x0,x1,rfl⟩ := wNZ hW hi; obtain ⟨r0,rfl⟩ := c8 hX; exact ⟨x0,x1,r0,rfl,rfl,fJ hi,rfl⟩
theorem adV {W : List Int} {X : List (List Int)} (V : bS 9 W X) : ∃ (x0 : Nat) (x1 : Nat) (r0 : List Int),W = [(x0 : Int),(x1 : Int)] /\ X = [r0] /\ pf r0 /\ AyNeutral.callOf ((9 :: W) :: X) = some (.spread x0 x1 (AyNeutral.nats r0)) := by
 obtain ⟨⟨k,m,hsh,hW,hX⟩,hi,_⟩ := V; cases hsh; obtain ⟨x0,x1,rfl⟩ := wNN hW hi; obtain ⟨r0,rfl⟩ := c8 hX; exact ⟨x0,x1,r0,rfl,rfl,fJ hi,rfl⟩
theorem adh {W : List Int} {X : List (List Int)} (V : bS 10 W X) : ∃ (x0 : Nat) (x1 : Nat) (r0 : List Int),W = [(x0 : Int),(x1 : Int)] /\ X = [r0] /\ aaO r0 /\ AyNeutral.callOf ((10 :: W) :: X) = some (.cut x0 x1 r0) := by
 obtain ⟨⟨k,m,hsh,hW,hX⟩,hi,_⟩ := V; cases hsh; obtain ⟨x0,x1,rfl⟩ := wNN hW hi; obtain ⟨r0,rfl⟩ := c8 hX; exact ⟨x0,x1,r0,rfl,rfl,fJ hi,rfl⟩
theorem adx {W : List Int} {X : List (List Int)} (V : bS 11 W X) : ∃ (x0 : Nat) (x1 : Nat) (r0 : List Int),W = [(x0 : Int),(x1 : Int)] /\ X = [r0] /\ aaO r0 /\ AyNeutral.callOf ((11 :: W) :: X) = some (.put x0 x1 r0) := by
 obtain ⟨⟨k,m,hsh,hW,hX⟩,hi,_⟩ := V; cases hsh; obtain ⟨x0,x1,rfl⟩ := wNN hW hi; obtain ⟨r0,rfl⟩ := c8 hX; exact ⟨x0,x1,r0,rfl,rfl,fJ hi,rfl⟩
theorem adk {W : List Int} {X : List (List Int)} (V : bS 12 W X) : ∃ (x0 : Nat) (x1 : Nat) (r0 : List Int),W = [(x0 : Int),(x1 : Int)] /\ X = [r0] /\ pf r0 /\ AyNeutral.callOf ((12 :: W) :: X) = some (.turn x0 x1 (AyNeutral.nats r0)) := by
 obtain ⟨⟨k,m,hsh,hW,hX⟩,hi,_⟩ := V; cases hsh; obtain ⟨x0,x1,rfl⟩ := wNN hW hi; obtain ⟨r0,rfl⟩ := c8 hX; exact ⟨x0,x1,r0,rfl,rfl,fJ hi,rfl⟩
theorem adq {W : List Int} {X : List (List Int)} (V : bS 13 W X) : ∃ (x0 : Nat) (x1 : Nat) (x2 : Nat) (x3 : Nat),W = [(x0 : Int),(x1 : Int),(x2 : Int),(x3 : Int)] /\ X = [] /\ AyNeutral.callOf ((13 :: W) :: X) = some (.join x0 x1 x2 x3) := by
 obtain ⟨⟨k,m,hsh,hW,hX⟩,hi,_⟩ := V; cases hsh; obtain ⟨x0,x1,x2,x3,rfl⟩ := oQ hW hi; cases cf hX; exact ⟨x0,x1,x2,x3,rfl,rfl,rfl⟩
theorem adl {W : List Int} {X : List (List Int)} (V : bS 14 W X) : ∃ (x0 : Nat) (x1 : Nat) (x2 : Int) (x3 : Nat),W = [(x0 : Int),(x1 : Int),x2,(x3 : Int)] /\ X = [] /\ AyNeutral.callOf ((14 :: W) :: X) = some (.roll x0 x1 x2 x3) := by
 obtain ⟨⟨k,m,hsh,hW,hX⟩,hi,_⟩ := V; cases hsh; obtain ⟨x0,x1,x2,x3,rfl⟩ := adA hW hi; cases cf hX; exact ⟨x0,x1,x2,x3,rfl,rfl,rfl⟩
theorem ac1 {W : List Int} {X : List (List Int)} (V : bS 15 W X) : ∃ (x0 : Nat) (x1 : Nat) (x2 : Nat) (x3 : Nat),W = [(x0 : Int),(x1 : Int),(x2 : Int),(x3 : Int)] /\ X = [] /\ AyNeutral.callOf ((15 :: W) :: X) = some (.repeat_ x0 x1 x2 x3) := by
 obtain ⟨⟨k,m,hsh,hW,hX⟩,hi,_⟩ := V; cases hsh; obtain ⟨x0,x1,x2,x3,rfl⟩ := oQ hW hi; cases cf hX; exact ⟨x0,x1,x2,x3,rfl,rfl,rfl⟩
theorem adi {W : List Int} {X : List (List Int)} (V : bS 16 W X) : ∃ (x0 : Nat) (x1 : Nat) (x2 : Nat) (x3 : Nat),W = [(x0 : Int),(x1 : Int),(x2 : Int),(x3 : Int)] /\ X = [] /\ AyNeutral.callOf ((16 :: W) :: X) = some (.both x0 x1 x2 x3) := by
 obtain ⟨⟨k,m,hsh,hW,hX⟩,hi,_⟩ := V; cases hsh; obtain ⟨x0,x1,x2,x3,rfl⟩ := oQ hW hi; cases cf hX; exact ⟨x0,x1,x2,x3,rfl,rfl,rfl⟩
theorem add {W : List Int} {X : List (List Int)} (V : bS 17 W X) : ∃ (x0 : Nat) (x1 : Nat) (x2 : Nat) (x3 : Nat),W = [(x0 : Int),(x1 : Int),(x2 : Int),(x3 : Int)] /\ X = [] /\ AyNeutral.callOf ((17 :: W) :: X) = some (.fold x0 x1 x2 x3) := by
 obtain ⟨⟨k,m,hsh,hW,hX⟩,hi,_⟩ := V; cases hsh; obtain ⟨x0,x1,x2,x3,rfl⟩ := oQ hW hi; cases cf hX; exact ⟨x0,x1,x2,x3,rfl,rfl,rfl⟩
theorem adm {W : List Int} {X : List (List Int)} (V : bS 18 W X) : ∃ (x0 : Nat) (x1 : Nat) (x2 : Nat) (x3 : Nat),W = [(x0 : Int),(x1 : Int),(x2 : Int),(x3 : Int)] /\ X = [] /\ AyNeutral.callOf ((18 :: W) :: X) = some (.scan x0 x1 x2 x3) := by
 obtain ⟨⟨k,m,hsh,hW,hX⟩,hi,_⟩ := V; cases hsh; obtain ⟨x0,x1,x2,x3,rfl⟩ := oQ hW hi; cases cf hX; exact ⟨x0,x1,x2,x3,rfl,rfl,rfl⟩
theorem ac5 {W : List Int} {X : List (List Int)} (V : bS 19 W X) : ∃ (x0 : Nat) (x1 : Nat) (x2 : Nat),W = [(x0 : Int),(x1 : Int),(x2 : Int)] /\ X = [] /\ AyNeutral.callOf ((19 :: W) :: X) = some (.order x0 x1 x2) := by
 obtain ⟨⟨k,m,hsh,hW,hX⟩,hi,_⟩ := V; cases hsh; obtain ⟨x0,x1,x2,rfl⟩ := abp hW hi; cases cf hX; exact ⟨x0,x1,x2,rfl,rfl,rfl⟩
theorem ada {W : List Int} {X : List (List Int)} (V : bS 20 W X) : ∃ (x0 : Nat) (x1 : Nat) (x2 : Nat) (x3 : Nat),W = [(x0 : Int),(x1 : Int),(x2 : Int),(x3 : Int)] /\ X = [] /\ AyNeutral.callOf ((20 :: W) :: X) = some (.take x0 x1 x2 x3) := by
 obtain ⟨⟨k,m,hsh,hW,hX⟩,hi,_⟩ := V; cases hsh; obtain ⟨x0,x1,x2,x3,rfl⟩ := oQ hW hi; cases cf hX; exact ⟨x0,x1,x2,x3,rfl,rfl,rfl⟩
theorem ac4 {W : List Int} {X : List (List Int)} (V : bS 21 W X) : ∃ (x0 : Nat) (x1 : Nat) (x2 : Nat),W = [(x0 : Int),(x1 : Int),(x2 : Int)] /\ X = [] /\ AyNeutral.callOf ((21 :: W) :: X) = some (.pack x0 x1 x2) := by
 obtain ⟨⟨k,m,hsh,hW,hX⟩,hi,_⟩ := V; cases hsh; obtain ⟨x0,x1,x2,rfl⟩ := abp hW hi; cases cf hX; exact ⟨x0,x1,x2,rfl,rfl,rfl⟩
theorem ado {W : List Int} {X : List (List Int)} (V : bS 22 W X) : ∃ (x0 : Nat) (x1 : Nat) (x2 : Nat) (x3 : Nat),W = [(x0 : Int),(x1 : Int),(x2 : Int),(x3 : Int)] /\ X = [] /\ AyNeutral.callOf ((22 :: W) :: X) = some (.land x0 x1 x2 x3) := by
 obtain ⟨⟨k,m,hsh,hW,hX⟩,hi,_⟩ := V; cases hsh; obtain ⟨x0,x1,x2,x3,rfl⟩ := oQ hW hi; cases cf hX; exact ⟨x0,x1,x2,x3,rfl,rfl,rfl⟩
theorem adw {W : List Int} {X : List (List Int)} (V : bS 23 W X) : ∃ (x0 : Nat) (x1 : Nat) (x2 : Nat),W = [(x0 : Int),(x1 : Int),(x2 : Int)] /\ X = [] /\ AyNeutral.callOf ((23 :: W) :: X) = some (.times x0 x1 x2) := by
 obtain ⟨⟨k,m,hsh,hW,hX⟩,hi,_⟩ := V; cases hsh; obtain ⟨x0,x1,x2,rfl⟩ := abp hW hi; cases cf hX; exact ⟨x0,x1,x2,rfl,rfl,rfl⟩
theorem acY {W : List Int} {X : List (List Int)} (V : bS 24 W X) : ∃ (x0 : Nat) (x1 : Nat),W = [(x0 : Int),(x1 : Int)] /\ X = [] /\ AyNeutral.callOf ((24 :: W) :: X) = some (.same x0 x1) := by
 obtain ⟨⟨k,m,hsh,hW,hX⟩,hi,_⟩ := V; cases hsh; obtain ⟨x0,x1,rfl⟩ := wNN hW hi; cases cf hX; exact ⟨x0,x1,rfl,rfl,rfl⟩
theorem adb {W : List Int} {X : List (List Int)} (V : bS 25 W X) : ∃ (x0 : Nat),W = [(x0 : Int)] /\ X = [] /\ AyNeutral.callOf ((25 :: W) :: X) = some (.text x0) := by
 obtain ⟨⟨k,m,hsh,hW,hX⟩,hi,_⟩ := V; cases hsh; obtain ⟨x0,rfl⟩ := wN hW hi; cases cf hX; exact ⟨x0,rfl,rfl,rfl⟩
theorem ads {W : List Int} {X : List (List Int)} (V : bS 26 W X) : ∃ (x0 : Nat) (r0 : List Int),W = [(x0 : Int)] /\ X = [r0] /\ acH r0 /\ AyNeutral.callOf ((26 :: W) :: X) = some (.read x0 (AyNeutral.nats r0)) := by
 obtain ⟨⟨k,m,hsh,hW,hX⟩,hi,_⟩ := V; cases hsh; obtain ⟨x0,rfl⟩ := wN hW hi; obtain ⟨r0,rfl⟩ := c8 hX; exact ⟨x0,r0,rfl,rfl,fJ hi,rfl⟩
end Ma

namespace Ma
open Ad
theorem allOf_map {α : Type} : ∀ {l : List (Option α)} {r : List α},allOf l = some r ↔ l = r.map some
 | [],r => by
  constructor
  ·intro h; have : r = [] := (Option.some.inj h).symm; rw [this]; rfl
  ·intro h
   cases r with
   | nil => rfl
   | cons _ _ => cases h
 | none :: l,r => by
  constructor
  ·intro h; cases h
  ·intro h
   cases r with
   | nil => cases h
   | cons _ _ => cases h
 | some x :: l,r => by
  have ih : ∀ {r : List α},allOf l = some r ↔ l = r.map some := allOf_map; show (allOf l).map (fun r => x :: r) = some r ↔ _
  constructor
  ·intro h
   cases e : allOf l with
   | none => rw [e] at h; cases h
   | some q =>
    rw [e] at h; have : x :: q = r := Option.some.inj h; rw [← this,List.map_cons,ih.mp e]
  ·intro h
   cases r with
   | nil => cases h
   | cons y q =>
    have h1 := List.cons.inj h; have h2 : x = y := Option.some.inj h1.1; rw [ih.mpr h1.2,h2]; rfl
theorem gl {α : Type} : ∀ {l : List (Option α)},none ∈ l -> allOf l = none
 | none :: l,_ => rfl
 | some x :: l,h => by
  have h2 : none ∈ l := by
   rcases List.mem_cons.mp h with e | e
   ·cases e
   ·exact e
  show (allOf l).map (fun r => x :: r) = none; rw [gl h2]; rfl
theorem mr {α : Type} {l : List (Option α)} (h : none ∉ l) : ∃ r,allOf l = some r := by
 cases e : allOf l with
 | some r => exact ⟨r,rfl⟩
 | none =>
  exfalso
  induction l with
  | nil => cases e
  | cons x l ih =>
   cases x with
   | none => exact h (List.mem_cons_self ..)
   | some x =>
    have e2 : (allOf l).map (fun r => x :: r) = none := e
    cases e3 : allOf l with
    | none => exact ih (fun z => h (List.mem_cons_of_mem _ z)) e3
    | some r => rw [e3] at e2; cases e2
theorem uL {op : Nat} {x y z : Int} (h : opOf op x y = some z) : cellFine z = true := by
 unfold opOf at h; simp only at h; obtain ⟨r,_,hr⟩ := Option.bind_eq_some_iff.mp h
 split at hr
 ·cases hr
  assumption
 ·cases hr
theorem kP : ∀ {s p : List Nat},In s p -> placeOf s (cellOf s p) = p
 | [],[],_ => rfl
 | x :: l,i :: p,h => by
  have hlt := In.lt h.2; have hp : 0 < product_ l := by omega
  show (i * product_ l + cellOf l p) / product_ l :: placeOf l ((i * product_ l + cellOf l p) % product_ l) = i :: p; rw [Nat.mul_comm i,Nat.mul_add_div hp,Nat.div_eq_of_lt hlt,Nat.add_zero,Nat.mul_add_mod,Nat.mod_eq_of_lt hlt,kP h.2]
 | [],_ :: _,h => h.elim
 | _ :: _,[],h => h.elim
theorem uq : ∀ {s : List Nat} {c : Nat},c < product_ s -> cellOf s (placeOf s c) = c
 | [],c,h => by
  have : c < 1 := h; show 0 = c; omega
 | x :: l,c,h => by
  rw [bL] at h
  have hp : 0 < product_ l := by
   cases hz : product_ l with
   | zero => rw [hz] at h; simp at h
   | succ n => omega
  show c / product_ l * product_ l + cellOf l (placeOf l (c % product_ l)) = c; rw [uq (Nat.mod_lt _ hp),Nat.mul_comm]; exact Nat.div_add_mod c _
theorem In.put {s p : List Nat} {x : Nat} (h : In s p) (hx : x < s.length) {i : Nat} (hi : i < along s x) : In s (p.set x i) := by
 have h2 : In (s.set x (along s x)) p := by rw [fN (by rw [List.getElem?_eq_getElem hx,bK (List.getElem?_eq_getElem hx)])]; exact h
 have := In.set h2 hx (m := along s x) i hi; rw [fN (by rw [List.getElem?_eq_getElem hx,bK (List.getElem?_eq_getElem hx)])] at this; exact this
theorem In.erase : ∀ {s p : List Nat} {x : Nat},In s p -> In (s.eraseIdx x) (p.eraseIdx x)
 | [],[],_,_ => trivial
 | _ :: _,_ :: _,0,h => h.2
 | _ :: _,_ :: _,x + 1,h => ⟨h.1,In.erase h.2⟩
 | [],_ :: _,_,h => h.elim
 | _ :: _,[],_,h => h.elim
theorem In.fill : ∀ {s q : List Nat} {x : Nat},In (s.eraseIdx x) q -> x < s.length -> ∀ {i : Nat},i < along s x -> In s (q.take x ++ i :: q.drop x)
 | a :: s,q,0,h,_,i,hi => ⟨hi,h⟩
 | a :: s,[],x + 1,h,hx,i,hi => h.elim
 | a :: s,b :: q,x + 1,h,hx,i,hi => ⟨h.1,In.fill h.2 (by simpa using hx) hi⟩
 | [],_,_,_,hx,_,_ => by simp at hx
theorem sY (q : List Nat) (x i : Nat) (h : x <= q.length) : (filledIn x q).set x i = q.take x ++ i :: q.drop x := by
 unfold filledIn; have e := List.set_append_right (s := q.take x) (t := 0 :: q.drop x) x i (by rw [List.length_take]; omega); rw [e,List.length_take,Nat.min_eq_left h,Nat.sub_self]; rfl
theorem pj : ∀ {p : List Nat} {x : Nat},x < p.length -> filledIn x (p.eraseIdx x) = p.set x 0
 | _ :: _,0,_ => rfl
 | a :: p,x + 1,h => by
  have := pj (p := p) (x := x) (by simpa using h); unfold filledIn at this ⊢; show a :: ((p.eraseIdx x).take x ++ 0 :: (p.eraseIdx x).drop x) = a :: p.set x 0; rw [this]
theorem da (a : Arr) (x : Nat) (p : List Nat) : (rowAt a x p).length = along a.shape x := by
 unfold rowAt; rw [List.length_map,List.length_range]
theorem om {a : Arr} {x : Nat} {p : List Nat} {i : Nat} (h : i < along a.shape x) : (rowAt a x p)[i]? = some (a.at_ (p.set x i)) := by
 unfold rowAt; rw [List.getElem?_map,List.getElem?_range h]; rfl
theorem yu (a : Arr) (x : Nat) (p : List Nat) (j : Nat) : rowAt a x (p.set x j) = rowAt a x p := by
 unfold rowAt; apply List.map_congr_left; intro i _; rw [List.set_set]
theorem gu {a : Arr} {x c : Nat} (h : c < product_ (removed a.shape x)) : (rowsBy x a)[c]? = some (rowAt a x (filledIn x (placeOf (removed a.shape x) c))) := by
 unfold rowsBy; simp only; rw [List.getElem?_map,List.getElem?_range h]; rfl
theorem z6 {a : Arr} {x : Nat} {p : List Nat} (hp : In a.shape p) (hx : x < a.shape.length) : (rowsBy x a)[cellOf (removed a.shape x) (p.eraseIdx x)]? = some (rowAt a x p) := by
 have h1 : In (removed a.shape x) (p.eraseIdx x) := hp.erase; rw [gu h1.lt,kP h1,pj (by rw [hp.len]; exact hx),yu]
theorem ly : ∀ {l : List (Nat × Nat)} {s : List Nat},meetEach l = some s -> s.length = l.length
 | [],s,h => by
  have : s = [] := (Option.some.inj h).symm; rw [this]; rfl
 | x :: l,s,h => by
  rw [meetEach] at h; obtain ⟨r,h1,h2⟩ := Option.bind_eq_some_iff.mp h; have := ly h1
  split at h2
  ·cases h2; simp [this]
  ·split at h2
   ·cases h2; simp [this]
   ·split at h2
    ·cases h2; simp [this]
    ·cases h2
theorem iO : ∀ {l : List (Nat × Nat)} {s : List Nat},meetEach l = some s -> ∀ {i x y z : Nat},l[i]? = some (x,y) -> s[i]? = some z -> (z = x \/ x = 1) /\ (z = y \/ y = 1) /\ (z = x \/ z = y)
 | [],s,h,i,x,y,z,hx,hz => by simp at hx
 | q :: l,s,h,i,x,y,z,hx,hz => by
  rw [meetEach] at h; obtain ⟨r,h1,h2⟩ := Option.bind_eq_some_iff.mp h
  cases i with
  | zero =>
   have e : q = (x,y) := Option.some.inj hx; subst e; simp only at h2
   split at h2
   ·cases h2; cases hz; rename_i e; exact ⟨.inl rfl,.inl e,.inl rfl⟩
   ·split at h2
    ·cases h2; cases hz; rename_i e; exact ⟨.inr e,.inl rfl,.inr rfl⟩
    ·split at h2
     ·cases h2; cases hz; rename_i e; exact ⟨.inl rfl,.inr e,.inl rfl⟩
     ·cases h2
  | succ i =>
   have hz2 : r[i]? = some z := by
    split at h2
    ·cases h2; exact hz
    ·split at h2
     ·cases h2; exact hz
     ·split at h2
      ·cases h2; exact hz
      ·cases h2
   exact iO h1 (i := i) hx hz2
theorem dW {r : Nat} {l : List Nat} (h : l.length <= r) : (padded r l).length = r := by
 unfold padded; rw [List.length_append,List.length_replicate]; omega
theorem tz {r : Nat} {l : List Nat} {j x : Nat} (h : l[j]? = some x) : (padded r l)[r - l.length + j]? = some x := by
 unfold padded; rw [List.getElem?_append_right (by simp)]
 simpa using h
theorem abu {a b s : List Nat} (h : meet a b = some s) : s.length = max a.length b.length := by
 have := ly h; rw [this,List.length_zip,dW (Nat.le_max_left ..),dW (Nat.le_max_right ..)]; omega
theorem wM {a b s : List Nat} (h : meet a b = some s) : spreads a s = true /\ spreads b s = true := by
 have hl := abu h
 constructor
 ·refine spreads_iff.mpr ⟨by omega,fun j x z hx hz => ?_⟩; rw [List.getElem?_drop] at hz; have h1 := tz (r := max a.length b.length) hx; have hj := (List.getElem?_eq_some_iff.mp h1).1; rw [dW (Nat.le_max_left ..)] at hj; have h2 : (padded (max a.length b.length) b)[max a.length b.length - a.length + j]? = some _ := List.getElem?_eq_getElem (by rw [dW (Nat.le_max_right ..)]; exact hj); have h3 := iO h (List.getElem?_zip_eq_some (z := (x,_)) |>.mpr ⟨h1,h2⟩) (by rw [hl] at hz; exact hz)
  rcases h3.1 with e | e
  ·exact .inl e.symm
  ·exact .inr e
 ·refine spreads_iff.mpr ⟨by omega,fun j x z hx hz => ?_⟩; rw [List.getElem?_drop] at hz; have h1 := tz (r := max a.length b.length) hx; have hj := (List.getElem?_eq_some_iff.mp h1).1; rw [dW (Nat.le_max_right ..)] at hj; have h2 : (padded (max a.length b.length) a)[max a.length b.length - b.length + j]? = some _ := List.getElem?_eq_getElem (by rw [dW (Nat.le_max_left ..)]; exact hj); have h3 := iO h (List.getElem?_zip_eq_some (z := (_,x)) |>.mpr ⟨h2,h1⟩) (by rw [hl] at hz; exact hz)
  rcases h3.2.1 with e | e
  ·exact .inl e.symm
  ·exact .inr e
end Ma

namespace Ma
open Ad
def tE (a b : Int × Nat) : Prop := a.1 < b.1 \/ (a.1 = b.1 /\ a.2 < b.2)
theorem yD {α : Type} {R : α -> α -> Prop} (asym : ∀ {a b},R a b -> R b a -> False) : ∀ {a b : List α},a.Perm b -> a.Pairwise R -> b.Pairwise R -> a = b
 | [],b,h,_,_ => by rw [h.nil_eq]
 | x :: a,[],h,_,_ => by
  have := h.length_eq; simp at this
 | x :: a,y :: b,h,h1,h2 => by
  have hx : x ∈ y :: b := h.mem_iff.mp (List.mem_cons_self ..); have hy : y ∈ x :: a := h.mem_iff.mpr (List.mem_cons_self ..); have h1' := List.pairwise_cons.mp h1; have h2' := List.pairwise_cons.mp h2
  have e : x = y := by
   rcases List.mem_cons.mp hx with e | hx
   ·exact e
   ·rcases List.mem_cons.mp hy with e | hy
    ·exact e.symm
    ·exact (asym (h1'.1 y hy) (h2'.1 x hx)).elim
  subst e; rw [yD asym (h.cons_inv) h1'.2 h2'.2]
theorem sD (x : Int × Nat) : ∀ r : List (Int × Nat),(putOrder x r).Perm (x :: r)
 | [] => .refl _
 | y :: r => by
  rw [putOrder]
  split
  ·exact .refl _
  ·exact ((sD x r).cons y).trans (.swap x y r)
theorem uc {x : Int × Nat} : ∀ {r : List (Int × Nat)},r.Pairwise tE -> (∀ y ∈ r,y.2 < x.2) -> (putOrder x r).Pairwise tE
 | [],_,_ => by
  rw [putOrder]; exact List.pairwise_singleton ..
 | y :: r,h,hx => by
  rw [putOrder]; have h' := List.pairwise_cons.mp h
  split
  ·rename_i hlt; refine List.pairwise_cons.mpr ⟨fun z hz => ?_,h⟩
   rcases List.mem_cons.mp hz with e | hz
   ·subst e; exact .inl hlt
   ·rcases h'.1 z hz with q | q
    ·exact .inl (by omega)
    ·exact .inl (by omega)
  ·rename_i hlt; refine List.pairwise_cons.mpr ⟨fun z hz => ?_,uc h'.2 fun z hz => hx z (List.mem_cons_of_mem _ hz)⟩
   rcases List.mem_cons.mp ((sD x r).mem_iff.mp hz) with e | hz
   ·subst e; have := hx y (List.mem_cons_self ..); unfold tE; omega
   ·exact h'.1 z hz
theorem ue : ∀ (l r : List (Int × Nat)),r.Pairwise tE -> l.Pairwise (fun a b => a.2 < b.2) -> (∀ y ∈ r,∀ x ∈ l,y.2 < x.2) →
  (l.foldl (fun r x => putOrder x r) r).Pairwise tE /\ (l.foldl (fun r x => putOrder x r) r).Perm (r ++ l)
 | [],r,h,_,_ => ⟨h,by rw [List.append_nil]; exact .refl _⟩
 | x :: l,r,h,hl,hx => by
  have hl' := List.pairwise_cons.mp hl; have hp := sD x r
  have ih := ue l (putOrder x r) (uc h fun y hy => hx y hy x (List.mem_cons_self ..)) hl'.2 fun y hy z hz => by
   rcases List.mem_cons.mp (hp.mem_iff.mp hy) with e | hy
   ·subst e; exact hl'.1 z hz
   ·exact hx y hy z (List.mem_cons_of_mem _ hz)
  refine ⟨ih.1,ih.2.trans ?_⟩; exact (hp.append_right l).trans (List.perm_middle.symm)
def fg (l : List Int) (o : List Nat) : List (Int × Nat) := o.map fun i => (l.getD i 0,i)
theorem zQ (l : List Int) : l.zipIdx = fg l (List.range l.length) := by
 unfold fg; apply List.ext_getElem?; intro i
 by_cases hi : i < l.length
 ·rw [List.getElem?_zipIdx,List.getElem?_map,List.getElem?_range hi,List.getElem?_eq_getElem hi]; simp [List.getD_eq_getElem?_getD,hi]
 ·rw [List.getElem?_eq_none (by simp; omega),List.getElem?_eq_none (by simp; omega)]
theorem p7 (l : List Int) (o : List Nat) : (fg l o).map (·.2) = o := by
 unfold fg; rw [List.map_map]; exact List.map_id _
theorem pd (l : List Int) : (orderOf l).Perm (List.range l.length) /\ (fg l (orderOf l)).Pairwise tE := by
 have hs : (fg l (List.range l.length)).Pairwise (fun a b => a.2 < b.2) := by
  unfold fg; rw [List.pairwise_map]; exact List.pairwise_lt_range
 have h := ue (fg l (List.range l.length)) [] .nil hs (fun y hy => by cases hy); rw [List.nil_append] at h; unfold orderOf; rw [zQ]; generalize List.foldl (fun r x => putOrder x r) [] (fg l (List.range l.length)) = r at h
 have hp : (r.map (·.2)).Perm (List.range l.length) := by
  have := h.2.map (·.2); rw [p7] at this; exact this
 refine ⟨hp,?_⟩
 have e : fg l (r.map (·.2)) = r := by
  unfold fg; rw [List.map_map]
  have : ∀ x ∈ r,((fun i => (l.getD i 0,i)) ∘ (·.2)) x = x := fun x hx => by
   obtain ⟨i,_,e⟩ := List.mem_map.mp (h.2.mem_iff.mp hx); rw [← e]; rfl
  rw [List.map_congr_left this,List.map_id']
 rw [e]; exact h.1
theorem zG {l : List Int} {o : List Nat} (hp : o.Perm (List.range l.length)) (hs : (fg l o).Pairwise tE) : o = orderOf l := by
 obtain ⟨h1,h2⟩ := pd l; have h3 : (fg l o).Perm (fg l (orderOf l)) := (hp.trans h1.symm).map _; have := yD (R := tE) (fun {a b} h h' => by unfold tE at h h'; omega) h3 hs h2; have := congrArg (List.map (·.2)) this
 rwa [p7,p7] at this
theorem qi (l : List Int) : (orderOf l).length = l.length := by
 rw [(pd l).1.length_eq,List.length_range]
theorem pJ : ∀ d : Nat,d < 10 -> (Nat.digitChar d).toNat = 48 + d := by decide
theorem zO {n : Nat} (h : n < 10) : decNat n = [48 + n] := by
 unfold decNat; rw [Nat.toDigits_of_lt_base h]; rw [List.map_cons,List.map_nil,pJ n h]
theorem aa2 {n : Nat} (h : 10 <= n) : decNat n = decNat (n / 10) ++ [48 + n % 10] := by
 unfold decNat; rw [Nat.toDigits_eq_if (by decide),if_neg (by omega),List.map_append,List.map_cons,List.map_nil,pJ _ (Nat.mod_lt _ (by decide))]
end Ma

namespace Ma
open Ad
theorem ma {α : Type} (l : List α) (x : Nat) : l.take x ++ l.drop (x + 1) = l.eraseIdx x := (List.eraseIdx_eq_take_drop_succ l x).symm
theorem vc {α β : Type} (f : α -> β) (l : List α) (x : Nat) : (l.map f).eraseIdx x = (l.eraseIdx x).map f := by
 rw [← ma,← ma,List.map_append,List.map_take,List.map_drop]
theorem mw {α : Type} : ∀ (l : List α) (x : Nat) (v : α),x < l.length -> (l.eraseIdx x).take x ++ v :: (l.eraseIdx x).drop x = l.set x v
 | _ :: _,0,_,_ => rfl
 | a :: l,x + 1,v,h => by
  show a :: ((l.eraseIdx x).take x ++ v :: (l.eraseIdx x).drop x) = a :: l.set x v; rw [mw l x v (by simpa using h)]
 | [],_,_,h => by simp at h
theorem mx {α : Type} : ∀ (l : List α) (x : Nat) (v : α),(l.set x v).eraseIdx x = l.eraseIdx x
 | [],_,_ => rfl
 | _ :: _,0,_ => rfl
 | a :: l,x + 1,v => by
  show a :: (l.set x v).eraseIdx x = a :: l.eraseIdx x; rw [mx]
theorem mE {s : List Nat} {x n : Nat} (h : x < s.length) : along (s.set x n) x = n := bK (List.getElem?_set_self h)
theorem kQ {x : Nat} {a b : List Nat} (hx : x < a.length) : joinOk x a b = true ↔ a.length = b.length /\ a.eraseIdx x = b.eraseIdx x := by
 rw [wv hx]
 constructor
 ·rintro ⟨h1,h2⟩; refine ⟨h1,?_⟩; rw [← h2,mx]
 ·rintro ⟨h1,h2⟩; refine ⟨h1,?_⟩
  have h3 : b[x]? = some (along b x) := by
   have h2 : b[x]? = some (b[x]'(by omega)) := List.getElem?_eq_getElem _; rw [bK h2]; exact h2
  rw [← mw a x _ hx,h2,mw b x _ (by omega),fN h3]
theorem zE {a : Arr} {x : Nat} {p : List Nat} (h1 : In (removed a.shape x) (p.eraseIdx x)) (hx : x < p.length) : (rowsBy x a)[cellOf (removed a.shape x) (p.eraseIdx x)]? = some (rowAt a x p) := by
 rw [gu h1.lt,kP h1,pj hx,yu]
theorem kS (a : Arr) (x : Nat) : (rowsBy x a).length = product_ (removed a.shape x) := by
 unfold rowsBy; simp only; rw [List.length_map,List.length_range]
theorem iM {a : Arr} {x c : Nat} {r : List Int} (h : (rowsBy x a)[c]? = some r) : c < product_ (removed a.shape x) /\ r = rowAt a x (filledIn x (placeOf (removed a.shape x) c)) := by
 have hc : c < product_ (removed a.shape x) := by
  rw [← kS]; exact (List.getElem?_eq_some_iff.mp h).1
 rw [gu hc] at h; exact ⟨hc,(Option.some.inj h).symm⟩
theorem cj {s : List Nat} (h : shapeOk s = true) (x : Nat) : shapeOk (removed s x) = true := by
 obtain ⟨h1,h2,h3⟩ := aF h; refine shape_iff.mpr ⟨?_,fun n hn => h2 n (List.mem_of_mem_eraseIdx hn),?_⟩
 ·unfold removed; rw [List.length_eraseIdx]
  split <;> omega
 ·unfold removed
  by_cases hx : x < s.length
  ·have e : product_ (s.eraseIdx x) * along s x = product_ s := by
    have hs : s[x]? = some (along s x) := by
     have h2 : s[x]? = some s[x] := List.getElem?_eq_getElem hx; rw [bK h2]; exact h2
    have e1 : s = s.take x ++ along s x :: s.drop (x + 1) := by
     have h2 := bK hs
     conv => lhs; rw [← List.take_append_drop x s,List.drop_eq_getElem_cons hx]
     rw [bK (List.getElem?_eq_getElem hx)]
    have e2 : product_ s = product_ (s.take x) * (along s x * product_ (s.drop (x + 1))) := by
     conv => lhs; rw [e1]
     rw [dD,bL]
    rw [← ma,dD,e2,Nat.mul_assoc,Nat.mul_comm (product_ (s.drop (x + 1)))]
   have h4 : 1 <= along s x := by
    have hs : s[x]? = some (along s x) := by
     have h2 : s[x]? = some s[x] := List.getElem?_eq_getElem hx; rw [bK h2]; exact h2
    exact h2 _ (List.mem_of_getElem? hs)
   have := Nat.le_mul_of_pos_right (product_ (s.eraseIdx x)) h4; omega
  ·rw [List.eraseIdx_of_length_le (by omega)]; exact h3
theorem yA {α : Type} (r : List α) : ∀ (n i : Nat),i < n * r.length -> (List.replicate n r).flatten[i]? = r[i % r.length]?
 | 0,i,h => by simp at h
 | n + 1,i,h => by
  rw [List.replicate_succ,List.flatten_cons]
  by_cases hi : i < r.length
  ·rw [List.getElem?_append_left hi,Nat.mod_eq_of_lt hi]
  ·rw [List.getElem?_append_right (by omega),yA r n (i - r.length) (by rw [Nat.succ_mul] at h; omega)]; congr 1
   conv => rhs; rw [show i = (i - r.length) + r.length by omega,Nat.add_mod_right]
theorem aba {p : List Nat} {x : Nat} (h : x < p.length) : p.set x (p.getD x 0) = p := by
 refine fN ?_; rw [List.getD_eq_getElem?_getD,List.getElem?_eq_getElem h]; rfl
theorem aai {s : List Nat} {x c i : Nat} (hx : x < s.length) (hc : c < product_ (removed s x)) (hi : i < along s x) :
  ∃ p,In s p /\ cellOf (removed s x) (p.eraseIdx x) = c /\ p.getD x 0 = i := by
 have h1 := cC hc
 have hl : (placeOf (removed s x) c).length = s.length - 1 := by
  rw [eQ]; unfold removed; rw [List.length_eraseIdx,if_pos hx]
 refine ⟨_,In.fill (s := s) (x := x) h1 hx hi,?_,?_⟩
 ·have e : ((placeOf (removed s x) c).take x ++ i :: (placeOf (removed s x) c).drop x).eraseIdx x = placeOf (removed s x) c := by
   have := sY (placeOf (removed s x) c) x i (by omega); rw [← this,mx]; unfold filledIn; rw [← ma,List.take_append_of_le_length (by rw [List.length_take]; omega),List.take_take,Nat.min_self]; rw [List.drop_append,List.drop_eq_nil_iff.mpr (by rw [List.length_take]; omega),List.length_take,Nat.min_eq_left (by omega),show x + 1 - x = 1 by omega]
   simp
  rw [e,uq hc]
 ·rw [List.getD_eq_getElem?_getD,List.getElem?_append_right (by rw [List.length_take]; omega),List.length_take,Nat.min_eq_left (by omega),Nat.sub_self]; rfl
end Ma

namespace Ma
open Ad
def wG (op : Nat) (x y : Int) : Option Int := match op with
  | 0 => some (x + y)
  | 1 => some (x - y)
  | 2 => some (x * y)
  | 3 => some (if y < x then y else x)
  | 4 => some (if x < y then y else x)
  | 5 => if y = 0 then none else some (Int.fdiv x y)
  | 6 => if y = 0 then none else some (Int.fmod x y)
  | 7 => some (if x < y then 1 else 0)
  | _ => some (if x = y then 1 else 0)
def fh (op : Nat) (x y : Option Int) : Option Int := x.bind fun a => y.bind fun b => opOf op a b
theorem sJ {op : Nat} {x y : Option Int} {z : Int} (h : fh op x y = some z) : cellFine z = true := by
 unfold fh at h; obtain ⟨a,_,h1⟩ := Option.bind_eq_some_iff.mp h; obtain ⟨b,_,h2⟩ := Option.bind_eq_some_iff.mp h1; exact uL h2
theorem aaz {f : Nat} {l : List Int} (h : l ≠ []) (y : Int) : foldRow f (l ++ [y]) = fh (foldOp f) (foldRow f l) (some y) := by
 cases l with
 | nil => exact absurd rfl h
 | cons x l =>
  show (l ++ [y]).foldl (fun (o : Option Int) (y : Int) => o.bind fun (z : Int) => opOf (foldOp f) z y) (some x) = _; rw [List.foldl_append]; rfl
theorem pR {f : Nat} {l : List Int} (hl : ∀ z ∈ l,cellFine z = true) {z : Int} (h : foldRow f l = some z) : cellFine z = true := by
 have key : ∀ (m : List Int) (o : Option Int),(∀ a,o = some a -> cellFine a = true) -> ∀ a,m.foldl (fun (o : Option Int) (y : Int) => o.bind fun (z : Int) => opOf (foldOp f) z y) o = some a -> cellFine a = true := by
  intro m
  induction m with
  | nil => intro o ho a ha; exact ho a ha
  | cons y m ih =>
   intro o ho a ha; rw [List.foldl_cons] at ha; refine ih _ (fun b hb => ?_) a ha; obtain ⟨c,_,h2⟩ := Option.bind_eq_some_iff.mp hb; exact uL h2
 cases l with
 | nil => cases h
 | cons x l => exact key l (some x) (fun a ha => by cases ha; exact hl x (List.mem_cons_self ..)) z h
def eP (f : Nat) (r : List Int) : List (Option Int) := (List.range r.length).map fun i => foldRow f (r.take (i + 1))
theorem oK (f : Nat) (r : List Int) : (eP f r).length = r.length := by
 unfold eP; rw [List.length_map,List.length_range]
theorem vb (f : Nat) : ∀ (l : List Int) (x : Int),scanFrom f x l = allOf ((List.range l.length).map fun i => foldRow f (x :: l.take (i + 1)))
 | [],x => rfl
 | y :: l,x => by
  rw [List.length_cons,List.range_succ_eq_map,List.map_cons,List.map_map]; have e0 : foldRow f (x :: (y :: l).take (0 + 1)) = opOf (foldOp f) x y := rfl; rw [e0,scanFrom]
  cases h : opOf (foldOp f) x y with
  | none => rfl
  | some z =>
   show (scanFrom f z l).map _ = (allOf _).map _; rw [vb f l z]
   have e1 : ((fun i => foldRow f (x :: (y :: l).take (i + 1))) ∘ Nat.succ) = fun i => foldRow f (z :: l.take (i + 1)) := by
    funext i; show foldRow f (x :: y :: l.take (i + 1)) = foldRow f (z :: l.take (i + 1)); show List.foldl _ (opOf (foldOp f) x y) _ = List.foldl _ (some z) _; rw [h]
   rw [e1]
theorem sR {f : Nat} {r : List Int} : allOf (eP f r) = scanRow f r := by
 cases r with
 | nil => rfl
 | cons x l =>
  unfold eP; rw [List.length_cons,List.range_succ_eq_map,List.map_cons,List.map_map]; have e0 : foldRow f ((x :: l).take (0 + 1)) = some x := rfl; rw [e0]; show (allOf _).map _ = (scanFrom f x l).map _; rw [vb]; rfl
theorem zP {f : Nat} {r : List Int} (h : r ≠ []) : (eP f r)[r.length - 1]? = some (foldRow f r) := by
 have hl : 0 < r.length := List.length_pos_iff.mpr h; unfold eP; rw [List.getElem?_map,List.getElem?_range (by omega)]; show some (foldRow f (r.take (r.length - 1 + 1))) = _; rw [show r.length - 1 + 1 = r.length by omega,List.take_length]
theorem xT {f : Nat} {r : List Int} (hr : ∀ z ∈ r,cellFine z = true) {z : Int} (h : some z ∈ eP f r) : cellFine z = true := by
 obtain ⟨i,_,e⟩ := List.mem_map.mp h; exact pR (fun y hy => hr y (List.mem_of_mem_take hy)) e
theorem zD {f : Nat} (h : f <= 3) : ([0,2,3,4] : List Nat)[f]? = some (foldOp f) := by
 match f,h with
 | 0,_ => rfl
 | 1,_ => rfl
 | 2,_ => rfl
 | 3,_ => rfl
end Ma

namespace Ma
open Ad
theorem sf : ∀ {l : List (Nat × Nat)},(∀ p ∈ l,1 <= p.1 /\ 1 <= p.2) -> (∀ p ∈ l,p.1 = p.2 \/ p.1 = 1 \/ p.2 = 1) -> meetEach l = some (l.map fun p => max p.1 p.2)
 | [],_,_ => rfl
 | x :: l,h1,h2 => by
  rw [meetEach,sf (fun p hp => h1 p (List.mem_cons_of_mem _ hp)) (fun p hp => h2 p (List.mem_cons_of_mem _ hp))]; have g1 := h1 x (List.mem_cons_self ..); have g2 := h2 x (List.mem_cons_self ..); show (if x.1 = x.2 then _ else _) = _; rw [List.map_cons]
  by_cases e1 : x.1 = x.2
  ·rw [if_pos e1,e1,Nat.max_self]
  ·rw [if_neg e1]
   by_cases e2 : x.1 = 1
   ·rw [if_pos e2,Nat.max_eq_right (by omega)]
   ·rw [if_neg e2,if_pos (by omega),Nat.max_eq_left (by omega)]
theorem pA : ∀ {l : List (Nat × Nat)} {p : Nat × Nat},p ∈ l -> p.1 ≠ p.2 -> p.1 ≠ 1 -> p.2 ≠ 1 -> meetEach l = none
 | x :: l,p,h,h1,h2,h3 => by
  rw [meetEach]
  rcases List.mem_cons.mp h with rfl | h
  ·cases meetEach l with
   | none => rfl
   | some r =>
    show (if p.1 = p.2 then _ else _) = none; rw [if_neg h1,if_neg h2,if_neg h3]
  ·rw [pA h h1 h2 h3]; rfl
theorem s_ {r : Nat} {l : List Nat} (h : ∀ n ∈ l,1 <= n) : ∀ n ∈ padded r l,1 <= n := by
 intro n hn; unfold padded at hn
 rcases List.mem_append.mp hn with q | q
 ·rw [(List.mem_replicate.mp q).2]; exact Nat.le_refl _
 ·exact h n q
theorem gc {α β : Type} (F : α -> β) (d : α) (l : List α) : (List.range l.length).map (fun i => F (l.getD i d)) = l.map F := by
 apply List.ext_getElem?; intro i
 by_cases hi : i < l.length
 ·rw [List.getElem?_map,List.getElem?_range hi,List.getElem?_map,List.getElem?_eq_getElem hi]; show some (F (l.getD i d)) = some (F l[i]); rw [List.getD_eq_getElem?_getD,List.getElem?_eq_getElem hi]; rfl
 ·rw [List.getElem?_eq_none (by simp; omega),List.getElem?_eq_none (by simp; omega)]
theorem wu {α β γ : Type} (F : α -> β -> γ) (d : α) (e : β) {l : List α} {m : List β} (h : l.length = m.length) : (List.range l.length).map (fun i => F (l.getD i d) (m.getD i e)) = (l.zip m).map fun z => F z.1 z.2 := by
 have := gc (fun z : α × β => F z.1 z.2) (d,e) (l.zip m); rw [← this,List.length_zip,← h,Nat.min_self]; apply List.map_congr_left; intro i hi; have hi := List.mem_range.mp hi; have hz : (l.zip m)[i]? = some (l[i],m[i]'(by omega)) := List.getElem?_zip_eq_some.mpr ⟨List.getElem?_eq_getElem hi,List.getElem?_eq_getElem (by omega)⟩; simp only [List.getD_eq_getElem?_getD]; rw [hz,List.getElem?_eq_getElem hi,List.getElem?_eq_getElem (show i < m.length by omega)]; rfl
def pr (f ax : Nat) (a : Arr) (p : List Nat) : Option Int := (eP f (rowAt a ax p)).getD (p.getD ax 0) none
def eR (f ax : Nat) (a : Arr) : List (Option Int) := (List.range (product_ a.shape)).map fun c => pr f ax a (placeOf a.shape c)
theorem j2 {f ax : Nat} {a : Arr} {p : List Nat} (hp : In a.shape p) (hx : ax < a.shape.length) : (eP f (rowAt a ax p))[p.getD ax 0]? = some (pr f ax a p) := by
 have h := (In.axis hp hx).2; unfold pr; generalize p.getD ax 0 = i at h; rw [List.getD_eq_getElem?_getD,List.getElem?_eq_getElem (by rw [oK,da]; exact h)]; rfl
theorem zi {f ax : Nat} {a : Arr} (hx : ax < a.shape.length) : (allOf (eR f ax a)).map (fun l => (⟨a.shape,l⟩ : Arr)) = scanned f ax a := by
 unfold scanned; have hrow : ∀ {p : List Nat},In a.shape p -> (rowsBy ax a)[cellOf (removed a.shape ax) (p.eraseIdx ax)]? = some (rowAt a ax p) := fun hp => z6 hp hx
 by_cases hn : none ∈ eR f ax a
 ·rw [gl hn]; obtain ⟨c,hc,e⟩ := List.mem_map.mp hn; have hp := cC (List.mem_range.mp hc)
  have h1 : none ∈ eP f (rowAt a ax (placeOf a.shape c)) := by
   have := j2 (f := f) hp hx; rw [e] at this; exact List.mem_of_getElem? this
  have h2 : scanRow f (rowAt a ax (placeOf a.shape c)) = none := by rw [← sR,gl h1]
  have h3 : none ∈ (rowsBy ax a).map (scanRow f) := List.mem_map.mpr ⟨_,List.mem_of_getElem? (hrow hp),h2⟩; rw [gl h3]; rfl
 ·obtain ⟨r,hr⟩ := mr hn; have hr2 := allOf_map.mp hr
  have all : ∀ w ∈ rowsBy ax a,none ∉ eP f w := by
   intro w hw hnone; obtain ⟨c,hc,e⟩ := List.getElem_of_mem hw; obtain ⟨g1,g2⟩ := iM (show (rowsBy ax a)[c]? = some w by rw [List.getElem?_eq_getElem hc,e]); obtain ⟨i,hi,ei⟩ := List.getElem_of_mem hnone; have hi2 : i < along a.shape ax := by rw [oK,g2,da] at hi; exact hi
   obtain ⟨p,hp,p1,p2⟩ := aai hx g1 hi2
   have e2 : rowAt a ax p = w := by
    have := hrow hp; rw [p1,gu g1,← g2] at this; exact (Option.some.inj this).symm
   have h3 := j2 (f := f) hp hx; rw [e2,p2,List.getElem?_eq_getElem hi,ei] at h3; refine hn (List.mem_map.mpr ⟨cellOf a.shape p,List.mem_range.mpr hp.lt,?_⟩); rw [kP hp]; exact (Option.some.inj h3).symm
  have hsc : ∀ w ∈ rowsBy ax a,∃ l,scanRow f w = some l := fun w hw => by
   obtain ⟨l,hl⟩ := mr (all w hw); exact ⟨l,by rw [← sR]; exact hl⟩
  obtain ⟨L,hL⟩ := mr (l := (rowsBy ax a).map (scanRow f)) (fun h => by
   obtain ⟨w,hw,e⟩ := List.mem_map.mp h; obtain ⟨l,hl⟩ := hsc w hw; rw [hl] at e
   cases e)
  have hL2 := allOf_map.mp hL; rw [hr,hL]; show some _ = some _; congr 1; unfold ofRows build; congr 1; apply List.ext_getElem?; intro c
  by_cases hc : c < product_ a.shape
  ·have hp := cC hc
   have e1 : (eR f ax a)[c]? = some (pr f ax a (placeOf a.shape c)) := by
    unfold eR; rw [List.getElem?_map,List.getElem?_range hc]; rfl
   rw [hr2,List.getElem?_map] at e1; rw [List.getElem?_map,List.getElem?_range hc]
   cases e2 : r[c]? with
   | none => rw [e2] at e1; cases e1
   | some z =>
    rw [e2] at e1; have e3 : some z = pr f ax a (placeOf a.shape c) := Option.some.inj e1; have h4 := j2 (f := f) hp hx; rw [← e3] at h4
    have h5 : (L.map some)[cellOf (removed a.shape ax) ((placeOf a.shape c).eraseIdx ax)]? = some (scanRow f (rowAt a ax (placeOf a.shape c))) := by
     rw [← hL2,List.getElem?_map,hrow hp]; rfl
    rw [List.getElem?_map] at h5
    cases e6 : L[cellOf (removed a.shape ax) ((placeOf a.shape c).eraseIdx ax)]? with
    | none => rw [e6] at h5; cases h5
    | some l =>
     rw [e6] at h5; have h6 : some l = scanRow f (rowAt a ax (placeOf a.shape c)) := Option.some.inj h5; rw [← sR] at h6; rw [allOf_map.mp h6.symm,List.getElem?_map] at h4; show some z = some _; congr 1; show z = (L.getD (cellOf (removed a.shape ax) ((placeOf a.shape c).eraseIdx ax)) []).getD ((placeOf a.shape c).getD ax 0) 0; rw [List.getD_eq_getElem?_getD (l := L),e6]; show z = l.getD ((placeOf a.shape c).getD ax 0) 0; generalize (placeOf a.shape c).getD ax 0 = i at h4; rw [List.getD_eq_getElem?_getD]
     cases e7 : l[i]? with
     | none => rw [e7] at h4; cases h4
     | some y =>
      rw [e7] at h4; exact (Option.some.inj (Option.some.inj h4)).symm
  ·have h1 : r.length = product_ a.shape := by
    have := congrArg List.length hr2; rw [List.length_map] at this; unfold eR at this; rw [List.length_map,List.length_range] at this; exact this.symm
   rw [List.getElem?_eq_none (by omega),List.getElem?_eq_none (by simp; omega)]
end Ma

namespace Ma
open Ad
def jt (mode : Nat) (o : Option Int) (x : Int) : Option Int := if mode = 0 then some x else fh (if mode = 1 then 0 else mode + 1) o (some x)
def cW (mode : Nat) (m : List (Option Int)) (zs : List (Int × Int)) : List (Option Int) := zs.foldl (fun m z => m.set z.1.toNat (jt mode (m.getD z.1.toNat none) z.2)) m
theorem aaJ (mode : Nat) (m : List (Option Int)) : cW mode m [] = m := rfl
theorem kX (mode : Nat) (m : List (Option Int)) (z : Int × Int) (zs : List (Int × Int)) : cW mode m (z :: zs) = cW mode (m.set z.1.toNat (jt mode (m.getD z.1.toNat none) z.2)) zs := rfl
theorem za (mode : Nat) (m : List (Option Int)) (zs : List (Int × Int)) (z : Int × Int) : cW mode m (zs ++ [z]) = (cW mode m zs).set z.1.toNat (jt mode ((cW mode m zs).getD z.1.toNat none) z.2) := by
 unfold cW; rw [List.foldl_append]; rfl
theorem ql (mode : Nat) : ∀ (zs : List (Int × Int)) (m : List (Option Int)),(cW mode m zs).length = m.length
 | [],m => rfl
 | z :: zs,m => by rw [kX,ql mode zs,List.length_set]
theorem yR {mode : Nat} (h : mode ≠ 0) (x : Int) : jt mode none x = none := by
 unfold jt; rw [if_neg h]; rfl
theorem tY {mode : Nat} (h : mode ≠ 0) : ∀ (zs : List (Int × Int)) (m : List (Option Int)),none ∈ m -> none ∈ cW mode m zs
 | [],m,hm => hm
 | z :: zs,m,hm => by
  rw [kX]; refine tY h zs _ ?_; obtain ⟨i,hi,e⟩ := List.getElem_of_mem hm
  by_cases hz : z.1.toNat = i
  ·have e2 : m.getD z.1.toNat none = none := by
    rw [hz,List.getD_eq_getElem?_getD,List.getElem?_eq_getElem hi,e]; rfl
   rw [e2,yR h,hz]; exact List.mem_of_getElem? (List.getElem?_set_self hi)
  ·have e3 : (m.set z.1.toNat (jt mode (m.getD z.1.toNat none) z.2))[i]? = some none := by
    rw [List.getElem?_set_ne hz,List.getElem?_eq_getElem hi,e]
   exact List.mem_of_getElem? e3
theorem zd {α : Type} (l : List α) : allOf (l.map some) = some l := allOf_map.mpr rfl
theorem vJ {mode : Nat} : ∀ (zs : List (Int × Int)),zs.foldl (fun (o : Option (List Int)) (z : Int × Int) => o.bind fun (m : List Int) =>
 (if mode = 0 then some z.2 else opOf (if mode = 1 then 0 else mode + 1) (m.getD z.1.toNat 0) z.2).map fun (y : Int) => m.set z.1.toNat y) none = none
 | [] => rfl
 | _ :: zs => vJ zs
theorem xl {mode : Nat} : ∀ (zs : List (Int × Int)) (l : List Int),(∀ z ∈ zs,z.1.toNat < l.length) -> allOf (cW mode (l.map some) zs) = zs.foldl (fun (o : Option (List Int)) (z : Int × Int) => o.bind fun (m : List Int) =>
 (if mode = 0 then some z.2 else opOf (if mode = 1 then 0 else mode + 1) (m.getD z.1.toNat 0) z.2).map fun (y : Int) => m.set z.1.toNat y) (some l)
 | [],l,_ => zd l
 | z :: zs,l,h => by
  have hz := h z (List.mem_cons_self ..); rw [kX,List.foldl_cons]
  have e1 : (l.map some).getD z.1.toNat none = some (l.getD z.1.toNat 0) := by
   rw [List.getD_eq_getElem?_getD,List.getElem?_map,List.getElem?_eq_getElem hz,List.getD_eq_getElem?_getD,List.getElem?_eq_getElem hz]; rfl
  rw [e1]; have e2 : jt mode (some (l.getD z.1.toNat 0)) z.2 = (if mode = 0 then some z.2 else opOf (if mode = 1 then 0 else mode + 1) (l.getD z.1.toNat 0) z.2) := rfl; rw [e2]; show _ = List.foldl _ (Option.map _ _) zs
  cases e3 : (if mode = 0 then some z.2 else opOf (if mode = 1 then 0 else mode + 1) (l.getD z.1.toNat 0) z.2) with
  | some y =>
   show _ = List.foldl _ (some (l.set z.1.toNat y)) zs; rw [← xl zs (l.set z.1.toNat y) (fun w hw => by rw [List.length_set]; exact h w (List.mem_cons_of_mem _ hw)),List.map_set]
  | none =>
   show _ = List.foldl _ none zs; rw [vJ]; have hm : mode ≠ 0 := fun e => by rw [if_pos e] at e3; cases e3
   exact gl (tY hm zs _ (List.mem_of_getElem? (List.getElem?_set_self (by rw [List.length_map]; exact hz))))
theorem pw {mode : Nat} : ∀ (zs : List (Int × Int)) (m : List (Option Int)),(∀ z,some z ∈ m -> cellFine z = true) -> (∀ z ∈ zs,cellFine z.2 = true) -> ∀ z,some z ∈ cW mode m zs -> cellFine z = true
 | [],m,hm,_,z,hz => hm z hz
 | w :: zs,m,hm,hw,z,hz => by
  rw [kX] at hz; refine pw zs _ (fun y hy => ?_) (fun y hy => hw y (List.mem_cons_of_mem _ hy)) z hz
  rcases List.mem_or_eq_of_mem_set hy with h | h
  ·exact hm y h
  ·unfold jt at h
   split at h
   ·cases h; exact hw w (List.mem_cons_self ..)
   ·exact sJ h.symm
theorem aac (a b : Arr) (h : a.cells.length = b.cells.length) : packed a b = ((List.range a.cells.length).filter fun i => b.cells.getD i 0 != 0).map fun i => a.cells.getD i 0 := by
 unfold packed; have e := wu (fun x y : Int => (x,y)) 0 0 h
 have e2 : (a.cells.zip b.cells).map (fun z : Int × Int => (z.1,z.2)) = a.cells.zip b.cells := by
  have : (fun z : Int × Int => (z.1,z.2)) = id := rfl; rw [this,List.map_id]
 rw [e2] at e; rw [← e,List.filter_map,List.map_map]; rfl
theorem nk {n : Nat} {l : List Int} (h : Ay.numbersIn n l = true) : ∀ z ∈ l,0 <= z /\ z < n := by
 intro z hz; unfold Ay.numbersIn at h; have := List.all_eq_true.mp h z hz; simp only [Bool.and_eq_true,decide_eq_true_eq] at this; exact this
theorem tm {n : Nat} {l : List Int} {z : Int} (hz : z ∈ l) (h : ¬ (0 <= z /\ z < n)) : Ay.numbersIn n l = false := by
 cases e : Ay.numbersIn n l with
 | false => rfl
 | true => exact absurd (nk e z hz) h
theorem x6 {n : Nat} {l : List Int} (h : ∀ z ∈ l,0 <= z /\ z < n) : Ay.numbersIn n l = true := by
 unfold Ay.numbersIn; rw [List.all_eq_true]; intro z hz; simp only [Bool.and_eq_true,decide_eq_true_eq]; exact h z hz
theorem aa1 {l : List Int} : ∀ n ∈ orderOf l,n < l.length := fun n hn => List.mem_range.mp ((pd l).1.mem_iff.mp hn)
theorem aaY {α : Type} {r : List Int} {qs ps : List α} {g : α -> Int × Int} (hp : qs.Perm ps) (hs : qs.Pairwise fun u v => ¬ ((g v).1 < (g u).1 \/ ((g v).1 = (g u).1 /\ (g v).2 < (g u).2)))
  (hl : ps.length = r.length) (hg : ∀ (i : Nat) p,ps[i]? = some p -> g p = (r.getD i 0,(i : Int))) : qs.map (fun q => (g q).2.toNat) = orderOf r := by
 have hps : ps.map (fun q => (g q).2.toNat) = List.range r.length := by
  apply List.ext_getElem?; intro i
  by_cases hi : i < r.length
  ·have e : ps[i]? = some (ps[i]'(by omega)) := List.getElem?_eq_getElem _; rw [List.getElem?_map,e,List.getElem?_range hi]; show some ((g (ps[i]'(by omega))).2.toNat) = some i; rw [hg i _ e]; rfl
  ·rw [List.getElem?_eq_none (by simp; omega),List.getElem?_eq_none (by simp; omega)]
 have hperm : (qs.map (fun q => (g q).2.toNat)).Perm (List.range r.length) := by rw [← hps]; exact hp.map _
 have hkey : ∀ q ∈ qs,g q = (r.getD (g q).2.toNat 0,((g q).2.toNat : Int)) := fun q hq => by
  obtain ⟨i,hi,e⟩ := List.getElem_of_mem (hp.mem_iff.mp hq); have h1 := hg i q (by rw [List.getElem?_eq_getElem hi,e]); rw [h1]; rfl
 refine zG hperm ?_; unfold fg; rw [List.map_map,List.pairwise_map]; have hnd : (qs.map (fun q => (g q).2.toNat)).Nodup := hperm.nodup_iff.mpr List.nodup_range
 have hne : qs.Pairwise fun u v => (g u).2.toNat ≠ (g v).2.toNat := by
  have := List.pairwise_map.mp hnd; exact this
 have both := hs.and hne; refine List.Pairwise.imp_of_mem ?_ both; intro u v hu hv h; obtain ⟨h1,h2⟩ := h; have ku := hkey u hu; have kv := hkey v hv; have u1 := congrArg Prod.fst ku; have u2 := congrArg Prod.snd ku; have v1 := congrArg Prod.fst kv; have v2 := congrArg Prod.snd kv; simp only at u1 u2 v1 v2; show r.getD (g u).2.toNat 0 < r.getD (g v).2.toNat 0 \/ (r.getD (g u).2.toNat 0 = r.getD (g v).2.toNat 0 /\ (g u).2.toNat < (g v).2.toNat); rw [← u1,← v1]; omega
end Ma

namespace Ma
open Ad
def jn (xs ys : List Int) : Option Int := (xs.zip ys).foldl (fun o z => fh 0 o (fh 2 (some z.1) (some z.2))) (some 0)
theorem xH {α : Type} (f : Nat -> α) (i m : Nat) : (List.range ((i + 1) * m)).map f = (List.range (i * m)).map f ++ (List.range m).map fun c => f (i * m + c) := by
 rw [Nat.succ_mul,List.range_add,List.map_append,List.map_map]; rfl
def lV (A B : Arr) (m r c : Nat) : Option Int := jn ((rowsBy 1 A).getD r []) ((rowsBy 0 B).getD c [])
def fW (A B : Arr) (n m : Nat) : List (Option Int) := (List.range (n * m)).map fun c => lV A B m (c / m) (c % m)
theorem x5 (A B : Arr) (i m : Nat) : fW A B (i + 1) m = fW A B i m ++ (List.range m).map fun c => lV A B m i c := by
 unfold fW; rw [xH]; congr 1; apply List.map_congr_left; intro c hc; have hc := List.mem_range.mp hc
 have h1 : (i * m + c) / m = i := by
  rw [Nat.mul_comm,Nat.mul_add_div (by omega),Nat.div_eq_of_lt hc,Nat.add_zero]
 have h2 : (i * m + c) % m = c := by
  rw [Nat.mul_comm,Nat.mul_add_mod,Nat.mod_eq_of_lt hc]
 rw [h1,h2]
theorem tH {β : Type} (F : β -> Int -> Int -> β) (f g : Nat -> Int) : ∀ (n : Nat) (b : β),(((List.range n).map f).zip ((List.range n).map g)).foldl (fun o z => F o z.1 z.2) b = (List.range n).foldl (fun o k => F o (f k) (g k)) b := by
 intro n b; rw [List.zip_map',List.foldl_map]
theorem zv {A B : Arr} {n k m : Nat} (ha : A.shape = [n,k]) (hb : B.shape = [k,m]) {r c : Nat} (hr : r < n) (hc : c < m) : lV A B m r c = timesCell A B [r,c] := by
 have h1 : (rowsBy 1 A)[r]? = some ((List.range k).map fun i => A.at_ [r,i]) := by
  have e : removed A.shape 1 = [n] := by rw [ha]; rfl
  have hlt : r < product_ (removed A.shape 1) := by
   rw [e]; show r < n * 1; omega
  rw [gu hlt,e]; unfold rowAt; have e2 : along A.shape 1 = k := by rw [ha]; rfl
  rw [e2]; congr 1; apply List.map_congr_left; intro i _
  have e3 : placeOf [n] r = [r] := by
   show [r / 1] = [r]; rw [Nat.div_one]
  rw [e3]; rfl
 have h2 : (rowsBy 0 B)[c]? = some ((List.range k).map fun i => B.at_ [i,c]) := by
  have e : removed B.shape 0 = [m] := by rw [hb]; rfl
  have hlt : c < product_ (removed B.shape 0) := by
   rw [e]; show c < m * 1; omega
  rw [gu hlt,e]; unfold rowAt; have e2 : along B.shape 0 = k := by rw [hb]; rfl
  rw [e2]; congr 1; apply List.map_congr_left; intro i _
  have e3 : placeOf [m] c = [c] := by
   show [c / 1] = [c]; rw [Nat.div_one]
  rw [e3]; rfl
 unfold lV jn timesCell; have e4 : along A.shape 1 = k := by rw [ha]; rfl
 rw [e4,List.getD_eq_getElem?_getD,h1,List.getD_eq_getElem?_getD,h2]; exact tH (fun o x y => fh 0 o (fh 2 (some x) (some y))) _ _ k (some 0)
theorem aaF {A B : Arr} {n k m : Nat} (ha : A.shape = [n,k]) (hb : B.shape = [k,m]) : (allOf (fW A B n m)).map (fun l => (⟨[n,m],l⟩ : Arr)) = multiplied A B := by
 unfold multiplied; have e1 : along A.shape 0 = n := by rw [ha]; rfl
 have e2 : along B.shape 1 = m := by rw [hb]; rfl
 simp only [e1,e2]
 have e3 : product_ [n,m] = n * m := by
  show n * (m * 1) = n * m; rw [Nat.mul_one]
 rw [e3]; congr 2; unfold fW; apply List.map_congr_left; intro c hc; have hc := List.mem_range.mp hc
 have hm : 0 < m := by
  rcases Nat.eq_zero_or_pos m with h | h
  ·rw [h,Nat.mul_zero] at hc; omega
  ·exact h
 have h1 : c / m < n := Nat.div_lt_of_lt_mul (by rw [Nat.mul_comm]; exact hc); have h2 : c % m < m := Nat.mod_lt _ hm; rw [zv ha hb h1 h2]
 have e4 : placeOf [n,m] c = [c / m,c % m] := by
  show [c / (m * 1),c % (m * 1) / 1] = _; rw [Nat.mul_one,Nat.div_one]
 rw [e4]
theorem vj {xs ys : List Int} {z : Int} (h : jn xs ys = some z) : cellFine z = true := by
 unfold jn at h
 have key : ∀ (l : List (Int × Int)) (o : Option Int),(∀ a,o = some a -> cellFine a = true) -> ∀ a,l.foldl (fun o z => fh 0 o (fh 2 (some z.1) (some z.2))) o = some a -> cellFine a = true := by
  intro l
  induction l with
  | nil => intro o ho a ha; exact ho a ha
  | cons w l ih =>
   intro o ho a ha; rw [List.foldl_cons] at ha; exact ih _ (fun b hb => sJ hb) a ha
 exact key _ _ (fun a ha => by cases ha; decide) z h
theorem zY (l : List (Int × Int)) (z : Int × Int) : (l ++ [z]).foldl (fun o z => fh 0 o (fh 2 (some z.1) (some z.2))) (some 0) = fh 0 (l.foldl (fun o z => fh 0 o (fh 2 (some z.1) (some z.2))) (some 0)) (fh 2 (some z.1) (some z.2)) := by
 rw [List.foldl_append]; rfl
theorem y8 {l : List (Int × Int)} {z : Int} (h : l.foldl (fun o z => fh 0 o (fh 2 (some z.1) (some z.2))) (some 0) = some z) : cellFine z = true := by
 have e : jn (l.map (·.1)) (l.map (·.2)) = some z := by
  unfold jn; rw [List.zip_map',← h]
  have : (l.map fun a => (a.1,a.2)) = l := by
   have : (fun a : Int × Int => (a.1,a.2)) = id := rfl; rw [this,List.map_id]
  rw [this]
 exact vj e
end Ma

namespace Ma
open Ad
def cv (least most : Nat) : Bytes -> Nat -> Rd Nat
 | [],p => .error p
 | c :: b,p => match digitOf c with
  | some d => if least <= d /\ d <= most then .ok (if d = 0 then (0,b,p + 1) else digits most d b (p + 1)) else .error p
  | none => .error p
theorem qd (most : Nat) : ∀ (b : Bytes) (p : Nat),cv 1 most b p = oneTo most b p
 | [],p => rfl
 | c :: b,p => by
  cases h : digitOf c with
  | none => simp only [cv,oneTo,h]
  | some d =>
   simp only [cv,oneTo,h]
   by_cases hd : 1 <= d /\ d <= most
   ·rw [if_pos hd,if_pos hd,if_neg (by omega)]
   ·rw [if_neg hd,if_neg hd]
theorem sg {bs : Bytes} {most : Nat} : ∀ (b : Bytes) (x p : Nat),b = bs.drop p -> p <= bs.length -> (digits most x b p).2.1 = bs.drop (digits most x b p).2.2 /\ (digits most x b p).2.2 <= bs.length /\ p <= (digits most x b p).2.2
 | [],x,p,h,hp => ⟨h,hp,Nat.le_refl _⟩
 | c :: b,x,p,h,hp => by
  unfold digits
  have hlt : p < bs.length := by
   rcases Nat.lt_or_ge p bs.length with q | q
   ·exact q
   ·rw [List.drop_eq_nil_iff.mpr q] at h; cases h
  have hb : b = bs.drop (p + 1) := by
   rw [List.drop_eq_getElem_cons hlt] at h; exact (List.cons.inj h).2
  cases hd : digitOf c with
  | none => exact ⟨h,hp,Nat.le_refl _⟩
  | some d =>
   simp only
   by_cases hm : 10 * x + d <= most
   ·rw [if_pos hm]; obtain ⟨h1,h2,h3⟩ := sg b (10 * x + d) (p + 1) hb (by omega); exact ⟨h1,h2,by omega⟩
   ·rw [if_neg hm]; exact ⟨h,hp,Nat.le_refl _⟩
theorem ve {most : Nat} : ∀ (b : Bytes) (x p : Nat),x <= most -> x <= (digits most x b p).1 /\ (digits most x b p).1 <= most
 | [],x,p,h => ⟨Nat.le_refl _,h⟩
 | c :: b,x,p,h => by
  unfold digits
  cases hd : digitOf c with
  | none => exact ⟨Nat.le_refl _,h⟩
  | some d =>
   simp only
   by_cases hm : 10 * x + d <= most
   ·rw [if_pos hm]; obtain ⟨h1,h2⟩ := ve b (10 * x + d) (p + 1) hm; exact ⟨by omega,h2⟩
   ·rw [if_neg hm]; exact ⟨Nat.le_refl _,h⟩
theorem cZ {bs : Bytes} {n c : Nat} (h : bs[n]? = some c) : bs.drop n = c :: bs.drop (n + 1) := by
 obtain ⟨hlt,e⟩ := List.getElem?_eq_some_iff.mp h; rw [List.drop_eq_getElem_cons hlt,e]
theorem fY {bs : Bytes} {n : Nat} (h : bs[n]? = none) : bs.drop n = [] := List.drop_eq_nil_iff.mpr (List.getElem?_eq_none_iff.mp h)
theorem oR {bs : Bytes} {least most n x : Nat} {rest : Bytes} {q : Nat} (h : cv least most (bs.drop n) n = .ok (x,rest,q)) : rest = bs.drop q /\ q <= bs.length /\ n < q /\ least <= x /\ x <= most := by
 cases hc : bs[n]? with
 | none => rw [fY hc] at h; cases h
 | some c =>
  have hlt := (List.getElem?_eq_some_iff.mp hc).1; rw [cZ hc] at h
  cases hd : digitOf c with
  | none => simp only [cv,hd] at h; cases h
  | some d =>
   simp only [cv,hd] at h
   by_cases hm : least <= d /\ d <= most
   ·rw [if_pos hm] at h
    by_cases h0 : d = 0
    ·rw [if_pos h0] at h; cases h; exact ⟨rfl,by omega,by omega,by omega,by omega⟩
    ·rw [if_neg h0] at h; have h1 := sg (bs := bs) (most := most) (bs.drop (n + 1)) d (n + 1) rfl (by omega); have h2 := ve (most := most) (bs.drop (n + 1)) d (n + 1) hm.2; have e := Except.ok.inj h; rw [e] at h1 h2; simp only at h1 h2; exact ⟨h1.1,h1.2.1,by omega,by omega,h2.2⟩
   ·rw [if_neg hm] at h; cases h
theorem qU {bs : Bytes} {least most n e : Nat} (h : cv least most (bs.drop n) n = .error e) : e = n := by
 cases hc : bs[n]? with
 | none => rw [fY hc] at h; exact (Except.error.inj h).symm
 | some c =>
  rw [cZ hc] at h
  cases hd : digitOf c with
  | none => simp only [cv,hd] at h; exact (Except.error.inj h).symm
  | some d =>
   simp only [cv,hd] at h
   by_cases hm : least <= d /\ d <= most
   ·rw [if_pos hm] at h; cases h
   ·rw [if_neg hm] at h; exact (Except.error.inj h).symm
theorem tK {c d : Nat} (h : digitOf c = some d) : 48 <= c /\ c <= 57 /\ d = c - 48 := by
 unfold digitOf at h
 split at h
 ·rename_i hc; exact ⟨hc.1,hc.2,(Option.some.inj h).symm⟩
 ·cases h
end Ma

namespace Ma
open Ad
theorem aak : GREAT.toNat = 1000000000000000 := rfl
theorem aa9 {bs : Bytes} {n : Nat} (h : bs[n]? = some 45) : cellIn (bs.drop n) n = match cv 1 1000000000000000 (bs.drop (n + 1)) (n + 1) with
  | .ok x => .ok (-(x.1 : Int),x.2)
  | .error e => .error e := by
 rw [cZ h,qd]; rfl
theorem abv {bs : Bytes} {n : Nat} (h : bs[n]? ≠ some 45) : cellIn (bs.drop n) n = match cv 0 1000000000000000 (bs.drop n) n with
  | .ok x => .ok ((x.1 : Int),x.2)
  | .error e => .error e := by
 cases hc : bs[n]? with
 | none => rw [fY hc]; rfl
 | some c =>
  have h45 : c ≠ 45 := fun e => h (by rw [hc,e])
  rw [cZ hc]; simp only [cellIn]; rw [if_neg h45]
  by_cases h48 : c = 48
  ·subst h48; rfl
  ·rw [if_neg h48,aak]
   cases hd : digitOf c with
   | none => simp only [cv,oneTo,hd]
   | some d =>
    have hd2 := tK hd; simp only [cv,oneTo,hd]
    by_cases hm : 1 <= d /\ d <= 1000000000000000
    ·rw [if_pos hm,if_pos (by omega),if_neg (by omega)]
    ·exact absurd (show 1 <= d /\ d <= 1000000000000000 by omega) hm
def du (s : List Nat) (b : Bytes) (p : Nat) : Rd Shape := match lensIn (4 - s.length) (product_ s) b p with
 | .ok y => .ok (s ++ y.1,y.2)
 | .error e => .error e
def kW (bs : Bytes) (s : List Nat) (q : Nat) : Rd Shape := match bs[q]? with
 | none => .error q
 | some c => if c = 93 then .ok (s,bs.drop (q + 1),q + 1) else if c = 44 /\ s.length < 4 then du s (bs.drop (q + 1)) (q + 1) else .error q
theorem aaV (b : Bytes) (p : Nat) : du [] b p = lensIn 4 1 b p := by
 show (match lensIn 4 1 b p with
  | .ok y => .ok ([] ++ y.1,y.2)
  | .error e => .error e : Rd Shape) = _
 cases lensIn 4 1 b p with
 | error e => rfl
 | ok y => rfl
theorem aa6 {bs : Bytes} {s : List Nat} {p e : Nat} (hs : s.length < 4) (h : cv 1 (1024 / product_ s) (bs.drop p) p = .error e) : du s (bs.drop p) p = .error e := by
 unfold du; rw [qd] at h; have e1 : 4 - s.length = (3 - s.length) + 1 := by omega
 rw [e1,lensIn]; have e2 : CELLS = 1024 := rfl; rw [e2,h]
theorem abT {bs : Bytes} {s : List Nat} {p x q : Nat} {rest : Bytes} (hs : s.length < 4) (h : cv 1 (1024 / product_ s) (bs.drop p) p = .ok (x,rest,q)) : du s (bs.drop p) p = kW bs (s ++ [x]) q := by
 have hr := (oR h).1; unfold du; rw [qd] at h; have e1 : 4 - s.length = (3 - s.length) + 1 := by omega
 have e2 : CELLS = 1024 := rfl; rw [e1,lensIn,e2,h]; subst hr; unfold kW; simp only
 cases hc : bs[q]? with
 | none => rw [fY hc]
 | some c =>
  rw [cZ hc]; simp only
  by_cases h93 : c = 93
  ·rw [if_pos h93,if_pos h93]
  ·rw [if_neg h93,if_neg h93]; have el : (s ++ [x]).length = s.length + 1 := by simp
   by_cases h44 : c = 44 /\ 0 < 3 - s.length
   ·rw [if_pos h44,if_pos ⟨h44.1,by omega⟩]; unfold du
    have e3 : product_ (s ++ [x]) = product_ s * x := by
     rw [dD]; show _ * (x * 1) = _; rw [Nat.mul_one]
    have e4 : 4 - (s ++ [x]).length = 3 - s.length := by omega
    rw [e3,e4]
    cases lensIn (3 - s.length) (product_ s * x) (bs.drop (q + 1)) (q + 1) with
    | error e => rfl
    | ok y =>
     simp only; rw [List.append_assoc]; rfl
   ·rw [if_neg h44,if_neg (fun z => h44 ⟨z.1,by omega⟩)]
theorem sC {n i : Nat} (hn : 0 < n) : (i + 1) % n = if i % n + 1 = n then 0 else i % n + 1 := by
 have h := Nat.mod_lt i hn; rw [Nat.add_mod]
 by_cases h1 : n = 1
 ·subst h1; have : i % 1 = 0 := Nat.mod_one i; rw [this]; rfl
 ·rw [Nat.mod_eq_of_lt (show 1 < n by omega)]
  by_cases h2 : i % n + 1 = n
  ·rw [if_pos h2,h2,Nat.mod_self]
  ·rw [if_neg h2,Nat.mod_eq_of_lt (by omega)]
def cO (n k i : Nat) (cs : List Int) (b : Bytes) (p : Nat) : Rd (List Int) := match cellsIn n k i b p with
 | .ok z => .ok (cs ++ z.1,z.2)
 | .error e => .error e
theorem zx (n k i : Nat) (b : Bytes) (p : Nat) : cO n k i [] b p = cellsIn n k i b p := by
 unfold cO
 cases cellsIn n k i b p with
 | error e => rfl
 | ok y => rfl
theorem xM (n i : Nat) (cs : List Int) (b : Bytes) (p : Nat) : cO n 0 i cs b p = .ok (cs,b,p) := by
 unfold cO; show (Except.ok (cs ++ [],b,p) : Rd (List Int)) = _; rw [List.append_nil]
theorem yO {n k i : Nat} {cs : List Int} {b : Bytes} {p e : Nat} (h : cellIn b p = .error e) : cO n (k + 1) i cs b p = .error e := by
 unfold cO; rw [cellsIn,h]
theorem wq {bs : Bytes} {c q : Nat} (h : bs[q]? = some c) : byte c (bs.drop q) q = .ok ((),bs.drop (q + 1),q + 1) := by
 rw [cZ h]; exact if_pos rfl
theorem yx {bs : Bytes} {c q : Nat} (h : bs[q]? ≠ some c) : byte c (bs.drop q) q = .error q := by
 cases hc : bs[q]? with
 | none => rw [fY hc]; rfl
 | some d =>
  rw [cZ hc]; exact if_neg (fun e => h (by rw [hc,e]))
theorem zU {bs : Bytes} {n k i : Nat} {cs : List Int} {p q : Nat} {z : Int} (h : cellIn (bs.drop p) p = .ok (z,bs.drop q,q)) (hb : bs[q]? ≠ some (if i + 1 = n then 10 else 32)) : cO n (k + 1) i cs (bs.drop p) p = .error q := by
 unfold cO; rw [cellsIn,h]; simp only; rw [yx hb]
theorem zK {bs : Bytes} {n k i : Nat} {cs : List Int} {p q : Nat} {z : Int} (h : cellIn (bs.drop p) p = .ok (z,bs.drop q,q)) (hb : bs[q]? = some (if i + 1 = n then 10 else 32)) :
  cO n (k + 1) i cs (bs.drop p) p = cO n k (if i + 1 = n then 0 else i + 1) (cs ++ [z]) (bs.drop (q + 1)) (q + 1) := by
 unfold cO; rw [cellsIn,h]; simp only; rw [wq hb]; simp only
 cases cellsIn n k (if i + 1 = n then 0 else i + 1) (bs.drop (q + 1)) (q + 1) with
 | error e => rfl
 | ok w =>
  simp only; rw [List.append_assoc]; rfl
end Ma

namespace L2
open PySem PySem.Spec PyProof.Rows
theorem aaH : bootBuiltins "str" = some (.type "str") := by decide +kernel
theorem fq : bootBuiltins "ord" = some (.builtin "ord") := by decide +kernel
theorem wE (i : Int) : TL.tl (Str.ofString (toString i)) = Ad.decimal i := by
 rw [TL.bZ]
 cases i with
 | ofNat n =>
  show (Nat.repr n).toList.map Char.toNat = Ad.decimal (Int.ofNat n); unfold Ad.decimal; rw [if_neg (by simp)]; unfold Ad.decNat Nat.repr; rw [String.toList_ofList]; rfl
 | negSucc n =>
  show ("-" ++ Nat.repr (n + 1)).toList.map Char.toNat = Ad.decimal (Int.negSucc n); unfold Ad.decimal; rw [if_pos (Int.negSucc_lt_zero n),String.toList_append,List.map_append]; unfold Ad.decNat Nat.repr; rw [String.toList_ofList,String.toList_ofList]; rfl
theorem yB (n : Nat) : Ad.decimal (n : Int) = Ad.decNat n := by
 unfold Ad.decimal; rw [if_neg (by omega)]; rfl
theorem rz : ∀ (k n : Nat),n < 10 ^ (k + 1) -> (Ad.decNat n).length <= k + 1
 | 0,n,h => by
  rw [Ma.zO (by omega)]
  simp
 | k + 1,n,h => by
  by_cases h10 : n < 10
  ·rw [Ma.zO h10]
   simp
  ·rw [Ma.aa2 (by omega),List.length_append]; have := rz k (n / 10) (by rw [Nat.pow_succ] at h; omega); simp only [List.length_cons,List.length_nil]; omega
theorem rX {z : Int} (h : Ad.cellFine z = true) : (Ad.decimal z).length <= 17 := by
 have h2 := Ma.iq.mp h; have := rz 15 z.natAbs (by omega); unfold Ad.decimal
 split
 ·rw [List.length_cons]; omega
 ·omega
theorem uh (c : Nat) : ∀ l : List (List Nat),TL.mi [c] l = Ad.joinWith c l
 | [] => rfl
 | [x] => rfl
 | x :: y :: r => by
  show x ++ ([c] ++ TL.mi [c] (y :: r)) = x ++ (c :: Ad.joinWith c (y :: r)); rw [uh c (y :: r)]; rfl
theorem vA : ∀ l : List (List Nat),TL.mi [] l = l.flatten
 | [] => rfl
 | [x] => by simp [TL.mi]
 | x :: y :: r => by
  show x ++ ([] ++ TL.mi [] (y :: r)) = _; rw [vA (y :: r),List.nil_append]; rfl
theorem xb {y : Str} {c : Nat} (h : TL.tl y = [c]) (l : List Str) : TL.tl (Txt.join y l) = Ad.joinWith c (l.map TL.tl) := by
 rw [TL.yL,TL.uN,h,uh]
theorem aaS {y : Str} (h : TL.tl y = []) (l : List Str) : TL.tl (Txt.join y l) = (l.map TL.tl).flatten := by
 rw [TL.yL,TL.uN,h,vA]
theorem wx {b : Nat} : ∀ {l : List Str},(∀ y ∈ l,y.length <= b) -> (l.map (·.length)).sum <= l.length * b
 | [],_ => by simp
 | y :: l,h => by
  have h1 := wx (l := l) fun z hz => h z (List.mem_cons_of_mem _ hz)
  have h2 := h y (List.mem_cons_self ..); rw [List.map_cons,List.sum_cons,List.length_cons,Nat.succ_mul]; omega
theorem sO (c b : Nat) : ∀ {l : List (List Nat)},(∀ y ∈ l,y.length <= b) -> (Ad.joinWith c l).length <= l.length * (b + 1)
 | [],_ => by simp [Ad.joinWith]
 | [x],h => by
  have := h x (List.mem_cons_self ..); show x.length <= 1 * (b + 1); omega
 | x :: y :: r,h => by
  have h1 := sO c b (l := y :: r) fun z hz => h z (List.mem_cons_of_mem _ hz)
  have h2 := h x (List.mem_cons_self ..); show (x ++ (c :: Ad.joinWith c (y :: r))).length <= _; rw [List.length_append,List.length_cons,List.length_cons (a := x),Nat.succ_mul]; omega
theorem wg.mul {k n : Nat} (hn : 1 <= n) (hn2 : n <= 1024) (h : k * n <= 1024) : wg 0 ((k * n : Nat) : Int) (n : Int) k := by
 have hk : k <= 1024 := Nat.le_trans (Nat.le_mul_of_pos_right k hn) h
 have e : Builtin.Range.rangeSize 0 ((k * n : Nat) : Int) (n : Int) = k := by
  unfold Builtin.Range.rangeSize; rw [if_pos (by omega)]
  by_cases h0 : k = 0
  ·subst h0; rw [if_neg (by simp)]; rfl
  ·have hpos : 0 < k * n := Nat.mul_pos (by omega) (by omega); rw [if_pos (by omega)]; have e1 : ((k * n : Nat) : Int) - 0 - 1 = ((k * n - 1 : Nat) : Int) := by omega
   rw [e1,← Int.natCast_ediv]
   have e2 : (k * n - 1) / n = k - 1 := by
    have : k * n - 1 = n * (k - 1) + (n - 1) := by
     have h3 : k * n = (k - 1) * n + n := by
      rw [← Nat.succ_mul]; congr 1; omega
     rw [h3,Nat.mul_comm n]; omega
    rw [this,Nat.mul_add_div (by omega),Nat.div_eq_of_lt (by omega),Nat.add_zero]
   rw [e2]; omega
 refine ⟨by omega,by omega,?_,e⟩; unfold Builtin.Range.small; rw [e]; have hj : (0 : Int) <= ((k * n : Nat) : Int) /\ ((k * n : Nat) : Int) <= 1024 := by omega
 have hr : (k : Int) <= 1024 := by omega
 have hnn : (1 : Int) <= (n : Int) /\ (n : Int) <= 1024 := by omega
 generalize ((k * n : Nat) : Int) = j at hj; have h0 : (0 : Int) <= (k : Int) := by omega
 generalize (k : Int) = kk at hr h0; generalize (n : Int) = nn at hnn
 have fit : ∀ i : Int,0 <= i -> i <= 10000 -> Builtin.Range.rangeFitsLong i = true := fun i h1 h2 => by
  unfold Builtin.Range.rangeFitsLong; rw [decide_eq_true (show -(2 ^ 63) <= i by omega),decide_eq_true (show i < 2 ^ 63 by omega)]; rfl
 rw [fit 0 (by omega) (by omega),fit nn (by omega) (by omega),fit j hj.1 (by omega),fit kk h0 (by omega),if_pos (by omega),fit (j + (nn - 1)) (by omega) (by omega)]
 simp
theorem vI (n : Nat) : ∀ (k : Nat) (l : List Int),Ad.rowsOf k n l = (List.range k).map fun i => (l.drop (i * n)).take n
 | 0,_ => rfl
 | k + 1,l => by
  rw [Ad.rowsOf,vI n k (l.drop n),List.range_succ_eq_map,List.map_cons,List.map_map,Nat.zero_mul,List.drop_zero]; congr 1; apply List.map_congr_left; intro i _; show ((l.drop n).drop (i * n)).take n = (l.drop ((i + 1) * n)).take n; rw [List.drop_drop,Nat.succ_mul,Nat.add_comm]
theorem yG {n : Nat} (g : Nat -> Str) : (List.range n).map (fun i => V.str (g i)) = ((List.range n).map g).map V.str := by
 rw [List.map_map]; rfl
end L2

namespace Go
open PySem PySem.Spec PyProof.Rows L2
open Ma (nz)
section
variable {P : Program} {w : World} {K : Fg} {mg : Str -> Option Value} {base : Heap} {C al : Addr}
def cI (K : Fg) : Sp := fun vs H Q _ => ∃ (a : Addr) (s : List Nat),vs = [.ref a] /\ ag K H a (vn s) /\ (∀ n ∈ s,n < 2 ^ 63) /\ Q (.int (Ad.product_ s)) H
theorem sc_cell_count : aq ["lengths","cells","length"] ["lengths"] (aj iS) := fs
theorem vP (D : Df K mg "cell_count" "cell_count" iS ["lengths"]) : Ok P w K mg base 1 "cell_count" ["lengths"] (cI K) := by
 refine D.ok sc_cell_count (fun _ _ _ _ h => by obtain ⟨_,_,rfl,_⟩ := h; rfl) (fun f cdv A outer s H vs Q E hr h => ?_); obtain ⟨a,ns,rfl,hS,hb,k⟩ := h
 refine ⟨_,(ad (aH 1 sc_cell_count.nd ai)
  (ad (bQ PassesOwn.never rfl (bD (pv 0)) (a0 2 sc_cell_count.nd) (ae (aH 1 sc_cell_count.nd (aV dj (pv 1) (pv 2)))))
  (ae (ah (pv 1))))),?_⟩
 refine ⟨_,rfl,a,rfl,⟨_,hS⟩,d7 (K := K) (a := a) (xs := vn ns) (fun i σ H' => ∃ (c : Int) (v : Option V),σ = [some (.ref a),some (.int c),v] /\ c = Ad.product_ (ns.take i) /\ H' = H)
  ⟨1,none,rfl,rfl,rfl⟩ (fun i σ H' _ ⟨_,_,_,_,e⟩ => e ▸ hS) ?_ ?_⟩
 ·rintro i x σ H' hi ⟨c,v,rfl,hc,rfl⟩; obtain ⟨z,hz,rfl⟩ := cJ hi; have := hb z (List.mem_of_getElem? hz); refine ⟨_,rfl,_,rfl,_,_,rfl,rfl,.inr ⟨by omega,by omega⟩,_,_,rfl,?_,rfl⟩; rw [Ma.aae hz,Int.natCast_mul,hc]
 ·rintro σ H' ⟨c,v,rfl,hc,rfl⟩; refine ⟨_,rfl,?_⟩; rw [List.length_map,List.length_map,List.take_length] at hc; rw [hc]; exact k
def ca (K : Fg) : Sp := fun vs H Q _ => ∃ (a : Addr) (s : List Nat),vs = [.ref a] /\ ag K H a (vn s) /\ (∀ n ∈ s,n < 2 ^ 63) /\ Q (.bl (Ad.shapeOk s)) H
theorem sc_is_shape : aq ["lengths","length"] ["lengths"] (aj lc) := fs
theorem xS (D : Df K mg "is_shape" "is_shape" lc ["lengths"]) (T : Txt K mg C) (a9 : Ok P w K mg base 1 "cell_count" ["lengths"] (cI K)) : Ok P w K mg base 2 "is_shape" ["lengths"] (ca K) := by
 refine D.ok sc_is_shape (fun _ _ _ _ h => by obtain ⟨_,_,rfl,_⟩ := h; rfl) (fun f cdv A outer s H vs Q E hr h => ?_); obtain ⟨a,ns,rfl,hS,hb,k⟩ := h
 refine ⟨_,(ad (aw (aE k7 (bA T.b_len (pv 0)) (aP T.g_MOST_LENGTHS)) (ae (ah dB)) ao)
  (ad (bQ PassesOwn.never rfl (bD (pv 0)) (a0 1 sc_is_shape.nd) (ae (aw (aE iG (pv 1) ai) (ae (ah dB)) ao)))
  (ae (ah (lF iW (ap a9 hr (ab (pv 0) ac)) (aP T.g_MOST_CELLS)))))),?_⟩
 refine ⟨_,rfl,a,_,rfl,.inl hS,_,_,rfl,rfl,_,rfl,a_ (fun h => ?_) (fun h => ?_)⟩
 ·have h1 := of_decide_eq_true h
  have e : Ad.shapeOk ns = false := by
   cases e : Ad.shapeOk ns with
   | false => rfl
   | true =>
    have := (Ma.aF e).1; simp at h1; omega
  rw [e] at k; exact k
 ·have h1 : ns.length <= 4 := by
   simp at h; omega
  refine ⟨_,rfl,a,rfl,⟨_,hS⟩,d7 (K := K) (a := a) (xs := vn ns) (fun i σ H' => ∃ (v : Option V),σ = [some (.ref a),v] /\ (∀ n ∈ ns.take i,1 <= n) /\ H' = H)
   ⟨none,rfl,by simp,rfl⟩ (fun i σ H' _ ⟨_,_,_,e⟩ => e ▸ hS) ?_ ?_⟩
  ·rintro i x σ H' hi ⟨v,rfl,hc,rfl⟩; obtain ⟨z,hz,rfl⟩ := cJ hi; refine ⟨_,rfl,_,_,rfl,rfl,_,rfl,a_ (fun h => ?_) (fun h => ?_)⟩
   ·have h2 := of_decide_eq_true h
    have e : Ad.shapeOk ns = false := by
     cases e : Ad.shapeOk ns with
     | false => rfl
     | true =>
      have := (Ma.aF e).2.1 z (List.mem_of_getElem? hz); omega
    rw [e] at k; exact k
   ·refine ⟨_,rfl,fun n hn => ?_,rfl⟩; rw [bT hz] at hn
    rcases List.mem_append.mp hn with q | q
    ·exact hc n q
    ·have : n = z := by simpa using q
     simp at h; omega
  ·rintro σ H' ⟨v,rfl,hc,rfl⟩; rw [List.length_map,List.length_map,List.take_length] at hc; refine ⟨_,rfl,a,ns,rfl,hS,hb,_,_,rfl,rfl,?_⟩
   have e : Ad.shapeOk ns = decide ((Ad.product_ ns : Int) <= 1024) := by
    by_cases q : Ad.product_ ns <= 1024
    ·rw [Ma.shape_iff.mpr ⟨h1,hc,q⟩,decide_eq_true (by omega)]
    ·rw [decide_eq_false (by omega)]
     cases e : Ad.shapeOk ns with
     | false => rfl
     | true => exact absurd (Ma.aF e).2.2 q
   rw [e] at k; exact k
def np (K : Fg) : Sp := fun vs H Q _ => ∃ (a b : Addr) (s p : List Nat),vs = [.ref a,.ref b] /\ ag K H a (vn s) /\ ag K H b (vn p) /\ ∀ H',ak H H' -> Q (.bl (Ad.has s p)) H'
theorem sc_is_place : aq ["lengths","place","length","number"] ["lengths","place"] (aj k_) := fs
theorem xQ (D : Df K mg "is_place" "is_place" k_ ["lengths","place"]) (T : Txt K mg C) : Ok P w K mg base 1 "is_place" ["lengths","place"] (np K) := by
 refine D.ok sc_is_place (fun _ _ _ _ h => by obtain ⟨_,_,_,_,rfl,_⟩ := h; rfl) (fun f cdv A outer s H vs Q E hr h => ?_); obtain ⟨a,b,ns,p,rfl,ha,hb,k⟩ := h
 refine ⟨_,(ad (aw (aE bz (bA T.b_len (pv 1)) (bA T.b_len (pv 0))) (ae (ah dB)) ao)
  (ad (bQ PassesOwn.never rfl (fk rfl T.b_zip (ab (pv 0) (ab (pv 1) ac))) (gF rfl (bd (a0 2 sc_is_place.nd) (bd (a0 3 sc_is_place.nd) cQ))) (ae (aw (PW.pt (dv (aE iG (pv 3) ai) (dm (aE ml (pv 3) (pv 2))))) (ae (ah dB)) ao)))
  (ae (ah dB)))),?_⟩
 refine ⟨_,rfl,b,_,rfl,.inl hb,_,rfl,a,_,rfl,.inl ha,rfl,_,rfl,?_⟩
 by_cases hl : p.length = ns.length
 ·refine bq (by rw [List.length_map,List.length_map,List.length_map,List.length_map,hl]) ?_
  refine ⟨_,rfl,_,rfl,a,b,_,_,rfl,ha,hb,im (K := K) (a := a) (b := b) (xs := vn ns) (ys := vn p) (fun i σ H' => ∃ (v u : Option V),σ = [some (.ref a),some (.ref b),v,u] /\ (∀ (j x y : Nat),j < i -> ns[j]? = some x -> p[j]? = some y -> y < x) /\ ak H H')
   ⟨none,none,rfl,by omega,ak.refl H⟩ (by simp [hl]) (fun i σ H' _ ⟨_,_,_,_,e⟩ => ⟨e.seq ha,e.seq hb⟩) ?_ ?_⟩
  ·rintro i x y σ H' T hx0 hy0 hT ⟨v,u,rfl,hc,sm⟩; obtain ⟨x,hx,rfl⟩ := cJ hx0; obtain ⟨y,hy,rfl⟩ := cJ hy0; refine ⟨T,_,rfl,cx.of am,rfl,_,_,rfl,_,_,rfl,rfl,_,rfl,_,_,rfl,rfl,_,rfl,a_ (fun h => ?_) (fun h => ?_)⟩
   ·have h2 := of_decide_eq_true h; omega
   ·refine ⟨_,rfl,_,rfl,_,_,rfl,rfl,_,rfl,a_ (fun h => ?_) (fun h => ?_)⟩
    ·have h2 := of_decide_eq_true h; have e := Ma.zW hx hy (by omega); rw [e] at k; exact k _ (sm.upd (sm.free hT))
    ·simp at h; refine ⟨_,_,rfl,fun j x' y' hj e1 e2 => ?_,sm.upd (sm.free hT)⟩
     by_cases hji : j = i
     ·subst hji; rw [hx] at e1; rw [hy] at e2; cases e1; cases e2; omega
     ·exact hc j x' y' (by omega) e1 e2
  ·rintro σ H' ⟨v,u,rfl,hc,sm⟩; have e : Ad.has ns p = true := Ma.in_iff.mp (Ma.In.mk hl fun j x y e1 e2 => hc j x y (by have := (List.getElem?_eq_some_iff.mp e1).1; simp; omega) e1 e2); rw [e] at k; exact k _ sm
 ·have e : Ad.has ns p = false := by
   cases e : Ad.has ns p with
   | false => rfl
   | true => exact absurd (Ma.in_iff.mpr e).len hl
  rw [e] at k; refine a_ (fun _ => k _ (ak.refl H)) (fun h => absurd ?_ h)
  simp
  omega
def f8 (K : Fg) : Sp := fun vs H Q _ => ∃ (a b : Addr) (s p : List Nat),vs = [.ref a,.ref b] /\ ag K H a (vn s) /\ ag K H b (vn p) /\ p.length = s.length /\ (∀ n ∈ s,n < 2 ^ 63) /\ ∀ H',ak H H' -> Q (.int (Ad.cellOf s p)) H'
theorem sc_number_of : aq ["lengths","place","cell","length","number"] ["lengths","place"] (aj jK) := fs
theorem wQ (D : Df K mg "number_of" "number_of" jK ["lengths","place"]) (T : Txt K mg C) : Ok P w K mg base 1 "number_of" ["lengths","place"] (f8 K) := by
 refine D.ok sc_number_of (fun _ _ _ _ h => by obtain ⟨_,_,_,_,rfl,_⟩ := h; rfl) (fun f cdv A outer s H vs Q E hr h => ?_); obtain ⟨a,b,ns,p,rfl,ha,hb,hl,hbd,k⟩ := h
 refine ⟨_,(ad (aH 2 sc_number_of.nd ai)
  (ad (bQ PassesOwn.never rfl (fk rfl T.b_zip (ab (pv 0) (ab (pv 1) ac))) (gF rfl (bd (a0 3 sc_number_of.nd) (bd (a0 4 sc_number_of.nd) cQ))) (ae (aH 2 sc_number_of.nd (aV cM (aV dj (pv 2) (pv 3)) (pv 4)))))
  (ae (ah (pv 2))))),?_⟩
 refine ⟨_,rfl,_,rfl,a,b,_,_,rfl,ha,hb,im (K := K) (a := a) (b := b) (xs := vn ns) (ys := vn p) (fun i σ H' => ∃ (c : Int) (v u : Option V),σ = [some (.ref a),some (.ref b),some (.int c),v,u] /\ c = Ad.cellOf (ns.take i) (p.take i) /\ ak H H')
  ⟨0,none,none,rfl,rfl,ak.refl H⟩ (by simp [hl]) (fun i σ H' _ ⟨_,_,_,_,_,e⟩ => ⟨e.seq ha,e.seq hb⟩) ?_ ?_⟩
 ·rintro i x y σ H' T hx0 hy0 hT ⟨c,v,u,rfl,hc,sm⟩; obtain ⟨x,hx,rfl⟩ := cJ hx0; obtain ⟨y,hy,rfl⟩ := cJ hy0; have := hbd x (List.mem_of_getElem? hx); refine ⟨T,_,rfl,cx.of am,rfl,_,_,rfl,_,_,rfl,rfl,_,rfl,_,rfl,_,_,rfl,rfl,.inr ⟨by omega,by omega⟩,_,rfl,_,_,rfl,rfl,_,_,_,rfl,?_,sm.upd (sm.free hT)⟩; rw [Ma.xR hx hy hl,Int.natCast_add,Int.natCast_mul,hc]
 ·rintro σ H' ⟨c,v,u,rfl,hc,sm⟩; refine ⟨_,rfl,?_⟩; rw [List.length_map,List.length_map,List.take_length,← hl,List.take_length] at hc; rw [hc]; exact k _ sm
def rW (K : Fg) : Sp := fun vs H Q _ => ∃ (a : Addr) (s : List Nat) (c : Nat),vs = [.ref a,.int c] /\ ag K H a (vn s) /\ Ad.shapeOk s = true /\ c < Ad.product_ s /\ ∀ H' q,ak H H' -> H q = none -> H' q = some (.lst (vn (Ad.placeOf s c))) -> Q (.ref q) H'
theorem sc_place_of : aq ["lengths","cell","place","left","length"] ["lengths","cell"] (aj kY) := fs
theorem x4 (D : Df K mg "place_of" "place_of" kY ["lengths","cell"]) (T : Txt K mg C) : Ok P w K mg base 1 "place_of" ["lengths","cell"] (rW K) := by
 refine D.ok sc_place_of (fun _ _ _ _ h => by obtain ⟨_,_,_,rfl,_⟩ := h; rfl) (fun f cdv A outer s H vs Q E hr h => ?_); obtain ⟨a,ns,c,rfl,ha,hsh,hc,k⟩ := h; obtain ⟨hs1,hs2,hs3⟩ := Ma.aF hsh
 refine ⟨_,(ad (aH 2 sc_place_of.nd (az ac))
  (ad (aH 3 sc_place_of.nd (pv 1))
  (ad (bQ PassesOwn.never rfl (xO rfl T.b_reversed (ab (pv 0) ac)) (a0 4 sc_place_of.nd) (ad (cE (gn PySem.F.plainAttrs_list PySem.F.slot_list_append PySem.F.type_list_append c7 (pv 2) (ab (aV wP (pv 3) (pv 4)) ac)))
  (ae (aH 3 sc_place_of.nd (aV x9 (pv 3) (pv 4))))))
  (ad (cE (acw PySem.F.plainAttrs_list PySem.F.slot_list_reverse PySem.F.type_list_reverse zA (pv 2)))
  (ae (ah (pv 2))))))),?_⟩
 refine ⟨Nat.zero_le _,fun q hq => ?_⟩
 refine ⟨_,rfl,_,rfl,a,vn ns,rfl,(ak.new hq).seq ha,ab8 (K := K) (a := a) (xs := vn ns) (fun i σ H' => ∃ (left : Int) (v : Option V) (acc : List Nat),σ = [some (.ref a),some (.int c),some (.ref q),some (.int left),v] /\ H' q = some (.lst (vn acc)) /\ acc.reverse = Ma.ox (ns.drop (ns.length - i)) c /\ left = ((c / Ad.product_ (ns.drop (ns.length - i)) : Nat) : Int) /\ ak H H')
  ⟨c,none,[],rfl,am,by simp [Ma.ox],by simp [Ma.md],ak.new hq⟩ (fun i σ H' _ ⟨_,_,_,_,_,_,_,e⟩ => e.seq ha) ?_ ?_⟩
 ·rintro i x σ H' hi hx0 ⟨left,v,acc,rfl,hq',hacc,hleft,sm⟩; obtain ⟨x,hx,rfl⟩ := cJ hx0; rw [List.length_map,List.length_map] at hx hi; have h1 := hs2 x (List.mem_of_getElem? hx); have h2 := Ma.b_ hs2 x (List.mem_of_getElem? hx); have e1 : ns.length - (i + 1) + 1 = ns.length - i := by omega
  have hx' : ns[ns.length - (i + 1)]? = some x := by
   rw [← hx]; congr 1; omega
  have e2 := Ma.abb (c := c) hx'; have e3 := Ma.z0 hx'; rw [e1] at e2 e3
  have hal : acc.length = i := by
   have := congrArg List.length hacc; rw [List.length_reverse,Ma.yn,List.length_drop] at this; omega
  refine ⟨_,rfl,.inl ⟨rfl,_,ag.of hq'⟩,_,rfl,_,rfl,_,_,rfl,rfl,(by show (0 : Int) < (x : Int); omega),q,_,_,rfl,rfl,hq',(by rw [List.length_map,List.length_map,hal]; show i < 2 ^ 24; omega),?_⟩; refine ⟨_,rfl,_,rfl,_,_,rfl,rfl,⟨(by show (0 : Int) < (x : Int); omega),(by show (x : Int) < 1073741824; omega)⟩,_,_,acc ++ [(c / Ad.product_ (ns.drop (ns.length - i))) % x],rfl,?_,?_,?_,sm.upd hq⟩
  ·rw [am,p9,hleft]; rfl
  ·rw [List.reverse_append,e2,hacc]; rfl
  ·rw [e3,hleft,Nat.mul_comm x,← Nat.div_div_eq_div_mul]; rfl
 ·rintro σ H' ⟨left,v,acc,rfl,hq',hacc,hleft,sm⟩; refine ⟨_,rfl,.inl ⟨rfl,_,ag.of hq'⟩,q,_,rfl,rfl,hq',_,rfl,?_⟩; refine k _ q (sm.upd hq) hq ?_; rw [am]; rw [List.length_map,List.length_map,Nat.sub_self,List.drop_zero,Ma.vH _ _ hc] at hacc; rw [← hacc,acm]
def Pls (H : Hp) (D : Addr) (s : List Nat) : Prop := ∃ qs : List Addr,H D = some (.lst (qs.map V.ref)) /\ qs.length = Ad.product_ s /\ ∀ (c : Nat) q,qs[c]? = some q -> H q = some (.lst (vn (Ad.placeOf s c)))
def eG (K : Fg) : Sp := fun vs H Q _ => ∃ (a : Addr) (s : List Nat),vs = [.ref a] /\ ag K H a (vn s) /\ Ad.shapeOk s = true /\ ∀ H' q,ak H H' -> H q = none -> Pls H' q s -> Q (.ref q) H'
theorem sc_places_of : aq ["lengths","cell"] ["lengths"] (aj gO) := fs
theorem xc (D : Df K mg "places_of" "places_of" gO ["lengths"]) (T : Txt K mg C) (a9 : Ok P w K mg base 1 "cell_count" ["lengths"] (cI K)) (oP : Ok P w K mg base 1 "place_of" ["lengths","cell"] (rW K)) : Ok P w K mg base 2 "places_of" ["lengths"] (eG K) := by
 refine D.ok sc_places_of (fun _ _ _ _ h => by obtain ⟨_,_,rfl,_⟩ := h; rfl) (fun f cdv A outer s H vs Q E hr h => ?_); obtain ⟨a,ns,rfl,ha,hsh,k⟩ := h; obtain ⟨hs1,hs2,hs3⟩ := Ma.aF hsh; have hb : ∀ n ∈ ns,n < 2 ^ 63 := fun n hn => Nat.lt_of_le_of_lt (Nat.le_trans (Ma.b_ hs2 n hn) hs3) (by decide)
 refine ⟨_,(ae (ah (dt rfl sc_places_of.nd (dX rfl T.b_range (ab (ap a9 hr (ab (pv 0) ac)) ac)) (a8 (N := ["lengths","cell"]) (sc := aj gO) (own := [("cell",1)]) (by decide +kernel)) (fun _ _ _ _ _ => (a0 1 sc_places_of.nd)) (fun _ _ _ _ _ => br) (fun _ _ _ _ _ => (ap oP hr (ab (pv 0) (ab (pv 1) ac))))))),?_⟩; refine ⟨_,rfl,a,ns,rfl,ha,hb,_,rfl,by omega,by omega,fun q hq => ?_⟩; refine oH (fM) (fun i => vn (Ad.placeOf ns i)) hq (by show _ <= 2 ^ 24; omega) ?_ bf ?_
 ·rintro i H1 x H2 hi sm ⟨rfl,rfl⟩ Q' kq; refine ⟨rfl,_,rfl,_,rfl,a,ns,i,?_,sm.seq ha,hsh,by omega,fun H3 q3 s3 n3 h3 => kq q3 H3 s3 n3 h3⟩; rw [Int.zero_add]; rfl
 ·intro H' qs sm h1 h2 h3; exact k H' q sm hq ⟨qs,h1,by rw [h2]; rfl,h3⟩
end
end Go

namespace Go
open PySem PySem.Spec PyProof.Rows L2
section
variable {P : Program} {w : World} {K : Fg} {mg : Str -> Option Value} {base : Heap} {C al : Addr}
def bO (C : Addr) : Sp := fun vs H Q _ => ∃ p dx a b : Addr,vs = [.ref p,.ref a,.ref b] /\ H p = some (.ins C dx []) /\ ∀ H' : Hp,H' p = some (.ins C dx (af a b)) -> (∀ b o,H b = some o -> b ≠ p -> H' b = some o) -> Q .non H'
theorem rG : aq ["self","lengths","cells"] ["self","lengths","cells"] (aj eU) := fs
theorem aaM (D : wZ K mg "Array" C eU ["self","lengths","cells"]) (T : Txt K mg C) : dO P w K mg base 1 "Array" C ["self","lengths","cells"] (bO C) := by
 refine D.ok rG (fun _ _ _ _ h => by obtain ⟨_,_,_,_,rfl,_⟩ := h; rfl) (fun q f cdv A outer s H vs Q E hr h => ?_); obtain ⟨p,dx,a,b,rfl,hp,k⟩ := h
 refine ⟨_,(ad (lm (pv 0) (pv 1) rfl)
  (ae (lm (pv 0) (pv 2) rfl))),?_⟩
 refine ⟨_,rfl,_,rfl,p,C,dx,[],rfl,hp,T.cl,T.nL,(by show 0 < 1000; decide),?_⟩; refine ⟨_,rfl,_,rfl,p,C,dx,_,rfl,am,T.cl,T.nC,(by show 1 < 1000; decide),?_⟩; exact k _ am fun b o e hb => by rw [aK hb,aK hb]; exact e
theorem ph {H : Hp} {Q : VK} {a b : Addr} {A : Ad.Arr} (ha : H a = some (.lst (vn A.shape))) (hb : H b = some (.lst (vi A.cells))) (k : ∀ x H',H x = none -> ak H H' -> b0 C H' x A -> Q (.ref x) H') :
  ∀ x dx,H x = none -> H dx = none -> dx ≠ x -> bO C (.ref x :: ([.ref a,.ref b] ++ [])) (upd (upd H dx (.own x)) x (.ins C dx [])) (fun v H2 => v = .non /\ Q (.ref x) H2) E0 := by
 intro x dx hx hdx hne; refine ⟨x,dx,a,b,rfl,am,fun H' h1 h2 => ⟨rfl,?_⟩⟩; have sm : ak H H' := ak.made hx hdx h2; exact k x H' hx sm ⟨dx,a,b,h1,sm _ _ ha,sm _ _ hb⟩
def gh : Sp := fun vs H Q _ => ∃ z : Int,vs = [.int z] /\ Q (.bl (Ad.cellFine z)) H
theorem yX : aq ["number"] ["number"] (aj mn) := fs
theorem zH (D : Df K mg "is_cell" "is_cell" mn ["number"]) (T : Txt K mg C) : Ok P w K mg base 1 "is_cell" ["number"] (gh) := by
 refine D.ok yX (fun _ _ _ _ h => by obtain ⟨_,rfl,_⟩ := h; rfl) (fun f cdv A outer s H vs Q E hr h => ?_); obtain ⟨z,rfl,k⟩ := h; refine ⟨_,(ae (ah (qX (lF iW (rk nZ (aP T.g_GREATEST_CELL)) (pv 0)) (tq (lF iW (pv 0) (aP T.g_GREATEST_CELL)))))),?_⟩; refine ⟨_,rfl,_,rfl,_,_,rfl,rfl,_,rfl,a_ (fun h => ?_) (fun h => ?_)⟩
 ·refine ⟨_,rfl,_,_,rfl,rfl,?_⟩
  have e : Ad.cellFine z = decide (z <= 1000000000000000) := by
   have h1 := of_decide_eq_true h; unfold Ad.cellFine Ad.GREAT; rw [decide_eq_true (show (-1000000000000000 : Int) <= z by omega),Bool.true_and]
  rw [e] at k; exact k
 ·have e : Ad.cellFine z = false := by
   simp at h; unfold Ad.cellFine Ad.GREAT; rw [decide_eq_false (show ¬ (-1000000000000000 : Int) <= z by omega),Bool.false_and]
  rw [e] at k; exact k
def iw (K : Fg) (C : Addr) : Sp := fun vs H Q _ => ∃ (x p : Addr) (A : Ad.Arr) (pl : List Nat),vs = [.ref x,.ref p] /\ b0 C H x A /\ A.ok = true /\ ag K H p (vn pl) /\ Ma.In A.shape pl /\ ∀ H',ak H H' -> Q (.int (A.at_ pl)) H'
theorem zj : aq ["array","place"] ["array","place"] (aj mB) := fs
theorem y9 (D : Df K mg "cell_at" "cell_at" mB ["array","place"]) (T : Txt K mg C) (bY : Ok P w K mg base 1 "number_of" ["lengths","place"] (f8 K)) : Ok P w K mg base 2 "cell_at" ["array","place"] (iw K C) := by
 refine D.ok zj (fun _ _ _ _ h => by obtain ⟨_,_,_,_,rfl,_⟩ := h; rfl) (fun f cdv A outer s H vs Q E hr h => ?_); obtain ⟨x,p,A',pl,rfl,⟨dx,a,b,h1,h2,h3⟩,ho,hp,hin,k⟩ := h; refine ⟨_,(ae (ah (au (aD (pv 0) rfl) (ap bY hr (ab (aD (pv 0) rfl) (ab (pv 1) ac)))))),?_⟩; refine ⟨_,rfl,x,C,dx,_,_,rfl,h1,T.cl,T.nC,cr a b,_,rfl,x,C,dx,_,_,rfl,h1,T.cl,T.nL,aU a b,_,rfl,a,p,A'.shape,pl,rfl,ag.of h2,hp,hin.len,cb (aG ho).1,fun H' sm => ?_⟩; exact ⟨b,_,_,_,rfl,rfl,ag.of (sm _ _ h3),bC (cy (wp ho hin)),k H' sm⟩
def oy (C : Addr) : Sp := fun vs H Q _ => vs = [] /\ ∀ H' l,ak H H' -> H l = none -> aB C H' l Ay.start -> Q (.ref l) H'
theorem sc_empty_slots : aq ["slot"] [] (aj fr) := fs
theorem uE (D : Df K mg "empty_slots" "empty_slots" fr []) (T : Txt K mg C) : Ok P w K mg base 1 "empty_slots" [] (oy C) := by
 refine D.ok sc_empty_slots (fun _ _ _ _ h => by obtain ⟨rfl,_⟩ := h; rfl) (fun f cdv A outer s H vs Q E hr h => ?_); obtain ⟨rfl,k⟩ := h; refine ⟨_,(ae (ah (dt rfl sc_empty_slots.nd (dX rfl T.b_range (ab (aP T.g_SLOTS) ac)) (a8 (N := ["slot"]) (sc := aj fr) (own := [("slot",0)]) (by decide +kernel)) (fun _ _ _ _ _ => (a0 0 sc_empty_slots.nd)) (fun _ _ _ _ _ => br) (fun _ _ _ _ _ => cP)))),?_⟩; refine ⟨8,rfl,by decide,by decide,fun q hq => ?_⟩; refine cz (fM) (fun i => V.non) hq (by decide) ?_ bf ?_
 ·rintro i H1 x H2 hi sm ⟨rfl,rfl⟩ Q' kq; exact ⟨rfl,kq _ (ak.refl _)⟩
 ·intro H' sm h1; refine k H' q sm hq ⟨_,h1,rfl,rfl,fun i v o e1 e2 => ?_⟩
  have hi : i < 8 := by
   have := (List.getElem?_eq_some_iff.mp e1).1
   simpa using this
  match i,hi,e1,e2 with
  | 0,_,e1,e2 => cases e1; cases e2; exact rfl
  | 1,_,e1,e2 => cases e1; cases e2; exact rfl
  | 2,_,e1,e2 => cases e1; cases e2; exact rfl
  | 3,_,e1,e2 => cases e1; cases e2; exact rfl
  | 4,_,e1,e2 => cases e1; cases e2; exact rfl
  | 5,_,e1,e2 => cases e1; cases e2; exact rfl
  | 6,_,e1,e2 => cases e1; cases e2; exact rfl
  | 7,_,e1,e2 => cases e1; cases e2; exact rfl
def d6 (k : Nat) : Int := if 8 <= k then -1 else 0
def ck (t : Ay.State) (i : Nat) : Int := if 8 <= i then -1 else match t.getD i none with
 | none => -2
 | some _ => 0
def cg (t : Ay.State) : List Nat -> Int
 | [] => 0
 | i :: r => if ck t i = 0 then cg t r else ck t i
def bJ (t : Ay.State) (k : Nat) (l : List Nat) : Int := if d6 k = 0 then cg t l else d6 k
def b8 : Sp := fun vs H Q _ => ∃ k : Nat,vs = [.int k] /\ Q (.int (d6 k)) H
theorem rQ : aq ["k"] ["k"] (aj eW) := fs
theorem rP (D : Df K mg "target_refusal" "target_refusal" eW ["k"]) (T : Txt K mg C) : Ok P w K mg base 1 "target_refusal" ["k"] (b8) := by
 refine D.ok rQ (fun _ _ _ _ h => by obtain ⟨_,rfl,_⟩ := h; rfl) (fun f cdv A outer s H vs Q E hr h => ?_); obtain ⟨z,rfl,k⟩ := h
 refine ⟨_,(ad (aw (aE ml (pv 0) (aP T.g_SLOTS)) (ae (ah (aP T.g_WRONG))) ao)
  (ae (ah ai))),?_⟩
 refine ⟨_,rfl,_,_,rfl,rfl,_,rfl,a_ (fun h => ?_) (fun h => ?_)⟩
 ·have h1 := of_decide_eq_true h; rw [d6,if_pos (by omega)] at k; exact k
 ·simp at h; rw [d6,if_neg (by omega)] at k; exact k
theorem aB.get {H : Hp} {l : Addr} {t : Ay.State} (S : aB C H l t) {i : Nat} (hi : i < 8) : ∃ vs v,H l = some (.lst vs) /\ vs[i]? = some v /\ vs.length = 8 /\ jM C H (t.getD i none) v := by
 obtain ⟨vs,h1,h2,h3,h4⟩ := S.ex; have e1 : vs[i]? = some vs[i] := List.getElem?_eq_getElem (by omega); have e2 : t[i]? = some t[i] := List.getElem?_eq_getElem (by omega); refine ⟨vs,vs[i],h1,e1,h2,?_⟩; rw [List.getD_eq_getElem?_getD,e2]; exact h4 i _ _ e1 e2
def b7 (C : Addr) : Sp := fun vs H Q _ => ∃ (l : Addr) (t : Ay.State) (i : Nat),vs = [.ref l,.int i] /\ aB C H l t /\ Q (.int (ck t i)) H
theorem rS : aq ["slots","i"] ["slots","i"] (aj ff) := fs
theorem rT (D : Df K mg "source_refusal" "source_refusal" ff ["slots","i"]) (T : Txt K mg C) : Ok P w K mg base 1 "source_refusal" ["slots","i"] (b7 C) := by
 refine D.ok rS (fun _ _ _ _ h => by obtain ⟨_,_,_,rfl,_⟩ := h; rfl) (fun f cdv A outer s H vs Q E hr h => ?_); obtain ⟨l,t,i,rfl,S,k⟩ := h
 refine ⟨_,(ad (aw (aE ml (pv 1) (aP T.g_SLOTS)) (ae (ah (aP T.g_WRONG))) ao)
  (ad (aw (dS (eF (au (pv 0) (pv 1)))) (ae (ah (aP T.g_EMPTY))) ao)
  (ae (ah ai)))),?_⟩
 refine ⟨_,rfl,_,_,rfl,rfl,_,rfl,a_ (fun h => ?_) (fun h => ?_)⟩
 ·have h1 := of_decide_eq_true h; rw [ck,if_pos (by omega)] at k; exact k
 ·simp at h; rw [ck,if_neg (by omega)] at k; obtain ⟨vs,v,g1,g2,g3,g4⟩ := aB.get S (show i < 8 by omega); refine ⟨_,rfl,_,rfl,l,vs,_,v,rfl,rfl,ag.of g1,bC g2,_,rfl,?_⟩
  cases o : t.getD i none with
  | none =>
   rw [o] at g4 k; rw [show v = .non from g4]; exact k
  | some A =>
   rw [o] at g4 k; obtain ⟨x,rfl,_⟩ := g4; exact k
def cY (K : Fg) (C : Addr) : Sp := fun vs H Q _ => ∃ (l a : Addr) (t : Ay.State) (is : List Nat),vs = [.ref l,.ref a] /\ aB C H l t /\ ag K H a (vn is) /\ Q (.int (cg t is)) H
theorem oI {t : Ay.State} : ∀ {l : List Nat} {i : Nat},(∀ n ∈ l.take i,ck t n = 0) -> cg t l = cg t (l.drop i)
 | l,0,_ => rfl
 | [],_ + 1,_ => rfl
 | n :: l,i + 1,h => by
  have e : ck t n = 0 := h n (List.mem_cons_self ..); show (if ck t n = 0 then cg t l else ck t n) = cg t (l.drop i); rw [if_pos e]; exact oI fun m hm => h m (List.mem_cons_of_mem _ hm)
theorem sc_sources_refusal : aq ["slots","sources","i","refusal"] ["slots","sources"] (aj eg) := fs
theorem qL (D : Df K mg "sources_refusal" "sources_refusal" eg ["slots","sources"]) (T : Txt K mg C) (aY : Ok P w K mg base 1 "source_refusal" ["slots","i"] (b7 C)) : Ok P w K mg base 2 "sources_refusal" ["slots","sources"] (cY K C) := by
 refine D.ok sc_sources_refusal (fun _ _ _ _ h => by obtain ⟨_,_,_,_,rfl,_⟩ := h; rfl) (fun f cdv A outer s H vs Q E hr h => ?_); obtain ⟨l,a,t,is,rfl,S,ha,k⟩ := h
 refine ⟨_,(ad (bQ PassesOwn.never rfl (bD (pv 1)) (a0 2 sc_sources_refusal.nd) (ad (aH 3 sc_sources_refusal.nd (ap aY hr (ab (pv 0) (ab (pv 2) ac))))
  (ae (aw (aE bz (pv 3) ai) (ae (ah (pv 3))) ao))))
  (ae (ah ai))),?_⟩
 refine ⟨_,rfl,a,rfl,⟨_,ha⟩,d7 (K := K) (a := a) (xs := vn is) (fun i σ H' => ∃ (u v : Option V),σ = [some (.ref l),some (.ref a),u,v] /\ (∀ n ∈ is.take i,ck t n = 0) /\ H' = H)
  ⟨none,none,rfl,by simp,rfl⟩ (fun i σ H' _ ⟨_,_,_,_,e⟩ => e ▸ ha) ?_ ?_⟩
 ·rintro i x σ H' hi ⟨u,v,rfl,hc,rfl⟩; obtain ⟨z,hz,rfl⟩ := cJ hi; refine ⟨_,rfl,_,rfl,l,t,z,rfl,S,?_⟩; refine ⟨_,rfl,rfl,_,rfl,?_⟩
  by_cases h0 : ck t z = 0
  ·refine bq (congrArg V.int h0) ?_; refine ⟨_,_,rfl,fun n hn => ?_,rfl⟩; rw [bT hz] at hn
   rcases List.mem_append.mp hn with q | q
   ·exact hc n q
   ·have e : n = z := by simpa using q
    rw [e]; exact h0
  ·refine a_ (fun _ => ?_) (fun h => absurd ?_ h)
   ·refine ⟨_,rfl,?_⟩
    have e : cg t is = ck t z := by
     rw [oI hc]; obtain ⟨hlt,e⟩ := List.getElem?_eq_some_iff.mp hz; rw [List.drop_eq_getElem_cons hlt,e]; exact if_neg h0
    rw [e] at k; exact k
   ·simp [h0]
 ·rintro σ H' ⟨u,v,rfl,hc,rfl⟩; rw [aI,List.take_length] at hc
  have e : cg t is = 0 := by
   rw [oI (i := is.length) (by rw [List.take_length]; exact hc),List.drop_length]; rfl
  rw [e] at k; exact k
def bV (K : Fg) (C : Addr) : Sp := fun vs H Q _ => ∃ (l a : Addr) (t : Ay.State) (kk : Nat) (is : List Nat),vs = [.ref l,.int kk,.ref a] /\ aB C H l t /\ ag K H a (vn is) /\ Q (.int (bJ t kk is)) H
theorem sc_slots_refusal : aq ["slots","k","sources","refusal"] ["slots","k","sources"] (aj fE) := fs
theorem sI (D : Df K mg "slots_refusal" "slots_refusal" fE ["slots","k","sources"]) (T : Txt K mg C) (aX : Ok P w K mg base 1 "target_refusal" ["k"] (b8)) (bt : Ok P w K mg base 2 "sources_refusal" ["slots","sources"] (cY K C)) : Ok P w K mg base 3 "slots_refusal" ["slots","k","sources"] (bV K C) := by
 refine D.ok sc_slots_refusal (fun _ _ _ _ h => by obtain ⟨_,_,_,_,_,rfl,_⟩ := h; rfl) (fun f cdv A outer s H vs Q E hr h => ?_); obtain ⟨l,a,t,kk,is,rfl,S,ha,k⟩ := h
 refine ⟨_,(ad (aH 3 sc_slots_refusal.nd (ap aX hr (ab (pv 1) ac)))
  (ad (aw (aE bz (pv 3) ai) (ae (ah (pv 3))) ao)
  (ae (ah (ap bt hr (ab (pv 0) (ab (pv 2) ac))))))),?_⟩
 refine ⟨_,rfl,kk,rfl,_,rfl,rfl,_,rfl,?_⟩
 by_cases h0 : d6 kk = 0
 ·refine bq (congrArg V.int h0) ?_; rw [bJ,if_pos h0] at k; exact ⟨_,rfl,_,rfl,l,a,t,is,rfl,S,ha,k⟩
 ·refine a_ (fun _ => ?_) (fun h => absurd ?_ h)
  ·rw [bJ,if_neg h0] at k; exact ⟨_,rfl,k⟩
  ·simp [h0]
def b6 (C : Addr) : Sp := fun vs H Q _ => ∃ (l x : Addr) (t : Ay.State) (kk : Nat) (A : Ad.Arr),vs = [.ref l,.int kk,.ref x] /\ kk < 8 /\ aB C H l t /\ b0 C H x A /\ A.ok = true /\ aQ C H l (Ay.put t kk A) Q
theorem abX : aq ["slots","k","array"] ["slots","k","array"] (aj tI) := fs
theorem ab6 (D : Df K mg "keep" "keep" tI ["slots","k","array"]) (T : Txt K mg C) : Ok P w K mg base 1 "keep" ["slots","k","array"] (b6 C) := by
 refine D.ok abX (fun _ _ _ _ h => by obtain ⟨_,_,_,_,_,rfl,_⟩ := h; rfl) (fun f cdv A outer s H vs Q E hr h => ?_); obtain ⟨l,x,t,kk,A',rfl,hk,S,hA,ho,k⟩ := h
 refine ⟨_,(ad (nY (pv 2) (ow (pv 0) (pv 1) jb))
  (ae (ah (aV iE (az (ab ai ac)) (aD (pv 2) rfl))))),?_⟩
 obtain ⟨vs,v,g1,g2,g3,g4⟩ := aB.get S hk
 have hix : fU vs.length (kk : Int) = some kk := by
  unfold fU; rw [if_pos (by omega),if_pos (by omega)]; rfl
 refine ⟨_,rfl,_,rfl,_,rfl,l,vs,_,kk,rfl,rfl,g1,hix,?_⟩; have S1 : aB C (upd H l (.lst (vs.set kk (.ref x)))) l (t.set kk (some A')) := S.set g1 kk (o := some A') ⟨x,rfl,hA,ho⟩; have k1 : aM l H (upd H l (.lst (vs.set kk (.ref x)))) := aM.upd; obtain ⟨dx,a,b,h1,h2,h3⟩ := hA.keepL S k1; generalize upd H l (.lst (vs.set kk (.ref x))) = H1 at *; refine ⟨(by show 1 <= sizeLine; decide),fun p hp => ?_⟩; have s2 : ak H1 (upd H1 p (.lst [.int 0])) := ak.new hp; have hsl := (Ma.aF (aG ho).1).1; refine ⟨_,rfl,x,C,dx,_,_,rfl,s2 _ _ h1,T.cl,T.nL,aU a b,p,a,_,_,rfl,rfl,am,s2 _ _ h2,(by rw [aI]; show _ <= 2 ^ 24; simp only [List.length_cons,List.length_nil]; omega),fun q hq => ?_⟩; have s3 : ak (upd H1 p (.lst [.int 0])) (upd (upd H1 p (.lst [.int 0])) q (.lst ([.int 0] ++ vn A'.shape))) := ak.new hq; have hqH1 : H1 q = none := s2.free hq
 have hql : q ≠ l := fun e => by
  obtain ⟨ws,z1,_⟩ := S1.ex; rw [e,z1] at hqH1; cases hqH1
 refine k _ q ((k1.trans s2.keep).trans s3.keep) (S1.keep (s2.trans s3)) ?_ ?_
 ·cases e : H q with
  | none => rfl
  | some o =>
   rw [k1 q o e hql] at hqH1; cases hqH1
 ·rw [am]; rfl
theorem i6 {H : Hp} {Q : VK} {l a b : Addr} {A : Ad.Arr} {t : Ay.State} {kk : Nat} (hk : kk < 8) (S : aB C H l t) (ha : H a = some (.lst (vn A.shape))) (hb : H b = some (.lst (vi A.cells))) (ho : A.ok = true) (k : aQ C H l (Ay.put t kk A) Q) :
  ∀ x dx,H x = none -> H dx = none -> dx ≠ x -> bO C (.ref x :: ([.ref a,.ref b] ++ [])) (upd (upd H dx (.own x)) x (.ins C dx [])) (fun v H2 => v = .non /\ b6 C ([.ref l,.int kk,.ref x] ++ []) H2 Q E0) E0 :=
 ph (Q := fun v H2 => b6 C ([.ref l,.int kk,v] ++ []) H2 Q E0) ha hb fun x H' hx sm hA => ⟨l,x,t,kk,A,rfl,hk,S.keep sm,hA,ho,k.same sm⟩
end
end Go

namespace Go
open PySem PySem.Spec PyProof.Rows L2
section
variable {P : Program} {w : World} {K : Fg} {mg : Str -> Option Value} {base : Heap} {C al : Addr}
theorem eE {k : Nat} (h : d6 k = 0) : k < 8 := by
 unfold d6 at h
 split at h <;> omega
theorem lq {k : Nat} (h : ¬ d6 k = 0) : 8 <= k /\ d6 k = -1 := by
 unfold d6 at h ⊢
 split
 ·exact ⟨by assumption,rfl⟩
 ·rename_i q; rw [if_neg q] at h; exact absurd rfl h
def lE (K : Fg) : Sp := fun vs H Q _ => ∃ (a : Addr) (zs : List Int),vs = [.ref a] /\ ag K H a (vi zs) /\ Q (.bl (zs.all Ad.cellFine)) H
theorem sc_are_cells : aq ["numbers","number"] ["numbers"] (aj jv) := fs
theorem wD (D : Df K mg "are_cells" "are_cells" jv ["numbers"]) (T : Txt K mg C) (bX : Ok P w K mg base 1 "is_cell" ["number"] (gh)) : Ok P w K mg base 2 "are_cells" ["numbers"] (lE K) := by
 refine D.ok sc_are_cells (fun _ _ _ _ h => by obtain ⟨_,_,rfl,_⟩ := h; rfl) (fun f cdv A outer s H vs Q E hr h => ?_); obtain ⟨a,zs,rfl,ha,k⟩ := h
 refine ⟨_,(ad (bQ PassesOwn.never rfl (bD (pv 0)) (a0 1 sc_are_cells.nd) (ae (aw (bw (bg (ap bX hr (ab (pv 1) ac)))) (ae (ah dB)) ao)))
  (ae (ah dB))),?_⟩
 refine ⟨_,rfl,a,rfl,⟨_,ha⟩,d7 (K := K) (a := a) (xs := vi zs) (fun i σ H' => ∃ (u : Option V),σ = [some (.ref a),u] /\ (∀ n ∈ zs.take i,Ad.cellFine n = true) /\ H' = H)
  ⟨none,rfl,by simp,rfl⟩ (fun i σ H' _ ⟨_,_,_,e⟩ => e ▸ ha) ?_ ?_⟩
 ·rintro i x σ H' hi ⟨u,rfl,hc,rfl⟩; obtain ⟨z,hz,rfl⟩ := dN hi; refine ⟨_,rfl,z,rfl,_,rfl,?_⟩
  cases e : Ad.cellFine z with
  | true =>
   refine ⟨_,rfl,fun n hn => ?_,rfl⟩; rw [bT hz] at hn
   rcases List.mem_append.mp hn with q | q
   ·exact hc n q
   ·have e2 : n = z := by simpa using q
    rw [e2]; exact e
  | false =>
   have e2 : zs.all Ad.cellFine = false := by
    rw [← Bool.not_eq_true,List.all_eq_true]; intro h; rw [h z (List.mem_of_getElem? hz)] at e; cases e
   rw [e2] at k; exact k
 ·rintro σ H' ⟨u,rfl,hc,rfl⟩; rw [aN,List.take_length] at hc; have e2 : zs.all Ad.cellFine = true := List.all_eq_true.mpr hc; rw [e2] at k; exact k
def qN (C : Addr) : Sp := fun vs H Q _ => ∃ (l a b : Addr) (t : Ay.State) (kk : Nat) (s : List Nat) (cs : List Int),vs = [.ref l,.int kk,.ref a,.ref b] /\ aB C H l t /\ H a = some (.lst (vn s)) /\ H b = some (.lst (vi cs)) /\ (∀ n ∈ s,n < 2 ^ 63) /\ aQ C H l (Ay.step t (.make kk s cs)) Q
theorem sc_call_make : aq ["slots","k","lengths","cells","refusal"] ["slots","k","lengths","cells"] (aj js) := fs
theorem wY (D : Df K mg "call_make" "call_make" js ["slots","k","lengths","cells"]) (T : Txt K mg C) (aX : Ok P w K mg base 1 "target_refusal" ["k"] (b8)) (aW : Ok P w K mg base 2 "is_shape" ["lengths"] (ca K)) (a9 : Ok P w K mg base 1 "cell_count" ["lengths"] (cI K)) (fz : Ok P w K mg base 2 "are_cells" ["numbers"] (lE K)) (aZ : Ok P w K mg base 1 "keep" ["slots","k","array"] (b6 C)) (aS : dO P w K mg base 1 "Array" C ["self","lengths","cells"] (bO C)) : Ok P w K mg base 3 "call_make" ["slots","k","lengths","cells"] (qN C) := by
 refine D.ok sc_call_make (fun _ _ _ _ h => by obtain ⟨_,_,_,_,_,_,_,rfl,_⟩ := h; rfl) (fun f cdv A outer s H vs Q E hr h => ?_); obtain ⟨l,a,b,t,kk,ns,cs,rfl,S,ha,hb,hbd,k⟩ := h
 refine ⟨_,(ad (aH 4 sc_call_make.nd (ap aX hr (ab (pv 1) ac)))
  (ad (aw (aE bz (pv 4) ai) (ae (ah (az (ab (pv 4) ac)))) ao)
  (ad (aw (PW.pt (dv (bw (bg (ap aW hr (ab (pv 2) ac)))) (dv (aE bz (bA T.b_len (pv 3)) (ap a9 hr (ab (pv 2) ac))) (dm (bw (bg (ap fz hr (ab (pv 3) ac)))))))) (ae (ah (az (ab (aP T.g_WRONG) ac)))) ao)
  (ae (ah (ap aZ hr (ab (pv 0) (ab (pv 1) (ab (dZ aS hr (ab (pv 2) (ab (pv 3) ac))) ac))))))))),?_⟩
 refine ⟨_,rfl,kk,rfl,_,rfl,rfl,_,rfl,?_⟩
 by_cases h0 : d6 kk = 0
 ·refine bq (congrArg V.int h0) ?_; have hk := eE h0; rw [Ay.step,eS hk] at k; refine ⟨_,rfl,a,ns,rfl,ag.of ha,hbd,_,rfl,?_⟩
  cases e1 : Ad.shapeOk ns with
  | false =>
   rw [if_pos (.inl e1)] at k; exact ⟨ba,aQ.no S (ak.refl H) k rfl⟩
  | true =>
   refine ⟨_,rfl,b,_,rfl,.inl (ag.of hb),_,rfl,a,ns,rfl,ag.of ha,hbd,rfl,_,rfl,?_⟩
   by_cases e2 : cs.length = Ad.product_ ns
   ·refine bq (by rw [aN,e2]) ?_; refine ⟨_,rfl,b,cs,rfl,ag.of hb,_,rfl,?_⟩
    cases e3 : cs.all Ad.cellFine with
    | false =>
     rw [if_pos (.inr (.inr e3))] at k; exact ⟨ba,aQ.no S (ak.refl H) k rfl⟩
    | true =>
     rw [if_neg (by rw [e1,e3,e2]; simp)] at k; exact ⟨_,rfl,_,rfl,_,rfl,_,rfl,i6 hk S ha hb (iC e1 e2 (List.all_eq_true.mp e3)) k⟩
   ·refine bx (a5 (by rw [aN]; omega)) ?_; rw [if_pos (.inr (.inl e2))] at k; exact ⟨ba,aQ.no S (ak.refl H) k rfl⟩
 ·obtain ⟨h1,h2⟩ := lq h0; rw [Ay.step,ji h1] at k; refine bx (a5 h0) ?_; exact ⟨_,rfl,ba,aQ.no S (ak.refl H) k h2⟩
def pX (C : Addr) : Sp := fun vs H Q _ => ∃ (l a : Addr) (t : Ay.State) (kk : Nat) (z : Int) (s : List Nat),vs = [.ref l,.int kk,.int z,.ref a] /\ aB C H l t /\ H a = some (.lst (vn s)) /\ (∀ n ∈ s,n < 2 ^ 63) /\ aQ C H l (Ay.step t (.fill kk z s)) Q
theorem sc_call_fill : aq ["slots","k","v","lengths","refusal","cells","cell"] ["slots","k","v","lengths"] (aj gM) := fs
theorem xm (D : Df K mg "call_fill" "call_fill" gM ["slots","k","v","lengths"]) (T : Txt K mg C) (aX : Ok P w K mg base 1 "target_refusal" ["k"] (b8)) (aW : Ok P w K mg base 2 "is_shape" ["lengths"] (ca K)) (a9 : Ok P w K mg base 1 "cell_count" ["lengths"] (cI K)) (bX : Ok P w K mg base 1 "is_cell" ["number"] (gh)) (aZ : Ok P w K mg base 1 "keep" ["slots","k","array"] (b6 C)) (aS : dO P w K mg base 1 "Array" C ["self","lengths","cells"] (bO C)) : Ok P w K mg base 3 "call_fill" ["slots","k","v","lengths"] (pX C) := by
 refine D.ok sc_call_fill (fun _ _ _ _ h => by obtain ⟨_,_,_,_,_,_,rfl,_⟩ := h; rfl) (fun f cdv A outer s H vs Q E hr h => ?_); obtain ⟨l,a,t,kk,z,ns,rfl,S,ha,hbd,k⟩ := h
 refine ⟨_,(ad (aH 4 sc_call_fill.nd (ap aX hr (ab (pv 1) ac)))
  (ad (aw (aE bz (pv 4) ai) (ae (ah (az (ab (pv 4) ac)))) ao)
  (ad (aw (PW.pt (dv (bw (bg (ap aW hr (ab (pv 3) ac)))) (dm (bw (bg (ap bX hr (ab (pv 2) ac))))))) (ae (ah (az (ab (aP T.g_WRONG) ac)))) ao)
  (ad (cS rfl sc_call_fill.nd (i := 5) rfl rfl (dF rfl rfl rfl (by decide +kernel)) (dX rfl T.b_range (ab (ap a9 hr (ab (pv 3) ac)) ac)) (a8 (N := ["slots","k","v","lengths","refusal","cells","cell"]) (sc := aj gM) (own := [("cell",6)]) (by decide +kernel)) (fun _ _ _ _ _ => (a0 6 sc_call_fill.nd)) (fun _ _ _ _ _ => br) (fun _ _ _ _ _ => (pv 2)))
  (ae (ah (ap aZ hr (ab (pv 0) (ab (pv 1) (ab (dZ aS hr (ab (pv 3) (ab (pv 5) ac))) ac)))))))))),?_⟩
 refine ⟨_,rfl,kk,rfl,_,rfl,rfl,_,rfl,?_⟩
 by_cases h0 : d6 kk = 0
 ·refine bq (congrArg V.int h0) ?_; have hk := eE h0; rw [Ay.step,eS hk] at k; refine ⟨_,rfl,a,ns,rfl,ag.of ha,hbd,_,rfl,?_⟩
  cases e1 : Ad.shapeOk ns with
  | false =>
   rw [if_pos (.inl e1)] at k; exact ⟨ba,aQ.no S (ak.refl H) k rfl⟩
  | true =>
   refine ⟨_,rfl,z,rfl,_,rfl,?_⟩
   cases e3 : Ad.cellFine z with
   | false =>
    rw [if_pos (.inr e3)] at k; exact ⟨ba,aQ.no S (ak.refl H) k rfl⟩
   | true =>
    rw [if_neg (by rw [e1,e3]; simp)] at k; obtain ⟨g1,g2,g3⟩ := Ma.aF e1; refine ⟨_,rfl,a,ns,rfl,ag.of ha,hbd,_,rfl,by omega,by omega,fun q hq => ?_⟩; refine cz (fM) (fun i => V.int z) hq (by show _ <= 2 ^ 24; omega) ?_ bf ?_
    ·rintro i H1 x H2 hi sm ⟨rfl,rfl⟩ Q' kq; exact ⟨rfl,_,rfl,kq _ (ak.refl _)⟩
    ·intro H' sm h1
     have e4 : (List.range (Ad.product_ ns : Int).toNat).map (fun _ => V.int z) = vi ((List.range (Ad.product_ ns)).map fun _ => z) := by
      show _ = List.map V.int (List.map _ _); rw [List.map_map]; rfl
     rw [e4] at h1; refine ⟨_,rfl,_,rfl,_,rfl,_,rfl,i6 (A := Ad.build ns fun _ => z) hk (S.keep sm) (sm _ _ ha) h1 (iC e1 ?_ ?_) (k.same sm)⟩
     ·show ((List.range (Ad.product_ ns)).map fun _ => z).length = Ad.product_ ns; rw [List.length_map,List.length_range]
     ·intro y hy; obtain ⟨_,_,e⟩ := List.mem_map.mp (show y ∈ (List.range (Ad.product_ ns)).map fun _ => z from hy); rw [← e]; exact e3
 ·obtain ⟨h1,h2⟩ := lq h0; rw [Ay.step,ji h1] at k; refine bx (a5 h0) ?_; exact ⟨_,rfl,ba,aQ.no S (ak.refl H) k h2⟩
def pC (C : Addr) : Sp := fun vs H Q _ => ∃ (l a : Addr) (t : Ay.State) (kk : Nat) (x y : Int) (s : List Nat),vs = [.ref l,.int kk,.int x,.int y,.ref a] /\ aB C H l t /\ H a = some (.lst (vn s)) /\ (∀ n ∈ s,n < 2 ^ 63) /\ aQ C H l (Ay.step t (.count kk x y s)) Q
theorem sc_call_count : aq ["slots","k","start","step","lengths","refusal","cells","cell"] ["slots","k","start","step","lengths"] (aj f_) := fs
theorem vN (D : Df K mg "call_count" "call_count" f_ ["slots","k","start","step","lengths"]) (T : Txt K mg C) (aX : Ok P w K mg base 1 "target_refusal" ["k"] (b8)) (aW : Ok P w K mg base 2 "is_shape" ["lengths"] (ca K)) (a9 : Ok P w K mg base 1 "cell_count" ["lengths"] (cI K)) (bX : Ok P w K mg base 1 "is_cell" ["number"] (gh)) (fz : Ok P w K mg base 2 "are_cells" ["numbers"] (lE K)) (aZ : Ok P w K mg base 1 "keep" ["slots","k","array"] (b6 C)) (aS : dO P w K mg base 1 "Array" C ["self","lengths","cells"] (bO C)) : Ok P w K mg base 3 "call_count" ["slots","k","start","step","lengths"] (pC C) := by
 refine D.ok sc_call_count (fun _ _ _ _ h => by obtain ⟨_,_,_,_,_,_,_,rfl,_⟩ := h; rfl) (fun f cdv A outer s H vs Q E hr h => ?_); obtain ⟨l,a,t,kk,x,y,ns,rfl,S,ha,hbd,k⟩ := h
 refine ⟨_,(ad (aH 5 sc_call_count.nd (ap aX hr (ab (pv 1) ac)))
  (ad (aw (aE bz (pv 5) ai) (ae (ah (az (ab (pv 5) ac)))) ao)
  (ad (aw (PW.pt (dv (bw (bg (ap aW hr (ab (pv 4) ac)))) (dm (bw (bg (ap fz hr (ab (az (ab (pv 2) (ab (pv 3) ac))) ac))))))) (ae (ah (az (ab (aP T.g_WRONG) ac)))) ao)
  (ad (cS rfl sc_call_count.nd (i := 6) rfl rfl (dF rfl rfl rfl (by decide +kernel)) (dX rfl T.b_range (ab (ap a9 hr (ab (pv 4) ac)) ac)) (a8 (N := ["slots","k","start","step","lengths","refusal","cells","cell"]) (sc := aj f_) (own := [("cell",7)]) (by decide +kernel)) (fun _ _ _ _ _ => (a0 7 sc_call_count.nd)) (fun _ _ _ _ _ => br) (fun _ _ _ _ _ => (aV cM (pv 2) (aV dj (pv 3) (pv 7)))))
  (ad (aw (bw (bg (ap bX hr (ab (au (pv 6) (rk nZ ai)) ac)))) (ae (ah (az (ab (aP T.g_BEYOND) ac)))) ao)
  (ae (ah (ap aZ hr (ab (pv 0) (ab (pv 1) (ab (dZ aS hr (ab (pv 4) (ab (pv 6) ac))) ac))))))))))),?_⟩
 refine ⟨_,rfl,kk,rfl,_,rfl,rfl,_,rfl,?_⟩
 by_cases h0 : d6 kk = 0
 ·refine bq (congrArg V.int h0) ?_; have hk := eE h0; rw [Ay.step,eS hk] at k; refine ⟨_,rfl,a,ns,rfl,ag.of ha,hbd,_,rfl,?_⟩
  cases e1 : Ad.shapeOk ns with
  | false =>
   rw [if_pos (.inl e1)] at k; exact ⟨ba,aQ.no S (ak.refl H) k rfl⟩
  | true =>
   refine ⟨_,rfl,_,rfl,lj,fun q hq => ⟨q,[x,y],rfl,ag.of am,_,rfl,?_⟩⟩; have s1 : ak H (upd H q (.lst [.int x,.int y])) := ak.new hq; generalize upd H q (.lst [.int x,.int y]) = H1 at *; have e2 : List.all [x,y] Ad.cellFine = (Ad.cellFine x && Ad.cellFine y) := by simp
   rw [e2]
   cases e3 : Ad.cellFine x with
   | false =>
    rw [if_pos (.inr (.inl e3))] at k; exact ⟨ba,aQ.no S s1 k rfl⟩
   | true =>
    cases e4 : Ad.cellFine y with
    | false =>
     rw [if_pos (.inr (.inr e4))] at k; exact ⟨ba,aQ.no S s1 k rfl⟩
    | true =>
     rw [if_neg (by rw [e1,e3,e4]; simp)] at k; obtain ⟨g1,g2,g3⟩ := Ma.aF e1; have g4 := Ma.l9 g2; refine ⟨_,rfl,a,ns,rfl,ag.of (s1 _ _ ha),hbd,_,rfl,by omega,by omega,fun r hr => ?_⟩; refine cz (fM) (fun i => V.int (x + y * (i : Int))) hr (by show _ <= 2 ^ 24; omega) ?_ bf ?_
     ·rintro i H2 z H3 hi sm ⟨rfl,rfl⟩ Q' kq; refine ⟨rfl,_,rfl,_,rfl,_,rfl,_,_,rfl,rfl,.inr ⟨by omega,by omega⟩,_,_,rfl,rfl,?_⟩; rw [Int.zero_add]; exact kq _ (ak.refl _)
     ·intro H' sm h1
      have e5 : (List.range (Ad.product_ ns : Int).toNat).map (fun (i : Nat) => V.int (x + y * (i : Int))) = vi ((List.range (Ad.product_ ns)).map fun (i : Nat) => x + y * (i : Int)) := by
       show _ = List.map V.int (List.map _ _); rw [List.map_map]; rfl
      rw [e5] at h1
      have hlast : ((List.range (Ad.product_ ns)).map fun (i : Nat) => x + y * (i : Int))[Ad.product_ ns - 1]? = some (x + y * ((Ad.product_ ns : Int) - 1)) := by
       rw [List.getElem?_map,List.getElem?_range (by omega)]; show some (x + y * ((Ad.product_ ns - 1 : Nat) : Int)) = _; rw [Int.ofNat_sub g4]; rfl
      have hat : fj (vi ((List.range (Ad.product_ ns)).map fun (i : Nat) => x + y * (i : Int))) (-1) = some (.int (x + y * ((Ad.product_ ns : Int) - 1))) := by
       unfold fj fU; rw [aN,List.length_map,List.length_range,if_neg (by omega),if_pos (by omega)]; show (vi _)[((-1 : Int) + (Ad.product_ ns : Nat)).toNat]? = _; rw [show ((-1 : Int) + (Ad.product_ ns : Nat)).toNat = Ad.product_ ns - 1 by omega]; exact cy hlast
      refine ⟨_,rfl,_,rfl,r,_,_,_,rfl,rfl,ag.of h1,hat,_,rfl,_,rfl,?_⟩; have s2 := s1.trans sm
      cases e6 : Ad.cellFine (x + y * ((Ad.product_ ns : Int) - 1)) with
      | false =>
       rw [if_pos e6] at k; exact ⟨ba,aQ.no S s2 k rfl⟩
      | true =>
       rw [if_neg (by rw [e6]; simp)] at k; refine ⟨_,rfl,_,rfl,_,rfl,_,rfl,i6 (A := ⟨ns,(List.range (Ad.product_ ns)).map fun (i : Nat) => x + y * (i : Int)⟩) hk (S.keep s2) (s2 _ _ ha) h1 (iC e1 ?_ ?_) (k.same s2)⟩
       ·show ((List.range (Ad.product_ ns)).map _).length = Ad.product_ ns; rw [List.length_map,List.length_range]
       ·intro z hz; obtain ⟨i,hi,e⟩ := List.mem_map.mp hz; rw [← e]; have hi' : i < Ad.product_ ns := List.mem_range.mp hi; refine Ma.z5 (n := Ad.product_ ns - 1) e3 ?_ (by omega); rw [Int.ofNat_sub g4]; exact e6
 ·obtain ⟨h1,h2⟩ := lq h0; rw [Ay.step,ji h1] at k; refine bx (a5 h0) ?_; exact ⟨_,rfl,ba,aQ.no S (ak.refl H) k h2⟩
def qY (C : Addr) : Sp := fun vs H Q _ => ∃ (l : Addr) (t : Ay.State) (kk : Nat),vs = [.ref l,.int kk] /\ aB C H l t /\ aQ C H l (Ay.step t (.drop kk)) Q
theorem sc_call_drop : aq ["slots","k","refusal"] ["slots","k"] (aj jr) := fs
theorem xn (D : Df K mg "call_drop" "call_drop" jr ["slots","k"]) (T : Txt K mg C) (aX : Ok P w K mg base 1 "target_refusal" ["k"] (b8)) : Ok P w K mg base 2 "call_drop" ["slots","k"] (qY C) := by
 refine D.ok sc_call_drop (fun _ _ _ _ h => by obtain ⟨_,_,_,rfl,_⟩ := h; rfl) (fun f cdv A outer s H vs Q E hr h => ?_); obtain ⟨l,t,kk,rfl,S,k⟩ := h
 refine ⟨_,(ad (aH 2 sc_call_drop.nd (ap aX hr (ab (pv 1) ac)))
  (ad (aw (aE bz (pv 2) ai) (ae (ah (az (ab (pv 2) ac)))) ao)
  (ad (nY cP (ow (pv 0) (pv 1) jb))
  (ae (ah (az (ab ai ac))))))),?_⟩
 refine ⟨_,rfl,kk,rfl,_,rfl,rfl,_,rfl,?_⟩
 by_cases h0 : d6 kk = 0
 ·refine bq (congrArg V.int h0) ?_; have hk := eE h0; rw [Ay.step,eS hk] at k; obtain ⟨vs,v,g1,g2,g3,g4⟩ := aB.get S hk
  have hix : fU vs.length (kk : Int) = some kk := by
   unfold fU; rw [if_pos (by omega),if_pos (by omega)]; rfl
  refine ⟨_,rfl,_,rfl,l,vs,_,kk,rfl,rfl,g1,hix,ba,fun p hp => ?_⟩; have S1 : aB C (upd H l (.lst (vs.set kk .non))) l (t.set kk none) := S.set g1 kk (o := none) rfl; have k1 : aM l H (upd H l (.lst (vs.set kk .non))) := aM.upd; generalize upd H l (.lst (vs.set kk .non)) = H1 at *; refine k _ p (k1.trans (ak.new hp).keep) (S1.keep (ak.new hp)) ?_ (by rw [am]; rfl)
  cases e : H p with
  | none => rfl
  | some o =>
   have hpl : p ≠ l := fun e => by
    obtain ⟨ws,z1,_⟩ := S1.ex; rw [e,z1] at hp; cases hp
   rw [k1 p o e hpl] at hp; cases hp
 ·obtain ⟨h1,h2⟩ := lq h0; rw [Ay.step,ji h1] at k; refine bx (a5 h0) ?_; exact ⟨_,rfl,ba,aQ.no S (ak.refl H) k h2⟩
end
end Go

namespace Go
open PySem PySem.Spec PyProof.Rows L2
theorem rg : bootBuiltins "list" = some (.type "list") := by decide +kernel
theorem zR : bootBuiltins "min" = some (.builtin "min") := by decide +kernel
theorem tj : bootBuiltins "max" = some (.builtin "max") := by decide +kernel
theorem vL : bootBuiltins "sorted" = some (.builtin "sorted") := by decide +kernel
section
variable {P : Program} {w : World} {K : Fg} {mg : Str -> Option Value} {base : Heap} {C al : Addr}
theorem jQ {t : Ay.State} {i : Nat} (h : ¬ ck t i = 0) : ∃ n : Nat,ck t i = -(n : Int) /\ ∀ f,Ay.ofSlot t i f = (t,Ay.no n) := by
 unfold ck at h ⊢
 by_cases h8 : 8 <= i
 ·exact ⟨1,if_pos h8,fun f => abg h8⟩
 ·rw [if_neg h8] at h ⊢
  cases e : t.getD i none with
  | none => exact ⟨2,rfl,fun f => aaN (by omega) e⟩
  | some A => rw [e] at h; exact absurd rfl h
theorem eD {t : Ay.State} {i : Nat} (h : ck t i = 0) : i < 8 /\ ∃ A,t.getD i none = some A /\ ∀ f,Ay.ofSlot t i f = f A := by
 unfold ck at h
 by_cases h8 : 8 <= i
 ·rw [if_pos h8] at h; cases h
 ·rw [if_neg h8] at h
  cases e : t.getD i none with
  | none => rw [e] at h; cases h
  | some A => exact ⟨by omega,A,rfl,fun f => aaU (by omega) e⟩
theorem aB.arr {H : Hp} {l : Addr} {t : Ay.State} (S : aB C H l t) {i : Nat} {A : Ad.Arr} (hi : i < 8) (e : t.getD i none = some A) : ∃ vs x,H l = some (.lst vs) /\ fj vs (i : Int) = some (.ref x) /\ b0 C H x A /\ A.ok = true := by
 obtain ⟨vs,v,g1,g2,g3,g4⟩ := aB.get S hi; rw [e] at g4; obtain ⟨x,rfl,h1,h2⟩ := g4; exact ⟨vs,x,g1,bC g2,h1,h2⟩
theorem yd {H H' : Hp} {l a : Addr} {zs : List Int} {t : Ay.State} {Q : VK} (S : aB C H l t) (sm : ak H H') (ha : H' a = some (.lst (vi zs))) (hz : zs.length < 16000000) (k : aQ C H l (t,.nums zs) Q) :
  ∀ p,H' p = none -> ∃ (l1 b : Addr) (xs ys : List V),V.ref p = .ref l1 /\ V.ref a = .ref b /\ (upd H' p (.lst [.int 0])) l1 = some (.lst xs) /\ (upd H' p (.lst [.int 0])) b = some (.lst ys) /\ xs.length + ys.length <= sizeLine ∧
   ∀ q,(upd H' p (.lst [.int 0])) q = none -> Q (.ref q) (upd (upd H' p (.lst [.int 0])) q (.lst (xs ++ ys))) := by
 intro p hp; have s2 : ak H' (upd H' p (.lst [.int 0])) := ak.new hp; refine ⟨p,a,_,_,rfl,rfl,am,s2 _ _ ha,(by rw [aN]; show 1 + zs.length <= 2 ^ 24; omega),fun q hq => ?_⟩; have s3 := (sm.trans s2).upd (o := .lst ([.int 0] ++ vi zs)) ((sm.trans s2).free hq); exact k _ q s3.keep (S.keep s3) ((sm.trans s2).free hq) (by rw [am]; rfl)
def pz (C : Addr) : Sp := fun vs H Q _ => ∃ (l : Addr) (t : Ay.State) (i : Nat),vs = [.ref l,.int i] /\ aB C H l t /\ aQ C H l (Ay.step t (.shape i)) Q
theorem sc_call_shape : aq ["slots","i","refusal"] ["slots","i"] (aj iJ) := fs
theorem vU (D : Df K mg "call_shape" "call_shape" iJ ["slots","i"]) (T : Txt K mg C) (aY : Ok P w K mg base 1 "source_refusal" ["slots","i"] (b7 C)) : Ok P w K mg base 2 "call_shape" ["slots","i"] (pz C) := by
 refine D.ok sc_call_shape (fun _ _ _ _ h => by obtain ⟨_,_,_,rfl,_⟩ := h; rfl) (fun f cdv A outer s H vs Q E hr h => ?_); obtain ⟨l,t,i,rfl,S,k⟩ := h
 refine ⟨_,(ad (aH 2 sc_call_shape.nd (ap aY hr (ab (pv 0) (ab (pv 1) ac))))
  (ad (aw (aE bz (pv 2) ai) (ae (ah (az (ab (pv 2) ac)))) ao)
  (ae (ah (aV iE (az (ab ai ac)) (aD (au (pv 0) (pv 1)) rfl)))))),?_⟩
 refine ⟨_,rfl,_,rfl,l,t,i,rfl,S,_,rfl,rfl,_,rfl,?_⟩
 by_cases h0 : ck t i = 0
 ·refine bq (congrArg V.int h0) ?_; obtain ⟨hi,A',ea,ef⟩ := eD h0; rw [Ay.step,ef] at k; obtain ⟨vs,x,g1,g2,⟨dx,a,b,h1,h2,h3⟩,ho⟩ := aB.arr S hi ea; refine ⟨ba,fun p hp => ?_⟩; have s2 : ak H (upd H p (.lst [.int 0])) := ak.new hp; refine ⟨_,rfl,_,rfl,l,vs,_,_,rfl,rfl,ag.of (s2 _ _ g1),g2,x,C,dx,_,_,rfl,s2 _ _ h1,T.cl,T.nL,aU a b,?_⟩; have hl := (Ma.aF (aG ho).1).1; exact yd S (ak.refl H) h2 (by rw [List.length_map]; omega) k p hp
 ·obtain ⟨n,h2,ef⟩ := jQ h0; rw [Ay.step,ef] at k; refine bx (a5 h0) ?_; exact ⟨_,rfl,ba,aQ.no S (ak.refl H) k h2⟩
def pL (C : Addr) : Sp := fun vs H Q _ => ∃ (l : Addr) (t : Ay.State) (i : Nat),vs = [.ref l,.int i] /\ aB C H l t /\ aQ C H l (Ay.step t (.cells i)) Q
theorem sc_call_cells : aq ["slots","i","refusal"] ["slots","i"] (aj iY) := fs
theorem vY (D : Df K mg "call_cells" "call_cells" iY ["slots","i"]) (T : Txt K mg C) (aY : Ok P w K mg base 1 "source_refusal" ["slots","i"] (b7 C)) : Ok P w K mg base 2 "call_cells" ["slots","i"] (pL C) := by
 refine D.ok sc_call_cells (fun _ _ _ _ h => by obtain ⟨_,_,_,rfl,_⟩ := h; rfl) (fun f cdv A outer s H vs Q E hr h => ?_); obtain ⟨l,t,i,rfl,S,k⟩ := h
 refine ⟨_,(ad (aH 2 sc_call_cells.nd (ap aY hr (ab (pv 0) (ab (pv 1) ac))))
  (ad (aw (aE bz (pv 2) ai) (ae (ah (az (ab (pv 2) ac)))) ao)
  (ae (ah (aV iE (az (ab ai ac)) (aD (au (pv 0) (pv 1)) rfl)))))),?_⟩
 refine ⟨_,rfl,_,rfl,l,t,i,rfl,S,_,rfl,rfl,_,rfl,?_⟩
 by_cases h0 : ck t i = 0
 ·refine bq (congrArg V.int h0) ?_; obtain ⟨hi,A',ea,ef⟩ := eD h0; rw [Ay.step,ef] at k; obtain ⟨vs,x,g1,g2,⟨dx,a,b,h1,h2,h3⟩,ho⟩ := aB.arr S hi ea; refine ⟨ba,fun p hp => ?_⟩; have s2 : ak H (upd H p (.lst [.int 0])) := ak.new hp; refine ⟨_,rfl,_,rfl,l,vs,_,_,rfl,rfl,ag.of (s2 _ _ g1),g2,x,C,dx,_,_,rfl,s2 _ _ h1,T.cl,T.nC,cr a b,?_⟩; have hl := (Ma.aF (aG ho).1).2.2; have hl2 := (aG ho).2.1; exact yd S (ak.refl H) h3 (by omega) k p hp
 ·obtain ⟨n,h2,ef⟩ := jQ h0; rw [Ay.step,ef] at k; refine bx (a5 h0) ?_; exact ⟨_,rfl,ba,aQ.no S (ak.refl H) k h2⟩
def tp (K : Fg) (C : Addr) : Sp := fun vs H Q _ => ∃ (l a : Addr) (t : Ay.State) (i : Nat) (p : List Nat),vs = [.ref l,.int i,.ref a] /\ aB C H l t /\ ag K H a (vn p) /\ aQ C H l (Ay.step t (.at_ i p)) Q
theorem sc_call_at : aq ["slots","i","place","refusal"] ["slots","i","place"] (aj mD) := fs
theorem zn (D : Df K mg "call_at" "call_at" mD ["slots","i","place"]) (T : Txt K mg C) (aY : Ok P w K mg base 1 "source_refusal" ["slots","i"] (b7 C)) (gp : Ok P w K mg base 1 "is_place" ["lengths","place"] (np K)) (cH : Ok P w K mg base 2 "cell_at" ["array","place"] (iw K C)) : Ok P w K mg base 3 "call_at" ["slots","i","place"] (tp K C) := by
 refine D.ok sc_call_at (fun _ _ _ _ h => by obtain ⟨_,_,_,_,_,rfl,_⟩ := h; rfl) (fun f cdv A outer s H vs Q E hr h => ?_); obtain ⟨l,pa,t,i,p,rfl,S,hp,k⟩ := h
 refine ⟨_,(ad (aH 3 sc_call_at.nd (ap aY hr (ab (pv 0) (ab (pv 1) ac))))
  (ad (aw (aE bz (pv 3) ai) (ae (ah (az (ab (pv 3) ac)))) ao)
  (ad (aw (bw (bg (ap gp hr (ab (aD (au (pv 0) (pv 1)) rfl) (ab (pv 2) ac))))) (ae (ah (az (ab (aP T.g_NOWHERE) ac)))) ao)
  (ae (ah (az (ab ai (ab (ap cH hr (ab (au (pv 0) (pv 1)) (ab (pv 2) ac))) ac)))))))),?_⟩
 refine ⟨_,rfl,_,rfl,l,t,i,rfl,S,_,rfl,rfl,_,rfl,?_⟩
 by_cases h0 : ck t i = 0
 ·refine bq (congrArg V.int h0) ?_; obtain ⟨hi,A',ea,ef⟩ := eD h0; rw [Ay.step,ef] at k; obtain ⟨vs,x,g1,g2,hA,ho⟩ := aB.arr S hi ea; obtain ⟨dx,a,b,h1,h2,h3⟩ := id hA; refine ⟨_,rfl,_,rfl,l,vs,_,_,rfl,rfl,ag.of g1,g2,x,C,dx,_,_,rfl,h1,T.cl,T.nL,aU a b,_,rfl,a,pa,A'.shape,p,rfl,ag.of h2,hp,fun H1 s1 => ⟨_,rfl,?_⟩⟩
  cases e : Ad.has A'.shape p with
  | false =>
   rw [if_pos e] at k; exact ⟨ba,aQ.no S s1 k rfl⟩
  | true =>
   rw [if_neg (by rw [e]; simp)] at k; refine ⟨_,rfl,_,rfl,l,vs,_,_,rfl,rfl,ag.of (s1 _ _ g1),g2,_,rfl,x,pa,A',p,rfl,hA.keep s1,ho,s1.seq hp,Ma.in_iff.mpr e,fun H2 s2 => ⟨lj,fun q hq => ?_⟩⟩; have s3 := (s1.trans s2).upd (o := .lst [.int 0,.int (A'.at_ p)]) ((s1.trans s2).free hq); exact k _ q s3.keep (S.keep s3) ((s1.trans s2).free hq) (by rw [am]; rfl)
 ·obtain ⟨n,h2,ef⟩ := jQ h0; rw [Ay.step,ef] at k; refine bx (a5 h0) ?_; exact ⟨_,rfl,ba,aQ.no S (ak.refl H) k h2⟩
def sn (K : Fg) (C : Addr) : Sp := fun vs H Q _ => ∃ (l a : Addr) (t : Ay.State) (i : Nat) (v : Int) (p : List Nat),vs = [.ref l,.int i,.int v,.ref a] /\ aB C H l t /\ ag K H a (vn p) /\ aQ C H l (Ay.step t (.set i v p)) Q
theorem sc_call_set : aq ["slots","i","v","place","refusal","array","cells"] ["slots","i","v","place"] (aj k9) := fs
theorem xU (D : Df K mg "call_set" "call_set" k9 ["slots","i","v","place"]) (T : Txt K mg C) (aY : Ok P w K mg base 1 "source_refusal" ["slots","i"] (b7 C)) (bX : Ok P w K mg base 1 "is_cell" ["number"] (gh)) (gp : Ok P w K mg base 1 "is_place" ["lengths","place"] (np K)) (bY : Ok P w K mg base 1 "number_of" ["lengths","place"] (f8 K)) (aZ : Ok P w K mg base 1 "keep" ["slots","k","array"] (b6 C)) (aS : dO P w K mg base 1 "Array" C ["self","lengths","cells"] (bO C)) : Ok P w K mg base 3 "call_set" ["slots","i","v","place"] (sn K C) := by
 refine D.ok sc_call_set (fun _ _ _ _ h => by obtain ⟨_,_,_,_,_,_,rfl,_⟩ := h; rfl) (fun f cdv A outer s H vs Q E hr h => ?_); obtain ⟨l,pa,t,i,v,p,rfl,S,hp,k⟩ := h
 refine ⟨_,(ad (aH 4 sc_call_set.nd (ap aY hr (ab (pv 0) (ab (pv 1) ac))))
  (ad (aw (aE bz (pv 4) ai) (ae (ah (az (ab (pv 4) ac)))) ao)
  (ad (aw (bw (bg (ap bX hr (ab (pv 2) ac)))) (ae (ah (az (ab (aP T.g_WRONG) ac)))) ao)
  (ad (aH 5 sc_call_set.nd (au (pv 0) (pv 1)))
  (ad (aw (bw (bg (ap gp hr (ab (aD (pv 5) rfl) (ab (pv 3) ac))))) (ae (ah (az (ab (aP T.g_NOWHERE) ac)))) ao)
  (ad (aH 6 sc_call_set.nd (f9 lr (by rfl) T.b_list rg (ab (aD (pv 5) rfl) ac)))
  (ad (nY (pv 2) (ow (pv 6) (ap bY hr (ab (aD (pv 5) rfl) (ab (pv 3) ac))) jb))
  (ae (ah (ap aZ hr (ab (pv 0) (ab (pv 1) (ab (dZ aS hr (ab (aD (pv 5) rfl) (ab (pv 6) ac))) ac))))))))))))),?_⟩
 refine ⟨_,rfl,_,rfl,l,t,i,rfl,S,_,rfl,rfl,_,rfl,?_⟩
 by_cases h0 : ck t i = 0
 ·refine bq (congrArg V.int h0) ?_; obtain ⟨hi,A',ea,ef⟩ := eD h0; rw [Ay.step,ef] at k; obtain ⟨vs,x,g1,g2,hA,ho⟩ := aB.arr S hi ea; obtain ⟨dx,a,b,h1,h2,h3⟩ := id hA; refine ⟨_,rfl,v,rfl,_,rfl,?_⟩
  cases e0 : Ad.cellFine v with
  | false =>
   rw [if_pos e0] at k; exact ⟨ba,aQ.no S (ak.refl H) k rfl⟩
  | true =>
   rw [if_neg (by rw [e0]; simp)] at k; refine ⟨_,rfl,_,rfl,l,vs,_,_,rfl,rfl,ag.of g1,g2,_,rfl,x,C,dx,_,_,rfl,h1,T.cl,T.nL,aU a b,_,rfl,a,pa,A'.shape,p,rfl,ag.of h2,hp,fun H1 s1 => ⟨_,rfl,?_⟩⟩
   cases e : Ad.has A'.shape p with
   | false =>
    rw [if_pos e] at k; exact ⟨ba,aQ.no S s1 k rfl⟩
   | true =>
    rw [if_neg (by rw [e]; simp)] at k; have hin := Ma.in_iff.mpr e; refine ⟨_,rfl,x,C,dx,_,_,rfl,s1 _ _ h1,T.cl,T.nC,cr a b,b,_,rfl,.inl (ag.of (s1 _ _ h3)),fun q hq => ?_⟩; have s2 : ak H1 (upd H1 q (.lst (vi A'.cells))) := ak.new hq; have hqs : (upd H1 q (.lst (vi A'.cells))) q = some (.lst (vi A'.cells)) := am; generalize upd H1 q (.lst (vi A'.cells)) = H2 at *; have s12 := s1.trans s2; refine ⟨_,rfl,_,rfl,_,rfl,x,C,dx,_,_,rfl,s12 _ _ h1,T.cl,T.nL,aU a b,_,rfl,a,pa,A'.shape,p,rfl,ag.of (s12 _ _ h2),s12.seq hp,hin.len,cb (aG ho).1,fun H3 s3 => ?_⟩; have hlt : Ad.cellOf A'.shape p < A'.cells.length := by rw [(aG ho).2.1]; exact hin.lt
    have hix : fU (vi A'.cells).length ((Ad.cellOf A'.shape p : Nat) : Int) = some (Ad.cellOf A'.shape p) := by
     unfold fU; rw [aN,if_pos (by omega),if_pos (by omega)]; rfl
    refine ⟨q,_,_,_,rfl,rfl,s3 _ _ hqs,hix,?_⟩; have hq0 : H q = none := s1.free hq; have s4 : ak H (upd H3 q (.lst ((vi A'.cells).set (Ad.cellOf A'.shape p) (.int v)))) := (s12.trans s3).upd hq0
    have h5 : (upd H3 q (.lst ((vi A'.cells).set (Ad.cellOf A'.shape p) (.int v)))) q = some (.lst (vi (A'.cells.set (Ad.cellOf A'.shape p) v))) := by
     rw [am]; show _ = some (HO.lst (List.map V.int _)); rw [List.map_set]
    generalize upd H3 q (.lst ((vi A'.cells).set (Ad.cellOf A'.shape p) (.int v))) = H4 at *; refine ⟨_,rfl,_,rfl,_,rfl,x,C,dx,_,_,rfl,s4 _ _ h1,T.cl,T.nL,aU a b,_,rfl,i6 (A := { A' with cells := A'.cells.set (Ad.cellOf A'.shape p) v }) hi (S.keep s4) (s4 _ _ h2) h5 (iC (aG ho).1 ?_ ?_) (k.same s4)⟩
    ·show (A'.cells.set _ v).length = _; rw [List.length_set]; exact (aG ho).2.1
    ·intro z hz
     rcases List.mem_or_eq_of_mem_set hz with h | h
     ·exact (aG ho).2.2 z h
     ·rw [h]; exact e0
 ·obtain ⟨n,h2,ef⟩ := jQ h0; rw [Ay.step,ef] at k; refine bx (a5 h0) ?_; exact ⟨_,rfl,ba,aQ.no S (ak.refl H) k h2⟩
end
end Go

namespace Go
open PySem PySem.Spec PyProof.Rows L2
section
variable {P : Program} {w : World} {K : Fg} {mg : Str -> Option Value} {base : Heap} {C al : Addr}
def ub (K : Fg) : Sp := fun vs H Q _ => ∃ (a b : Addr) (s g : List Nat),vs = [.ref a,.ref b] /\ ag K H a (vn s) /\ ag K H b (vn g) /\ ∀ H',ak H H' -> Q (.bl (Ad.spreads s g)) H'
theorem sc_spreads : aq ["small","great","ahead","length","wanted"] ["small","great"] (aj mf) := fs
theorem zN (D : Df K mg "spreads" "spreads" mf ["small","great"]) (T : Txt K mg C) : Ok P w K mg base 1 "spreads" ["small","great"] (ub K) := by
 refine D.ok sc_spreads (fun _ _ _ _ h => by obtain ⟨_,_,_,_,rfl,_⟩ := h; rfl) (fun f cdv A outer s H vs Q E hr h => ?_); obtain ⟨a,b,s,g,rfl,ha,hb,k⟩ := h
 refine ⟨_,(ad (aH 2 sc_spreads.nd (aV jY (bA T.b_len (pv 1)) (bA T.b_len (pv 0))))
  (ad (aw (aE iG (pv 2) ai) (ae (ah dB)) ao)
  (ad (bQ PassesOwn.never rfl (fk rfl T.b_zip (ab (pv 0) (ab (e_ gf (pv 1) (eL (pv 2)) i_) ac))) (gF rfl (bd (a0 3 sc_spreads.nd) (bd (a0 4 sc_spreads.nd) cQ))) (ae (aw (PW.pt (oh (aE bz (pv 3) (pv 4)) (rl (aE bz (pv 3) ai)))) (ae (ah dB)) ao)))
  (ae (ah dB))))),?_⟩
 refine ⟨_,rfl,b,_,rfl,.inl hb,_,rfl,a,_,rfl,.inl ha,_,_,rfl,rfl,_,rfl,_,_,rfl,rfl,_,rfl,?_⟩; rw [aI,aI]; refine a_ (fun h => ?_) (fun h => ?_)
 ·have h1 := of_decide_eq_true h
  have e : Ad.spreads s g = false := by
   cases e : Ad.spreads s g with
   | false => rfl
   | true =>
    have := (Ma.spreads_iff.mp e).1; omega
  rw [e] at k; exact k _ (ak.refl H)
 ·simp at h; have hl : s.length <= g.length := by omega
  have e0 : (g.length : Int) - (s.length : Int) = ((g.length - s.length : Nat) : Int) := by omega
  refine ⟨_,rfl,_,rfl,_,rfl,_,rfl,b,_,rfl,hb,fun q hq => ?_⟩; have s1 : ak H (upd H q (.lst (eN (vn g) (some ((g.length : Int) - (s.length : Int))) none))) := ak.new hq
  have hq1 : (upd H q (.lst (eN (vn g) (some ((g.length : Int) - (s.length : Int))) none))) q = some (.lst (vn (g.drop (g.length - s.length)))) := by
   rw [am,e0,jT,uy]
  generalize upd H q (.lst (eN (vn g) (some ((g.length : Int) - (s.length : Int))) none)) = H1 at *; have hll : (g.drop (g.length - s.length)).length = s.length := by rw [List.length_drop]; omega
  refine ⟨a,q,_,_,rfl,s1.seq ha,ag.of hq1,im (K := K) (a := a) (b := q) (xs := vn s) (ys := vn (g.drop (g.length - s.length))) (fun i σ H' => ∃ (v u : Option V),σ = [some (.ref a),some (.ref b),some (.int ((g.length : Int) - (s.length : Int))),v,u] /\ (∀ (j x y : Nat),j < i -> s[j]? = some x -> (g.drop (g.length - s.length))[j]? = some y -> x = y \/ x = 1) /\ ak H1 H')
   ⟨none,none,rfl,by omega,ak.refl H1⟩ (by rw [aI,aI,hll]) (fun i σ H' _ ⟨_,_,_,_,e⟩ => ⟨(s1.trans e).seq ha,e.seq (ag.of hq1)⟩) ?_ ?_⟩
  ·rintro i x y σ H' T hx0 hy0 hT ⟨v,u,rfl,hc,sm⟩; obtain ⟨x,hx,rfl⟩ := cJ hx0; obtain ⟨y,hy,rfl⟩ := cJ hy0; refine ⟨T,_,rfl,cx.of am,rfl,_,_,rfl,_,_,rfl,rfl,_,rfl,_,rfl,rfl,_,rfl,?_⟩
   have nxt : (x = y \/ x = 1) -> ∀ (j x' y' : Nat),j < i + 1 -> s[j]? = some x' -> (g.drop (g.length - s.length))[j]? = some y' -> x' = y' \/ x' = 1 := fun hxy j x' y' hj e1 e2 => by
    by_cases hji : j = i
    ·subst hji; rw [hx] at e1; rw [hy] at e2; cases e1; cases e2; exact hxy
    ·exact hc j x' y' (by omega) e1 e2
   have s2 : ak H1 (upd H' T (.tup [.int x,.int y])) := sm.upd (sm.free hT)
   by_cases hxy : x = y
   ·refine bq (by rw [hxy]) ?_; exact ⟨_,_,rfl,nxt (.inl hxy),s2⟩
   ·refine bx (a5 (by omega)) ?_; refine ⟨_,rfl,rfl,_,rfl,?_⟩
    by_cases hx1 : x = 1
    ·refine bq (by rw [hx1]; rfl) ?_; exact ⟨_,_,rfl,nxt (.inr hx1),s2⟩
    ·refine bx (a5 (by omega)) ?_
     have e : Ad.spreads s g = false := by
      cases e : Ad.spreads s g with
      | false => rfl
      | true =>
       rcases (Ma.spreads_iff.mp e).2 i x y hx hy with z | z
       ·exact absurd z hxy
       ·exact absurd z hx1
     rw [e] at k; exact k _ (s1.trans s2)
  ·rintro σ H' ⟨v,u,rfl,hc,sm⟩; rw [aI] at hc; have e : Ad.spreads s g = true := Ma.spreads_iff.mpr ⟨hl,fun j x y e1 e2 => hc j x y (List.getElem?_eq_some_iff.mp e1).1 e1 e2⟩; rw [e] at k; exact k _ (s1.trans sm)
def gH (K : Fg) : Sp := fun vs H Q _ => ∃ (a b : Addr) (s p : List Nat),vs = [.ref a,.ref b] /\ ag K H a (vn s) /\ ag K H b (vn p) /\ s.length <= p.length /\ s.length <= 1000 /\ ∀ H' q,ak H H' -> H q = none -> H' q = some (.lst (vn (Ad.narrowed s p))) -> Q (.ref q) H'
theorem sc_place_before_spread : aq ["small","place","ahead","length","number"] ["small","place"] (aj cp) := fs
theorem mK (D : Df K mg "place_before_spread" "place_before_spread" cp ["small","place"]) (T : Txt K mg C) : Ok P w K mg base 1 "place_before_spread" ["small","place"] (gH K) := by
 refine D.ok sc_place_before_spread (fun _ _ _ _ h => by obtain ⟨_,_,_,_,rfl,_⟩ := h; rfl) (fun f cdv A outer s H vs Q E hr h => ?_); obtain ⟨a,b,s,g,rfl,ha,hb,hl,h1000,k⟩ := h
 refine ⟨_,(ad (aH 2 sc_place_before_spread.nd (aV jY (bA T.b_len (pv 1)) (bA T.b_len (pv 0))))
  (ae (ah (dt rfl sc_place_before_spread.nd (fk rfl T.b_zip (ab (pv 0) (ab (e_ gf (pv 1) (eL (pv 2)) i_) ac))) (a8 (N := ["small","place","ahead","length","number"]) (sc := aj cp) (own := [("length",3),("number",4)]) (by decide +kernel)) (fun _ _ _ _ _ => (lf K rfl (n := 2) rfl (bd (a0 3 sc_place_before_spread.nd) (bd (a0 4 sc_place_before_spread.nd) cQ)))) (fun _ _ _ _ _ => br) (fun _ _ _ _ _ => (fV (aE bB (pv 3) ai) ai (pv 4))))))),?_⟩
 refine ⟨_,rfl,b,_,rfl,.inl hb,_,rfl,a,_,rfl,.inl ha,_,_,rfl,rfl,?_⟩; rw [aI,aI]; have e0 : (g.length : Int) - (s.length : Int) = ((g.length - s.length : Nat) : Int) := by omega
 refine ⟨_,rfl,_,rfl,_,rfl,_,rfl,b,_,rfl,hb,fun q hq => ?_⟩; have s1 : ak H (upd H q (.lst (eN (vn g) (some ((g.length : Int) - (s.length : Int))) none))) := ak.new hq
 have hq1 : (upd H q (.lst (eN (vn g) (some ((g.length : Int) - (s.length : Int))) none))) q = some (.lst (vn (g.drop (g.length - s.length)))) := by
  rw [am,e0,jT,uy]
 generalize upd H q (.lst (eN (vn g) (some ((g.length : Int) - (s.length : Int))) none)) = H1 at *; have hll : (g.drop (g.length - s.length)).length = s.length := by rw [List.length_drop]; omega
 refine ⟨a,q,_,_,rfl,s1.seq ha,ag.of hq1,fun D hD => ?_⟩; refine cz (rm (s1.seq ha) (ag.of hq1) (by rw [aI,aI,hll])) (fun i => V.int (((Ad.narrowed s g).getD i 0 : Nat) : Int)) hD (by rw [aI]; show _ <= 2 ^ 24; omega) ?_ j0 ?_
 ·rintro i H2 v H3 hi sm ⟨T,x,y,rfl,hT,rfl,hx0,hy0⟩ Q' kq; obtain ⟨x,hx,rfl⟩ := cJ hx0; obtain ⟨y,hy,rfl⟩ := cJ hy0; refine ⟨T,_,rfl,cx.of am,rfl,_,_,rfl,_,_,rfl,rfl,rfl,_,rfl,rfl,_,rfl,?_⟩; have e := Ma.qB hx hy; have kq2 := kq (upd H2 T (.tup [.int x,.int y])) (ak.new hT); rw [List.getD_eq_getElem?_getD,e] at kq2
  by_cases h1 : x = 1
  ·rw [if_pos h1] at kq2; refine a_ (fun _ => kq2) (fun h => absurd ?_ h); rw [h1]; exact decide_eq_true rfl
  ·rw [if_neg h1] at kq2; refine a_ (fun h => absurd (of_decide_eq_true h) (a5 (by omega))) (fun _ => ⟨_,rfl,kq2⟩)
 ·intro H' sm h1; refine k H' D (s1.trans sm) (s1.free hD) ?_; rw [h1]; congr 2; rw [aI]; show _ = List.map V.int (List.map _ _); rw [List.map_map]; apply List.ext_getElem?; intro i
  by_cases hi : i < s.length
  ·have e2 : (Ad.narrowed s g)[i]? = some ((Ad.narrowed s g)[i]'(by rw [Ma.lC hl]; exact hi)) := List.getElem?_eq_getElem _; rw [List.getElem?_map,List.getElem?_range hi,List.getElem?_map,e2]; simp only [Option.map_some,List.getD_eq_getElem?_getD,e2,Option.getD_some,Function.comp]
  ·rw [List.getElem?_eq_none (by simp; omega),List.getElem?_eq_none (by rw [List.length_map,Ma.lC hl]; omega)]
theorem pq (s : List Nat) (g : List Nat -> Int) : (List.range (Ad.product_ s)).map (fun c => V.int (g (Ad.placeOf s c))) = vi (Ad.build s g).cells := by
 show _ = List.map V.int (List.map _ _); rw [List.map_map]; rfl
theorem fc {s : List Nat} {g : List Nat -> Int} (hs : Ad.shapeOk s = true) (hg : ∀ p,Ma.In s p -> Ad.cellFine (g p) = true) : (Ad.build s g).ok = true := by
 refine iC hs ?_ ?_
 ·show ((List.range _).map _).length = _; rw [List.length_map,List.length_range]; rfl
 ·intro z hz; obtain ⟨c,hc,e⟩ := List.mem_map.mp (show z ∈ (List.range (Ad.product_ s)).map _ from hz); rw [← e]; exact hg _ (Ma.cC (List.mem_range.mp hc))
theorem fu {A : Ad.Arr} (h : A.ok = true) {p : List Nat} (hp : Ma.In A.shape p) : Ad.cellFine (A.at_ p) = true := (aG h).2.2 _ (List.mem_of_getElem? (wp h hp))
def iI (K : Fg) (C : Addr) : Sp := fun vs H Q _ => ∃ (x b : Addr) (A : Ad.Arr) (s : List Nat),vs = [.ref x,.ref b] /\ b0 C H x A /\ A.ok = true /\ H b = some (.lst (vn s)) /\ Ad.shapeOk s = true /\ Ad.spreads A.shape s = true /\ ∀ H' y,ak H H' -> H y = none -> b0 C H' y (Ad.spreadTo A s) -> Q (.ref y) H'
theorem sc_spread_array : aq ["array","lengths","cells","place"] ["array","lengths"] (aj eO) := fs
theorem tR (D : Df K mg "spread_array" "spread_array" eO ["array","lengths"]) (T : Txt K mg C) (bH : Ok P w K mg base 2 "places_of" ["lengths"] (eG K)) (cH : Ok P w K mg base 2 "cell_at" ["array","place"] (iw K C)) (eI : Ok P w K mg base 1 "place_before_spread" ["small","place"] (gH K)) (aS : dO P w K mg base 1 "Array" C ["self","lengths","cells"] (bO C)) : Ok P w K mg base 3 "spread_array" ["array","lengths"] (iI K C) := by
 refine D.ok sc_spread_array (fun _ _ _ _ h => by obtain ⟨_,_,_,_,rfl,_⟩ := h; rfl) (fun f cdv A outer s H vs Q E hr h => ?_); obtain ⟨x,b,A',s,rfl,hA,ho,hb,hs,hsp,k⟩ := h
 refine ⟨_,(ad (cS rfl sc_spread_array.nd (i := 2) rfl rfl (dF rfl rfl rfl (by decide +kernel)) (bD (ap bH hr (ab (pv 1) ac))) (a8 (N := ["array","lengths","cells","place"]) (sc := aj eO) (own := [("place",3)]) (by decide +kernel)) (fun _ _ _ _ _ => (a0 3 sc_spread_array.nd)) (fun _ _ _ _ _ => br) (fun _ _ _ _ _ => (ap cH hr (ab (pv 0) (ab (ap eI hr (ab (u6 K rfl (pv 0) rfl) (ab (pv 3) ac))) ac)))))
  (ae (ah (dZ aS hr (ab (pv 1) (ab (pv 2) ac)))))),?_⟩
 obtain ⟨g1,g2,g3⟩ := Ma.aF hs; refine ⟨_,rfl,b,s,rfl,ag.of hb,hs,fun H1 q s1 hq hP => ?_⟩; obtain ⟨qs,p1,p2,p3⟩ := id hP; refine ⟨q,rfl,⟨_,ag.of p1⟩,fun D hD => ?_⟩; refine cz (bW (ag.of p1)) (fun c => V.int (A'.at_ (Ad.narrowed A'.shape (Ad.placeOf s c)))) hD (by rw [List.length_map,p2]; show _ <= 2 ^ 24; omega) ?_ bf ?_
 ·rintro c H2 v H3 hi sm ⟨rfl,hx⟩ Q' kq; rw [List.getElem?_map] at hx
  cases e : qs[c]? with
  | none => rw [e] at hx; cases hx
  | some r =>
   rw [e] at hx; have e2 : V.ref r = v := Option.some.inj hx; subst e2; have hc : c < Ad.product_ s := by rw [← p2]; exact (List.getElem?_eq_some_iff.mp e).1
   have hin := Ma.cC hc; have hnin := Ma.mN hsp hin; obtain ⟨dx,aa,bb,h1,h2,h3⟩ := hA.keep (s1.trans sm); refine ⟨rfl,_,rfl,_,rfl,x,C,dx,_,_,rfl,h1,T.cl,T.nL,aU aa bb,_,rfl,aa,r,A'.shape,Ad.placeOf s c,rfl,ag.of h2,ag.of (sm _ _ (p3 c r e)),?_,?_,fun H4 p s4 hp h4 => ?_⟩
   ·rw [Ma.eQ]; exact (Ma.spreads_iff.mp hsp).1
   ·have := (Ma.aF (aG ho).1).1; omega
   ·exact ⟨x,p,A',_,rfl,hA.keep ((s1.trans sm).trans s4),ho,ag.of h4,hnin,fun H5 s5 => kq H5 (s4.trans s5)⟩
 ·intro H' sm h1; rw [List.length_map,p2] at h1; have h1 := h1.trans (congrArg (fun z => some (HO.lst z)) (pq s fun p => A'.at_ (Ad.narrowed A'.shape p))); have s2 := s1.trans sm; refine ⟨_,rfl,_,rfl,ph (Q := Q) (A := Ad.spreadTo A' s) (s2 _ _ hb) h1 fun y H2 hy s3 hA2 => ?_⟩; exact k H2 y (s2.trans s3) (s2.free hy) hA2
end
end Go

namespace Go
open PySem PySem.Spec PyProof.Rows L2
section
variable {P : Program} {w : World} {K : Fg} {mg : Str -> Option Value} {base : Heap} {C al : Addr}
def qF (cs : List Int) (r : Nat) : List Int := (List.range r).map fun i => cs.getD (3 * i + 2) 0
theorem lH {l : List Int} {i : Nat} (h : i < l.length) : l[i]? = some (l.getD i 0) := by
 rw [List.getD_eq_getElem?_getD,List.getElem?_eq_getElem h]; rfl
def c_ (K : Fg) : Sp := fun vs H Q _ => ∃ (c : Addr) (cs : List Int) (r : Nat),vs = [.ref c] /\ ag K H c (vi cs) /\ cs.length = 3 * r /\ r <= 1000 /\ ∀ H' q,ak H H' -> H q = none -> H' q = some (.lst (vi (qF cs r))) -> Q (.ref q) H'
theorem sc_section_lengths : aq ["cuts","at"] ["cuts"] (aj dk) := fs
theorem q_ (D : Df K mg "section_lengths" "section_lengths" dk ["cuts"]) (T : Txt K mg C) : Ok P w K mg base 1 "section_lengths" ["cuts"] (c_ K) := by
 refine D.ok sc_section_lengths (fun _ _ _ _ h => by obtain ⟨_,_,_,rfl,_⟩ := h; rfl) (fun f cdv A outer s H vs Q E hr h => ?_); obtain ⟨c,cs,r,rfl,hc,hl,hr,k⟩ := h; refine ⟨_,(ae (ah (dt rfl sc_section_lengths.nd (vd rfl T.b_range (ab ai (ab (bA T.b_len (pv 0)) (ab ai ac)))) (a8 (N := ["cuts","at"]) (sc := aj dk) (own := [("at",1)]) (by decide +kernel)) (fun _ _ _ _ _ => (a0 1 sc_section_lengths.nd)) (fun _ _ _ _ _ => br) (fun _ _ _ _ _ => (oX K (pv 0) (pv 1)))))),?_⟩; refine ⟨_,rfl,c,_,rfl,.inl hc,_,_,_,r,rfl,(by rw [aN,hl]; exact wg.three r hr),fun D hD => ?_⟩; refine cz (zk) (fun i => V.int (cs.getD (3 * i + 2) 0)) hD (by show _ <= 2 ^ 24; omega) ?_ bf ?_
 ·rintro i H2 v H3 hi sm ⟨rfl,rfl⟩ Q' kq; exact ⟨rfl,_,rfl,_,rfl,c,_,_,_,rfl,rfl,sm.seq hc,dU (j := 3 * i + 2) (by omega) (cy (lH (by omega))),kq _ (ak.refl _)⟩
 ·intro H' sm h1; refine k H' D sm hD ?_; rw [h1]; show _ = some (HO.lst (List.map V.int (List.map _ _))); rw [List.map_map]; rfl
def mO (K : Fg) : Sp := fun vs H Q _ => ∃ (a c : Addr) (s : List Nat) (cs : List Int),vs = [.ref a,.ref c] /\ ag K H a (vn s) /\ ag K H c (vi cs) /\ s.length <= 4 /\ ∀ H',ak H H' -> Q (.bl (Ma.dI s cs)) H'
theorem sc_are_cuts : aq ["lengths","cuts","count"] ["lengths","cuts"] (aj kZ) := fs
theorem xL (D : Df K mg "are_cuts" "are_cuts" kZ ["lengths","cuts"]) (T : Txt K mg C) (bj : Ok P w K mg base 1 "section_lengths" ["cuts"] (c_ K)) : Ok P w K mg base 2 "are_cuts" ["lengths","cuts"] (mO K) := by
 refine D.ok sc_are_cuts (fun _ _ _ _ h => by obtain ⟨_,_,_,_,rfl,_⟩ := h; rfl) (fun f cdv A outer s H vs Q E hr h => ?_); obtain ⟨a,c,s,cs,rfl,ha,hc,h4,k⟩ := h
 refine ⟨_,(ad (aw (aE bz (bA T.b_len (pv 1)) (aV dj ai (bA T.b_len (pv 0)))) (ae (ah dB)) ao)
  (ad (bQ PassesOwn.never rfl (bD (ap bj hr (ab (pv 1) ac))) (a0 2 sc_are_cuts.nd) (ae (aw (PW.pt (dv (aE iG (pv 2) ai) (dm (aE k7 (pv 2) (aP T.g_MOST_COUNT))))) (ae (ah dB)) ao)))
  (ae (ah dB)))),?_⟩
 refine ⟨_,rfl,c,_,rfl,.inl hc,_,rfl,a,_,rfl,.inl ha,_,_,rfl,rfl,.inl ⟨by decide,by decide⟩,rfl,_,rfl,?_⟩; rw [aN,aI]
 by_cases hl : cs.length = 3 * s.length
 ·refine bq (congrArg V.int (by omega)) ?_; refine ⟨_,rfl,c,cs,s.length,rfl,hc,hl,by omega,fun H1 q s1 hq hq1 => ?_⟩
  refine ⟨q,rfl,⟨_,ag.of hq1⟩,d7 (K := K) (a := q) (xs := vi (qF cs s.length)) (fun i σ H' => ∃ (u : Option V),σ = [some (.ref a),some (.ref c),u] /\ (∀ (j : Nat) (z : Int),j < i -> cs[3 * j + 2]? = some z -> ¬ (z < 1 \/ 1024 < z)) /\ H' = H1)
   ⟨none,rfl,by omega,rfl⟩ (fun i σ H' _ ⟨_,_,_,e⟩ => e ▸ ag.of hq1) ?_ ?_⟩
  ·rintro i x σ H' hi0 ⟨u,rfl,hcc,rfl⟩; obtain ⟨z,hz,rfl⟩ := dN hi0
   have hi : i < s.length := by
    have := (List.getElem?_eq_some_iff.mp hz).1
    simpa [qF] using this
   have hz2 : cs[3 * i + 2]? = some z := by
    unfold qF at hz; rw [List.getElem?_map,List.getElem?_range hi] at hz; rw [lH (by omega)]; exact hz
   refine ⟨_,rfl,_,_,rfl,rfl,_,rfl,a_ (fun h => ?_) (fun h => ?_)⟩
   ·have h1 := of_decide_eq_true h; have e := Ma.si hl hi hz2 (.inl h1); rw [e] at k; exact k _ s1
   ·refine ⟨_,rfl,_,_,rfl,rfl,_,rfl,a_ (fun h2 => ?_) (fun h2 => ?_)⟩
    ·have h1 := of_decide_eq_true h2; have e := Ma.si hl hi hz2 (.inr h1); rw [e] at k; exact k _ s1
    ·simp at h h2; refine ⟨_,rfl,fun j z' hj e => ?_,rfl⟩
     by_cases hji : j = i
     ·subst hji; rw [hz2] at e; cases e; omega
     ·exact hcc j z' (by omega) e
  ·rintro σ H' ⟨u,rfl,hcc,rfl⟩; have e := Ma.wL hl fun i z hi hz => hcc i z (by simpa [qF] using hi) hz
   rw [e] at k; exact k _ s1
 ·refine bx (a5 (by omega)) ?_; rw [Ma.xN hl] at k; exact k _ (ak.refl H)
def ga (K : Fg) : Sp := fun vs H Q _ => ∃ (a c : Addr) (s : List Nat) (cs : List Int) (l : List Ad.Cut),vs = [.ref a,.ref c] /\ ag K H a (vn s) /\ ag K H c (vi cs) /\ Ma.lg cs l /\ l.length = s.length /\ ∀ H',ak H H' -> Q (.bl (Ad.cutOk s l)) H'
theorem sc_cuts_lie_within : aq ["lengths","cuts","axis","length","first","last"] ["lengths","cuts"] (aj eh) := fs
theorem p4 (D : Df K mg "cuts_lie_within" "cuts_lie_within" eh ["lengths","cuts"]) (T : Txt K mg C) : Ok P w K mg base 1 "cuts_lie_within" ["lengths","cuts"] (ga K) := by
 refine D.ok sc_cuts_lie_within (fun _ _ _ _ h => by obtain ⟨_,_,_,_,_,rfl,_⟩ := h; rfl) (fun f cdv A outer s H vs Q E hr h => ?_); obtain ⟨a,c,s,cs,l,rfl,ha,hc,hcu,hl,k⟩ := h
 refine ⟨_,(ad (bQ PassesOwn.never rfl (u7 rfl T.b_enumerate (ab (pv 0) ac)) (gF rfl (bd (a0 2 sc_cuts_lie_within.nd) (bd (a0 3 sc_cuts_lie_within.nd) cQ))) (ad (aH 4 sc_cuts_lie_within.nd (au (pv 1) (aV dj ai (pv 2))))
  (ad (aH 5 sc_cuts_lie_within.nd (aV cM (pv 4) (aV dj (au (pv 1) (aV cM (aV dj ai (pv 2)) ai)) (aV jY (au (pv 1) (aV cM (aV dj ai (pv 2)) ai)) ai))))
  (ae (aw (PW.pt (dv (aE iG (bG (vg rfl) (by rfl) T.b_min zR (ab (pv 4) (ab (pv 5) ac))) ai) (dm (aE ml (bG (mh rfl) (by rfl) T.b_max tj (ab (pv 4) (ab (pv 5) ac))) (pv 3))))) (ae (ah dB)) ao)))))
  (ae (ah dB))),?_⟩
 refine ⟨_,rfl,a,_,rfl,ha,abq (K := K) (a := a) (xs := vn s) (fun i σ H' => ∃ (u v x y : Option V),σ = [some (.ref a),some (.ref c),u,v,x,y] /\ (∀ (j : Nat) q n,j < i -> l[j]? = some q -> s[j]? = some n -> q.within n = true) /\ ak H H')
  ⟨none,none,none,none,rfl,(fun _ _ _ h => absurd h (Nat.not_lt_zero _)),ak.refl H⟩ (fun i σ H' _ ⟨_,_,_,_,_,_,e⟩ => e.seq ha) ?_ ?_⟩
 ·rintro i n σ H' T hn0 hT ⟨u,v,x,y,rfl,hcc,sm⟩; obtain ⟨n,hn,rfl⟩ := cJ hn0; have hi : i < s.length := (List.getElem?_eq_some_iff.mp hn).1; have hq : l[i]? = some (l[i]'(by omega)) := List.getElem?_eq_getElem _; generalize l[i]'(by omega) = q at hq; obtain ⟨c1,c2,c3,c4,c5⟩ := hcu.2 i q hq; have s2 : ak H (upd H' T (.tup [.int (i : Nat),.int n])) := sm.upd (sm.free hT); have hcS := s2.seq hc; have hp2 : (upd H' T (.tup [.int (i : Nat),.int n])) T = some (.tup [.int (i : Nat),.int n]) := am; generalize upd H' T (.tup [.int (i : Nat),.int n]) = H2 at *; refine ⟨T,_,rfl,cx.of hp2,rfl,_,_,rfl,_,_,rfl,rfl,_,rfl,_,rfl,_,_,rfl,rfl,.inl ⟨by decide,by decide⟩,c,_,_,_,rfl,rfl,hcS,dU (j := 3 * i) (by omega) (cy c1),?_⟩; refine ⟨_,rfl,_,rfl,_,rfl,_,_,rfl,rfl,.inl ⟨by decide,by decide⟩,_,_,rfl,rfl,c,_,_,_,rfl,rfl,hcS,dU (j := 3 * i + 1) (by omega) (cy c2),_,rfl,_,rfl,_,_,rfl,rfl,.inl ⟨by decide,by decide⟩,_,_,rfl,rfl,c,_,_,_,rfl,rfl,hcS,dU (j := 3 * i + 2) (by omega) (cy c3),_,_,rfl,rfl,_,_,rfl,rfl,.inr ⟨by omega,by omega⟩,_,_,rfl,rfl,?_⟩; have hw := Ma.yV (n := n) c4
  have bad : ¬ (0 <= q.from_ /\ q.from_ < n /\ 0 <= q.from_ + q.step * ((q.count : Int) - 1) /\ q.from_ + q.step * ((q.count : Int) - 1) < n) -> Q (.bl false) H2 := fun hb => by
   have e : Ad.cutOk s l = false := by
    cases e : Ad.cutOk s l with
    | false => rfl
    | true => exact absurd (hw.mp ((Ma.qa hl).mp e i q n hq hn)) hb
   rw [e] at k; exact k _ s2
  refine ⟨_,rfl,_,rfl,_,_,rfl,_,_,rfl,rfl,_,rfl,a_ (fun h => ?_) (fun h => ?_)⟩
  ·have h1 := of_decide_eq_true h; refine bad fun z => ?_
   split at h1 <;> omega
  ·refine ⟨_,rfl,_,rfl,_,_,rfl,_,rfl,_,_,rfl,rfl,_,rfl,a_ (fun h2 => ?_) (fun h2 => ?_)⟩
   ·have h1 := of_decide_eq_true h2; refine bad fun z => ?_
    split at h1 <;> omega
   ·have h3 : ¬ _ := fun z => h (decide_eq_true z)
    have h4 : ¬ _ := fun z => h2 (decide_eq_true z)
    refine ⟨_,_,_,_,rfl,fun j q' n' hj e1 e2 => ?_,s2⟩
    by_cases hji : j = i
    ·subst hji; rw [hq] at e1; rw [hn] at e2; cases e1; cases e2; refine hw.mpr ?_
     split at h3 <;> split at h4 <;> omega
    ·exact hcc j q' n' (by omega) e1 e2
 ·rintro σ H' ⟨u,v,x,y,rfl,hcc,sm⟩; have e : Ad.cutOk s l = true := (Ma.qa hl).mpr fun i q n e1 e2 => hcc i q n (by rw [aI]; exact (List.getElem?_eq_some_iff.mp e2).1) e1 e2
  rw [e] at k; exact k _ sm
def i0 (K : Fg) : Sp := fun vs H Q _ => ∃ (c b : Addr) (s : List Nat) (cs : List Int) (l : List Ad.Cut) (p : List Nat),vs = [.ref c,.ref b] /\ ag K H c (vi cs) /\ ag K H b (vn p) /\ Ma.lg cs l /\ l.length = s.length /\ s.length <= 4 /\ Ad.cutOk s l = true /\ Ma.In (Ad.cutShape l) p /\ ∀ H' q,ak H H' -> H q = none -> H' q = some (.lst (vn (Ad.cutPlace l p))) -> Q (.ref q) H'
theorem sc_place_before_cut : aq ["cuts","place","axis","number"] ["cuts","place"] (aj c6) := fs
theorem pO (D : Df K mg "place_before_cut" "place_before_cut" c6 ["cuts","place"]) (T : Txt K mg C) : Ok P w K mg base 1 "place_before_cut" ["cuts","place"] (i0 K) := by
 refine D.ok sc_place_before_cut (fun _ _ _ _ h => by obtain ⟨_,_,_,_,_,_,rfl,_⟩ := h; rfl) (fun f cdv A outer s H vs Q E hr h => ?_); obtain ⟨c,b,s,cs,l,p,rfl,hc,hb,hcu,hl,h4,hok,hin,k⟩ := h; refine ⟨_,(ae (ah (dt rfl sc_place_before_cut.nd (u7 rfl T.b_enumerate (ab (pv 1) ac)) (a8 (N := ["cuts","place","axis","number"]) (sc := aj c6) (own := [("axis",2),("number",3)]) (by decide +kernel)) (fun _ _ _ _ _ => (lf K rfl (n := 2) rfl (bd (a0 2 sc_place_before_cut.nd) (bd (a0 3 sc_place_before_cut.nd) cQ)))) (fun _ _ _ _ _ => br) (fun _ _ _ _ _ => (aV cM (oX K (pv 0) (aV dj ai (pv 2))) (aV dj (oX K (pv 0) (aV cM (aV dj ai (pv 2)) ai)) (pv 3))))))),?_⟩; have hpl : p.length = l.length := by rw [hin.len]; unfold Ad.cutShape; rw [List.length_map]
 refine ⟨_,rfl,b,_,rfl,hb,fun D hD => ?_⟩; refine cz (xA hb) (fun i => V.int (((Ad.cutPlace l p).getD i 0 : Nat) : Int)) hD (by rw [aI]; show _ <= 2 ^ 24; omega) ?_ j0 ?_
 ·rintro i H2 v H3 hi sm ⟨T,x,rfl,hT,rfl,hx0⟩ Q' kq; obtain ⟨x,hx,rfl⟩ := cJ hx0; have hil : i < l.length := by rw [← hpl]; exact (List.getElem?_eq_some_iff.mp hx).1
  have hq : l[i]? = some (l[i]'hil) := List.getElem?_eq_getElem _; generalize l[i]'hil = q at hq; obtain ⟨c1,c2,c3,c4,c5⟩ := hcu.2 i q hq; have hsi : s[i]? = some (s[i]'(by omega)) := List.getElem?_eq_getElem _; have hat := Ma.aas hl hok hin hq hx hsi; have hcp := Ma.p5 hq hx
  have hxc : x < q.count := by
   have e : (Ad.cutShape l)[i]? = some q.count := by unfold Ad.cutShape; rw [List.getElem?_map,hq]; rfl
   obtain ⟨m,e1,e2⟩ := hin.get e; rw [hx] at e1; cases e1; exact e2
  have kq2 := kq (upd H2 T (.tup [.int (i : Nat),.int x])) (ak.new hT); have hcS : ag K (upd H2 T (.tup [.int (i : Nat),.int x])) c (vi cs) := (sm.trans (ak.new hT)).seq hc; refine ⟨T,_,rfl,cx.of am,rfl,_,_,rfl,_,_,rfl,rfl,rfl,_,rfl,_,rfl,_,_,rfl,rfl,.inl ⟨by decide,by decide⟩,c,_,_,_,rfl,rfl,hcS,dU (j := 3 * i) (by omega) (cy c1),_,rfl,_,rfl,_,_,rfl,rfl,.inl ⟨by decide,by decide⟩,_,_,rfl,rfl,c,_,_,_,rfl,rfl,hcS,dU (j := 3 * i + 1) (by omega) (cy c2),_,rfl,_,_,rfl,rfl,.inr ⟨by omega,by omega⟩,_,_,rfl,rfl,?_⟩; rw [List.getD_eq_getElem?_getD,hcp] at kq2
  have e3 : (((q.at_ x).toNat : Nat) : Int) = q.from_ + q.step * (x : Int) := by
   have : q.at_ x = q.from_ + q.step * (x : Int) := rfl; omega
  show Q' (.int (q.from_ + q.step * (x : Int))) _; rw [← e3]; exact kq2
 ·intro H' sm h1; refine k H' D sm hD ?_; rw [h1]; congr 2; rw [aI]; show _ = List.map V.int (List.map _ _); rw [List.map_map]; apply List.ext_getElem?; intro i
  by_cases hi : i < p.length
  ·have e2 : (Ad.cutPlace l p)[i]? = some ((Ad.cutPlace l p)[i]'(by rw [Ma.lw hpl]; omega)) := List.getElem?_eq_getElem _; rw [List.getElem?_map,List.getElem?_range hi,List.getElem?_map,e2]; simp only [Option.map_some,List.getD_eq_getElem?_getD,e2,Option.getD_some,Function.comp]
  ·rw [List.getElem?_eq_none (by simp; omega),List.getElem?_eq_none (by rw [List.length_map,Ma.lw hpl]; omega)]
def dQ (s : List Nat) (l : List Ad.Cut) : List Nat := (List.range (Ad.product_ (Ad.cutShape l))).map fun c => Ad.cellOf s (Ad.cutPlace l (Ad.placeOf (Ad.cutShape l) c))
def fR (K : Fg) : Sp := fun vs H Q _ => ∃ (a c : Addr) (s : List Nat) (cs : List Int) (l : List Ad.Cut),vs = [.ref a,.ref c] /\ ag K H a (vn s) /\ ag K H c (vi cs) /\ Ma.lg cs l /\ l.length = s.length /\ Ad.shapeOk s = true /\ Ad.shapeOk (Ad.cutShape l) = true /\ Ad.cutOk s l = true /\ ∀ H' q,ak H H' -> H q = none -> H' q = some (.lst (vn (dQ s l))) -> Q (.ref q) H'
theorem sc_section_numbers : aq ["lengths","cuts","places","place"] ["lengths","cuts"] (aj di) := fs
theorem qm (D : Df K mg "section_numbers" "section_numbers" di ["lengths","cuts"]) (T : Txt K mg C) (bH : Ok P w K mg base 2 "places_of" ["lengths"] (eG K)) (bj : Ok P w K mg base 1 "section_lengths" ["cuts"] (c_ K)) (bY : Ok P w K mg base 1 "number_of" ["lengths","place"] (f8 K)) (fZ : Ok P w K mg base 1 "place_before_cut" ["cuts","place"] (i0 K)) : Ok P w K mg base 3 "section_numbers" ["lengths","cuts"] (fR K) := by
 refine D.ok sc_section_numbers (fun _ _ _ _ h => by obtain ⟨_,_,_,_,_,rfl,_⟩ := h; rfl) (fun f cdv A outer s H vs Q E hr h => ?_); obtain ⟨a,c,s,cs,l,rfl,ha,hc,hcu,hl,hs,hs2,hok,k⟩ := h
 refine ⟨_,(ad (aH 2 sc_section_numbers.nd (ap bH hr (ab (ap bj hr (ab (pv 1) ac)) ac)))
  (ae (ah (dt rfl sc_section_numbers.nd (bD (pv 2)) (a8 (N := ["lengths","cuts","places","place"]) (sc := aj di) (own := [("place",3)]) (by decide +kernel)) (fun _ _ _ _ _ => (a0 3 sc_section_numbers.nd)) (fun _ _ _ _ _ => br) (fun _ _ _ _ _ => (ap bY hr (ab (pv 0) (ab (ap fZ hr (ab (pv 1) (ab (pv 3) ac))) ac)))))))),?_⟩
 obtain ⟨g1,g2,g3⟩ := Ma.aF hs2; have g4 := (Ma.aF hs).1; refine ⟨_,rfl,c,cs,l.length,rfl,hc,hcu.1,by omega,fun H1 r s1 hr1 hr2 => ?_⟩; have e1 : qF cs l.length = Ma.nz (Ad.cutShape l) := Ma.nV hcu; rw [e1] at hr2; refine ⟨r,Ad.cutShape l,rfl,ag.of hr2,hs2,fun H2 q s2 hq hP => ?_⟩; obtain ⟨qs,p1,p2,p3⟩ := id hP; refine ⟨_,rfl,q,rfl,⟨_,ag.of p1⟩,fun D hD => ?_⟩; have s12 := s1.trans s2; refine cz (bW (ag.of p1)) (fun c => V.int ((Ad.cellOf s (Ad.cutPlace l (Ad.placeOf (Ad.cutShape l) c)) : Nat) : Int)) hD (by rw [List.length_map,p2]; show _ <= 2 ^ 24; omega) ?_ bf ?_
 ·rintro i H3 v H4 hi sm ⟨rfl,hx⟩ Q' kq; rw [List.getElem?_map] at hx
  cases e : qs[i]? with
  | none => rw [e] at hx; cases hx
  | some r =>
   rw [e] at hx; have e2 : V.ref r = v := Option.some.inj hx; subst e2; have hci : i < Ad.product_ (Ad.cutShape l) := by rw [← p2]; exact (List.getElem?_eq_some_iff.mp e).1
   have hin := Ma.cC hci; have hcin := Ma.ju hl hok hin; have s13 := s12.trans sm; refine ⟨rfl,_,rfl,_,rfl,_,rfl,c,r,s,cs,l,_,rfl,s13.seq hc,ag.of (sm _ _ (p3 i r e)),hcu,hl,g4,hok,hin,fun H5 p s5 hp h5 => ?_⟩; exact ⟨a,p,s,_,rfl,(s13.trans s5).seq ha,ag.of h5,hcin.len,cb hs,fun H6 s6 => kq H6 (s5.trans s6)⟩
 ·intro H' sm h1; refine k H' D (s12.trans sm) (s12.free hD) ?_; rw [h1,List.length_map,p2]; congr 2; show _ = List.map V.int (List.map _ (List.map _ _)); rw [List.map_map,List.map_map]; rfl
end
end Go

namespace Go
open PySem PySem.Spec PyProof.Rows L2
section
variable {P : Program} {w : World} {K : Fg} {mg : Str -> Option Value} {base : Heap} {C al : Addr}
theorem ir {t : Ay.State} {i : Nat} {r : List Nat} : cg t (i :: r) = if ck t i = 0 then cg t r else ck t i := rfl
theorem aaI {t : Ay.State} {i : Nat} (h : ¬ cg t [i] = 0) : ∃ n : Nat,cg t [i] = -(n : Int) /\ ∀ f,Ay.ofSlot t i f = (t,Ay.no n) := by
 rw [ir] at h ⊢
 by_cases h0 : ck t i = 0
 ·rw [if_pos h0] at h; exact absurd rfl h
 ·rw [if_neg h0] at h ⊢; exact jQ h0
theorem yM {t : Ay.State} {i : Nat} (h : cg t [i] = 0) : i < 8 /\ ∃ A,t.getD i none = some A /\ ∀ f,Ay.ofSlot t i f = f A := by
 rw [ir] at h
 by_cases h0 : ck t i = 0
 ·exact eD h0
 ·rw [if_neg h0] at h; exact absurd h h0
theorem tD {t : Ay.State} {i j : Nat} (h : ¬ cg t [i,j] = 0) : ∃ n : Nat,cg t [i,j] = -(n : Int) /\ ∀ f : Ad.Arr -> Ad.Arr -> Ay.State × Ay.Answer,(Ay.ofSlot t i fun a => Ay.ofSlot t j fun b => f a b) = (t,Ay.no n) := by
 rw [ir] at h ⊢
 by_cases h0 : ck t i = 0
 ·rw [if_pos h0] at h ⊢; obtain ⟨_,A,_,e⟩ := eD h0; obtain ⟨n,h1,h2⟩ := aaI h; exact ⟨n,h1,fun f => by rw [e,h2]⟩
 ·rw [if_neg h0] at h ⊢; obtain ⟨n,h1,h2⟩ := jQ h0; exact ⟨n,h1,fun f => h2 _⟩
theorem rC {t : Ay.State} {i j : Nat} (h : cg t [i,j] = 0) : i < 8 /\ j < 8 /\ ∃ A B,t.getD i none = some A /\ t.getD j none = some B /\ ∀ f : Ad.Arr -> Ad.Arr -> Ay.State × Ay.Answer,(Ay.ofSlot t i fun a => Ay.ofSlot t j fun b => f a b) = f A B := by
 rw [ir] at h
 by_cases h0 : ck t i = 0
 ·rw [if_pos h0] at h; obtain ⟨hi,A,e1,e2⟩ := eD h0; obtain ⟨hj,B,e3,e4⟩ := yM h; exact ⟨hi,hj,A,B,e1,e3,fun f => by rw [e2,e4]⟩
 ·rw [if_neg h0] at h; exact absurd h h0
theorem ach {t : Ay.State} {i j l : Nat} (h : ¬ cg t [i,j,l] = 0) : ∃ n : Nat,cg t [i,j,l] = -(n : Int) /\ ∀ f : Ad.Arr -> Ad.Arr -> Ad.Arr -> Ay.State × Ay.Answer,(Ay.ofSlot t i fun a => Ay.ofSlot t j fun b => Ay.ofSlot t l fun c => f a b c) = (t,Ay.no n) := by
 rw [ir] at h ⊢
 by_cases h0 : ck t i = 0
 ·rw [if_pos h0] at h ⊢; obtain ⟨_,A,_,e⟩ := eD h0; obtain ⟨n,h1,h2⟩ := tD h; exact ⟨n,h1,fun f => by rw [e,h2]⟩
 ·rw [if_neg h0] at h ⊢; obtain ⟨n,h1,h2⟩ := jQ h0; exact ⟨n,h1,fun f => h2 _⟩
theorem abV {t : Ay.State} {i j l : Nat} (h : cg t [i,j,l] = 0) : i < 8 /\ j < 8 /\ l < 8 /\ ∃ A B D,t.getD i none = some A /\ t.getD j none = some B /\ t.getD l none = some D /\ ∀ f : Ad.Arr -> Ad.Arr -> Ad.Arr -> Ay.State × Ay.Answer,(Ay.ofSlot t i fun a => Ay.ofSlot t j fun b => Ay.ofSlot t l fun c => f a b c) = f A B D := by
 rw [ir] at h
 by_cases h0 : ck t i = 0
 ·rw [if_pos h0] at h; obtain ⟨hi,A,e1,e2⟩ := eD h0; obtain ⟨hj,hl,B,D,e3,e4,e5⟩ := rC h; exact ⟨hi,hj,hl,A,B,D,e1,e3,e4,fun f => by rw [e2,e5]⟩
 ·rw [if_neg h0] at h; exact absurd h h0
theorem t7 {t : Ay.State} {k i : Nat} (h : ¬ bJ t k [i] = 0) : ∃ n : Nat,bJ t k [i] = -(n : Int) /\ ∀ f,Ay.into t k (Ay.ofSlot t i f) = (t,Ay.no n) := by
 unfold bJ at h ⊢
 by_cases h0 : d6 k = 0
 ·rw [if_pos h0] at h ⊢; obtain ⟨n,h1,h2⟩ := aaI h; exact ⟨n,h1,fun f => by rw [eS (eE h0),h2]⟩
 ·rw [if_neg h0] at h ⊢; obtain ⟨h1,h2⟩ := lq h0; exact ⟨1,h2,fun f => ji h1⟩
theorem ot {t : Ay.State} {k i : Nat} (h : bJ t k [i] = 0) : k < 8 /\ i < 8 /\ ∃ A,t.getD i none = some A /\ ∀ f,Ay.into t k (Ay.ofSlot t i f) = f A := by
 unfold bJ at h
 by_cases h0 : d6 k = 0
 ·rw [if_pos h0] at h; obtain ⟨hi,A,e1,e2⟩ := yM h; exact ⟨eE h0,hi,A,e1,fun f => by rw [eS (eE h0),e2]⟩
 ·rw [if_neg h0] at h; exact absurd h h0
theorem tX {t : Ay.State} {k i j : Nat} (h : ¬ bJ t k [i,j] = 0) : ∃ n : Nat,bJ t k [i,j] = -(n : Int) /\ ∀ f : Ad.Arr -> Ad.Arr -> Ay.State × Ay.Answer,Ay.into t k (Ay.ofSlot t i fun a => Ay.ofSlot t j fun b => f a b) = (t,Ay.no n) := by
 unfold bJ at h ⊢
 by_cases h0 : d6 k = 0
 ·rw [if_pos h0] at h ⊢; obtain ⟨n,h1,h2⟩ := tD h; exact ⟨n,h1,fun f => by rw [eS (eE h0),h2]⟩
 ·rw [if_neg h0] at h ⊢; obtain ⟨h1,h2⟩ := lq h0; exact ⟨1,h2,fun f => ji h1⟩
theorem oo {t : Ay.State} {k i j : Nat} (h : bJ t k [i,j] = 0) : k < 8 /\ i < 8 /\ j < 8 /\ ∃ A B,t.getD i none = some A /\ t.getD j none = some B /\ ∀ f : Ad.Arr -> Ad.Arr -> Ay.State × Ay.Answer,Ay.into t k (Ay.ofSlot t i fun a => Ay.ofSlot t j fun b => f a b) = f A B := by
 unfold bJ at h
 by_cases h0 : d6 k = 0
 ·rw [if_pos h0] at h; obtain ⟨hi,hj,A,B,e1,e2,e3⟩ := rC h; exact ⟨eE h0,hi,hj,A,B,e1,e2,fun f => by rw [eS (eE h0),e3]⟩
 ·rw [if_neg h0] at h; exact absurd h h0
def on (C : Addr) : Sp := fun vs H Q _ => ∃ (l b : Addr) (t : Ay.State) (kk i : Nat) (s : List Nat),vs = [.ref l,.int kk,.int i,.ref b] /\ aB C H l t /\ H b = some (.lst (vn s)) /\ (∀ n ∈ s,n < 2 ^ 63) /\ aQ C H l (Ay.step t (.spread kk i s)) Q
theorem sc_call_spread : aq ["slots","k","i","lengths","refusal"] ["slots","k","i","lengths"] (aj gT) := fs
theorem uu (D : Df K mg "call_spread" "call_spread" gT ["slots","k","i","lengths"]) (T : Txt K mg C) (aR : Ok P w K mg base 3 "slots_refusal" ["slots","k","sources"] (bV K C)) (aW : Ok P w K mg base 2 "is_shape" ["lengths"] (ca K)) (qk : Ok P w K mg base 1 "spreads" ["small","great"] (ub K)) (cR : Ok P w K mg base 3 "spread_array" ["array","lengths"] (iI K C)) (aZ : Ok P w K mg base 1 "keep" ["slots","k","array"] (b6 C)) : Ok P w K mg base 4 "call_spread" ["slots","k","i","lengths"] (on C) := by
 refine D.ok sc_call_spread (fun _ _ _ _ h => by obtain ⟨_,_,_,_,_,_,rfl,_⟩ := h; rfl) (fun f cdv A outer s H vs Q E hr h => ?_); obtain ⟨l,b,t,kk,i,s,rfl,S0,hb0,hbd,k0⟩ := h
 refine ⟨_,(ad (aH 4 sc_call_spread.nd (ap aR hr (ab (pv 0) (ab (pv 1) (ab (az (ab (pv 2) ac)) ac)))))
  (ad (aw (aE bz (pv 4) ai) (ae (ah (az (ab (pv 4) ac)))) ao)
  (ad (aw (bw (bg (ap aW hr (ab (pv 3) ac)))) (ae (ah (az (ab (aP T.g_WRONG) ac)))) ao)
  (ad (aw (bw (bg (ap qk hr (ab (aD (au (pv 0) (pv 2)) rfl) (ab (pv 3) ac))))) (ae (ah (az (ab (aP T.g_UNLIKE) ac)))) ao)
  (ae (ah (ap aZ hr (ab (pv 0) (ab (pv 1) (ab (ap cR hr (ab (au (pv 0) (pv 2)) (ab (pv 3) ac))) ac)))))))))),?_⟩
 refine ⟨_,rfl,_,rfl,_,rfl,ba,fun q hq => ?_⟩; have s0 : ak H (upd H q (.lst [.int i])) := ak.new hq; have hq1 : (upd H q (.lst [.int i])) q = some (.lst (vn [i])) := am; generalize upd H q (.lst [.int i]) = H1 at *; have S := S0.keep s0; have hb := s0 _ _ hb0; have k := k0.same s0; refine ⟨l,q,t,kk,[i],rfl,S,ag.of hq1,_,rfl,rfl,_,rfl,?_⟩
 by_cases h0 : bJ t kk [i] = 0
 ·refine bq (congrArg V.int h0) ?_; obtain ⟨hk,hi,A',ea,ef⟩ := ot h0; rw [Ay.step,ef] at k; obtain ⟨vs,x,g1,g2,hA,ho⟩ := aB.arr S hi ea; obtain ⟨dx,a1,b1,h1,h2,h3⟩ := id hA; refine ⟨_,rfl,b,s,rfl,ag.of hb,hbd,_,rfl,?_⟩
  cases e1 : Ad.shapeOk s with
  | false =>
   rw [if_pos e1] at k; exact ⟨ba,aQ.no S (ak.refl H1) k rfl⟩
  | true =>
   rw [if_neg (by rw [e1]; simp)] at k; refine ⟨_,rfl,_,rfl,l,vs,_,_,rfl,rfl,ag.of g1,g2,x,C,dx,_,_,rfl,h1,T.cl,T.nL,aU a1 b1,_,rfl,a1,b,A'.shape,s,rfl,ag.of h2,ag.of hb,fun H2 s2 => ⟨_,rfl,?_⟩⟩
   cases e2 : Ad.spreads A'.shape s with
   | false =>
    rw [if_pos e2] at k; exact ⟨ba,aQ.no S s2 k rfl⟩
   | true =>
    rw [if_neg (by rw [e2]; simp)] at k; refine ⟨_,rfl,_,rfl,_,rfl,_,rfl,l,vs,_,_,rfl,rfl,ag.of (s2 _ _ g1),g2,_,rfl,x,b,A',s,rfl,hA.keep s2,ho,s2 _ _ hb,e1,e2,fun H3 y s3 hy hA3 => ?_⟩; exact ⟨l,y,t,kk,_,rfl,hk,S.keep (s2.trans s3),hA3,fc e1 fun p hp => fu ho (Ma.mN e2 hp),k.same (s2.trans s3)⟩
 ·obtain ⟨n,h2,ef⟩ := t7 h0; rw [Ay.step,ef] at k; refine bx (a5 h0) ?_; exact ⟨_,rfl,ba,aQ.no S (ak.refl H1) k h2⟩
def ss (K : Fg) (C : Addr) : Sp := fun vs H Q _ => ∃ (l c : Addr) (t : Ay.State) (kk i : Nat) (cs : List Int),vs = [.ref l,.int kk,.int i,.ref c] /\ aB C H l t /\ ag K H c (vi cs) /\ aQ C H l (Ay.step t (.cut kk i cs)) Q
theorem sc_call_cut : aq ["slots","k","i","cuts","refusal","array","cells","cell"] ["slots","k","i","cuts"] (aj iF) := fs
theorem xV (D : Df K mg "call_cut" "call_cut" iF ["slots","k","i","cuts"]) (T : Txt K mg C) (aR : Ok P w K mg base 3 "slots_refusal" ["slots","k","sources"] (bV K C)) (gt : Ok P w K mg base 2 "are_cuts" ["lengths","cuts"] (mO K)) (bj : Ok P w K mg base 1 "section_lengths" ["cuts"] (c_ K)) (aW : Ok P w K mg base 2 "is_shape" ["lengths"] (ca K)) (cG : Ok P w K mg base 1 "cuts_lie_within" ["lengths","cuts"] (ga K)) (cD : Ok P w K mg base 3 "section_numbers" ["lengths","cuts"] (fR K)) (aZ : Ok P w K mg base 1 "keep" ["slots","k","array"] (b6 C)) (aS : dO P w K mg base 1 "Array" C ["self","lengths","cells"] (bO C)) : Ok P w K mg base 4 "call_cut" ["slots","k","i","cuts"] (ss K C) := by
 refine D.ok sc_call_cut (fun _ _ _ _ h => by obtain ⟨_,_,_,_,_,_,rfl,_⟩ := h; rfl) (fun f cdv A outer s H vs Q E hr h => ?_); obtain ⟨l,c,t,kk,i,cs,rfl,S0,hc0,k0⟩ := h
 refine ⟨_,(ad (aH 4 sc_call_cut.nd (ap aR hr (ab (pv 0) (ab (pv 1) (ab (az (ab (pv 2) ac)) ac)))))
  (ad (aw (aE bz (pv 4) ai) (ae (ah (az (ab (pv 4) ac)))) ao)
  (ad (aH 5 sc_call_cut.nd (au (pv 0) (pv 2)))
  (ad (aw (bw (bg (ap gt hr (ab (aD (pv 5) rfl) (ab (pv 3) ac))))) (ae (ah (az (ab (aP T.g_WRONG) ac)))) ao)
  (ad (aw (bw (bg (ap aW hr (ab (ap bj hr (ab (pv 3) ac)) ac)))) (ae (ah (az (ab (aP T.g_BEYOND) ac)))) ao)
  (ad (aw (bw (bg (ap cG hr (ab (aD (pv 5) rfl) (ab (pv 3) ac))))) (ae (ah (az (ab (aP T.g_NOWHERE) ac)))) ao)
  (ad (cS rfl sc_call_cut.nd (i := 6) rfl rfl (dF rfl rfl rfl (by decide +kernel)) (bD (ap cD hr (ab (aD (pv 5) rfl) (ab (pv 3) ac)))) (a8 (N := ["slots","k","i","cuts","refusal","array","cells","cell"]) (sc := aj iF) (own := [("cell",7)]) (by decide +kernel)) (fun _ _ _ _ _ => (a0 7 sc_call_cut.nd)) (fun _ _ _ _ _ => br) (fun _ _ _ _ _ => (oX K (u6 K rfl (pv 5) rfl) (pv 7))))
  (ae (ah (ap aZ hr (ab (pv 0) (ab (pv 1) (ab (dZ aS hr (ab (ap bj hr (ab (pv 3) ac)) (ab (pv 6) ac))) ac))))))))))))),?_⟩
 refine ⟨_,rfl,_,rfl,_,rfl,ba,fun q hq => ?_⟩; have s0 : ak H (upd H q (.lst [.int i])) := ak.new hq; have hq1 : (upd H q (.lst [.int i])) q = some (.lst (vn [i])) := am; generalize upd H q (.lst [.int i]) = H1 at *; have S := S0.keep s0; have hc := s0.seq hc0; have k := k0.same s0; refine ⟨l,q,t,kk,[i],rfl,S,ag.of hq1,_,rfl,rfl,_,rfl,?_⟩
 by_cases h0 : bJ t kk [i] = 0
 ·refine bq (congrArg V.int h0) ?_; obtain ⟨hk,hi,A',ea,ef⟩ := ot h0; rw [Ay.step,ef] at k; obtain ⟨vs,x,g1,g2,hA,ho⟩ := aB.arr S hi ea; obtain ⟨dx,a1,b1,h1,h2,h3⟩ := id hA; obtain ⟨z1,z2,z3⟩ := Ma.aF (aG ho).1; refine ⟨_,rfl,_,rfl,l,vs,_,_,rfl,rfl,ag.of g1,g2,_,rfl,x,C,dx,_,_,rfl,h1,T.cl,T.nL,aU a1 b1,_,rfl,a1,c,A'.shape,cs,rfl,ag.of h2,hc,z1,fun H2 s2 => ⟨_,rfl,?_⟩⟩
  cases e1 : Ma.dI A'.shape cs with
  | false =>
   unfold Ma.dI at e1
   cases e : Ay.cutsOf cs with
   | none =>
    simp only [e] at k; exact ⟨ba,aQ.no S s2 k rfl⟩
   | some m =>
    rw [e] at e1; simp only [e] at k; rw [if_pos (by simpa using e1)] at k; exact ⟨ba,aQ.no S s2 k rfl⟩
  | true =>
   obtain ⟨m,em,hml,hcu⟩ := Ma.lK e1; simp only [em] at k; rw [if_neg (by simp [hml])] at k; refine ⟨_,rfl,c,cs,m.length,rfl,s2.seq hc,hcu.1,by omega,fun H3 r s3 hr3 hr4 => ?_⟩; have e3 : qF cs m.length = Ma.nz (Ad.cutShape m) := Ma.nV hcu; rw [e3] at hr4
   have hbd : ∀ n ∈ Ad.cutShape m,n < 2 ^ 63 := fun n hn => by
    obtain ⟨u,hu,e⟩ := List.mem_map.mp hn; obtain ⟨j,hj⟩ := List.mem_iff_getElem?.mp hu; have := (hcu.2 j u hj).2.2.2.2; omega
   have s23 := s2.trans s3; refine ⟨r,Ad.cutShape m,rfl,ag.of hr4,hbd,_,rfl,?_⟩
   cases e4 : Ad.shapeOk (Ad.cutShape m) with
   | false =>
    rw [if_pos e4] at k; exact ⟨ba,aQ.no S s23 k rfl⟩
   | true =>
    rw [if_neg (by rw [e4]; simp)] at k; refine ⟨_,rfl,x,C,dx,_,_,rfl,s23 _ _ h1,T.cl,T.nL,aU a1 b1,_,rfl,a1,c,A'.shape,cs,m,rfl,ag.of (s23 _ _ h2),s23.seq hc,hcu,hml,fun H4 s4 => ⟨_,rfl,?_⟩⟩; have s24 := s23.trans s4
    cases e5 : Ad.cutOk A'.shape m with
    | false =>
     rw [if_pos e5] at k; exact ⟨ba,aQ.no S s24 k rfl⟩
    | true =>
     rw [if_neg (by rw [e5]; simp)] at k; refine ⟨_,rfl,x,C,dx,_,_,rfl,s24 _ _ h1,T.cl,T.nL,aU a1 b1,_,rfl,a1,c,A'.shape,cs,m,rfl,ag.of (s24 _ _ h2),s24.seq hc,hcu,hml,(aG ho).1,e4,e5,fun H5 y s5 hy hy5 => ?_⟩; have s25 := s24.trans s5; obtain ⟨w1,w2,w3⟩ := Ma.aF e4; refine ⟨y,rfl,⟨_,ag.of hy5⟩,fun D hD => ?_⟩; refine cz (bW (ag.of hy5)) (fun n => V.int (A'.at_ (Ad.cutPlace m (Ad.placeOf (Ad.cutShape m) n)))) hD (by rw [aI]; unfold dQ; rw [List.length_map,List.length_range]; show _ <= 2 ^ 24; omega) ?_ bf ?_
     ·rintro n H6 v H7 hn sm ⟨rfl,hx0⟩ Q' kq; obtain ⟨z,hz,rfl⟩ := cJ hx0
      have hn2 : n < Ad.product_ (Ad.cutShape m) := by
       have := (List.getElem?_eq_some_iff.mp hz).1
       simpa [dQ] using this
      have hz2 : z = Ad.cellOf A'.shape (Ad.cutPlace m (Ad.placeOf (Ad.cutShape m) n)) := by
       unfold dQ at hz; rw [List.getElem?_map,List.getElem?_range hn2] at hz; exact (Option.some.inj hz).symm
      have hin := Ma.ju hml e5 (Ma.cC hn2); have s26 := s25.trans sm; refine ⟨rfl,_,rfl,x,C,dx,_,_,rfl,s26 _ _ h1,T.cl,T.nC,cr a1 b1,_,rfl,b1,_,_,_,rfl,rfl,ag.of (s26 _ _ h3),bC (cy (by rw [hz2]; exact wp ho hin)),kq _ (ak.refl _)⟩
     ·intro H6 sm h6; have e6 : (vn (dQ A'.shape m)).length = Ad.product_ (Ad.cutShape m) := by rw [aI]; unfold dQ; rw [List.length_map,List.length_range]
      rw [e6] at h6; have h6 := h6.trans (congrArg (fun z => some (HO.lst z)) (pq (Ad.cutShape m) fun p => A'.at_ (Ad.cutPlace m p))); have s26 := s25.trans sm; refine ⟨_,rfl,_,rfl,_,rfl,c,cs,m.length,rfl,s26.seq hc,hcu.1,by omega,fun H7 r7 s7 hr7 hr8 => ?_⟩; rw [e3] at hr8; refine ⟨_,rfl,i6 (A := Ad.cutOut A' m) hk (S.keep (s26.trans s7)) hr8 (s7 _ _ h6) (fc e4 fun p hp => fu ho (Ma.ju hml e5 hp)) (k.same (s26.trans s7))⟩
 ·obtain ⟨n,h2,ef⟩ := t7 h0; rw [Ay.step,ef] at k; refine bx (a5 h0) ?_; exact ⟨_,rfl,ba,aQ.no S (ak.refl H1) k h2⟩
end
end Go

namespace Go
open PySem PySem.Spec PyProof.Rows L2
section
variable {P : Program} {w : World} {K : Fg} {mg : Str -> Option Value} {base : Heap} {C al : Addr}
def oZ (A : Ad.Arr) (l : List Ad.Cut) (B : Ad.Arr) (n : Nat) : List Int := (List.range n).foldl (fun (m : List Int) (c : Nat) => m.set (Ad.cellOf A.shape (Ad.cutPlace l (Ad.placeOf B.shape c))) (B.cell c)) A.cells
theorem qv (A : Ad.Arr) (l : List Ad.Cut) (B : Ad.Arr) (n : Nat) : oZ A l B (n + 1) = (oZ A l B n).set (Ad.cellOf A.shape (Ad.cutPlace l (Ad.placeOf B.shape n))) (B.cell n) := by
 unfold oZ; rw [List.range_succ,List.foldl_append]; rfl
theorem sM (A : Ad.Arr) (l : List Ad.Cut) (B : Ad.Arr) : ∀ n,(oZ A l B n).length = A.cells.length
 | 0 => rfl
 | n + 1 => by rw [qv,List.length_set,sM A l B n]
theorem vz {A : Ad.Arr} {l : List Ad.Cut} {B : Ad.Arr} (ha : A.ok = true) (hb : B.ok = true) : ∀ n,n <= B.cells.length -> ∀ z ∈ oZ A l B n,Ad.cellFine z = true
 | 0,_,z,hz => (aG ha).2.2 z hz
 | n + 1,hn,z,hz => by
  rw [qv] at hz
  rcases List.mem_or_eq_of_mem_set hz with h | h
  ·exact vz ha hb n (by omega) z h
  ·rw [h]; unfold Ad.Arr.cell; rw [List.getD_eq_getElem?_getD,List.getElem?_eq_getElem (by omega)]; exact (aG hb).2.2 _ (List.getElem_mem _)
def r9 (K : Fg) (C : Addr) : Sp := fun vs H Q _ => ∃ (l c : Addr) (t : Ay.State) (i j : Nat) (cs : List Int),vs = [.ref l,.int i,.int j,.ref c] /\ aB C H l t /\ ag K H c (vi cs) /\ aQ C H l (Ay.step t (.put i j cs)) Q
theorem sc_call_put : aq ["slots","i","j","cuts","refusal","array","part","changed","cell","value"] ["slots","i","j","cuts"] (aj k8) := fs
theorem xF (D : Df K mg "call_put" "call_put" k8 ["slots","i","j","cuts"]) (T : Txt K mg C) (bt : Ok P w K mg base 2 "sources_refusal" ["slots","sources"] (cY K C)) (gt : Ok P w K mg base 2 "are_cuts" ["lengths","cuts"] (mO K)) (bj : Ok P w K mg base 1 "section_lengths" ["cuts"] (c_ K)) (cG : Ok P w K mg base 1 "cuts_lie_within" ["lengths","cuts"] (ga K)) (cD : Ok P w K mg base 3 "section_numbers" ["lengths","cuts"] (fR K)) (aZ : Ok P w K mg base 1 "keep" ["slots","k","array"] (b6 C)) (aS : dO P w K mg base 1 "Array" C ["self","lengths","cells"] (bO C)) : Ok P w K mg base 4 "call_put" ["slots","i","j","cuts"] (r9 K C) := by
 refine D.ok sc_call_put (fun _ _ _ _ h => by obtain ⟨_,_,_,_,_,_,rfl,_⟩ := h; rfl) (fun f cdv A outer s H vs Q E hr h => ?_); obtain ⟨l,c,t,i,j,cs,rfl,S0,hc0,k0⟩ := h
 refine ⟨_,(ad (aH 4 sc_call_put.nd (ap bt hr (ab (pv 0) (ab (az (ab (pv 1) (ab (pv 2) ac))) ac))))
  (ad (aw (aE bz (pv 4) ai) (ae (ah (az (ab (pv 4) ac)))) ao)
  (ad (aH 5 sc_call_put.nd (au (pv 0) (pv 1)))
  (ad (aH 6 sc_call_put.nd (au (pv 0) (pv 2)))
  (ad (aw (bw (bg (ap gt hr (ab (aD (pv 5) rfl) (ab (pv 3) ac))))) (ae (ah (az (ab (aP T.g_WRONG) ac)))) ao)
  (ad (aw (bw (bg (ap cG hr (ab (aD (pv 5) rfl) (ab (pv 3) ac))))) (ae (ah (az (ab (aP T.g_NOWHERE) ac)))) ao)
  (ad (aw (aE (t9 hr.units) (aD (pv 6) rfl) (ap bj hr (ab (pv 3) ac))) (ae (ah (az (ab (aP T.g_UNLIKE) ac)))) ao)
  (ad (aH 7 sc_call_put.nd (f9 lr (by rfl) T.b_list rg (ab (aD (pv 5) rfl) ac)))
  (ad (bQ PassesOwn.never rfl (fk rfl T.b_zip (ab (ap cD hr (ab (aD (pv 5) rfl) (ab (pv 3) ac))) (ab (aD (pv 6) rfl) ac))) (gF rfl (bd (a0 8 sc_call_put.nd) (bd (a0 9 sc_call_put.nd) cQ))) (ae (nY (pv 9) (ow (pv 7) (pv 8) jb))))
  (ae (ah (ap aZ hr (ab (pv 0) (ab (pv 1) (ab (dZ aS hr (ab (aD (pv 5) rfl) (ab (pv 7) ac))) ac))))))))))))))),?_⟩
 refine ⟨_,rfl,_,rfl,_,rfl,lj,fun q hq => ?_⟩; have s0 : ak H (upd H q (.lst [.int i,.int j])) := ak.new hq; have hq1 : (upd H q (.lst [.int i,.int j])) q = some (.lst (vn [i,j])) := am; generalize upd H q (.lst [.int i,.int j]) = H1 at *; have S := S0.keep s0; have hc := s0.seq hc0; have k := k0.same s0; refine ⟨l,q,t,[i,j],rfl,S,ag.of hq1,_,rfl,rfl,_,rfl,?_⟩
 by_cases h0 : cg t [i,j] = 0
 ·refine bq (congrArg V.int h0) ?_; obtain ⟨hi,hj,A',B',ea,eb,ef⟩ := rC h0; rw [Ay.step,ef] at k; obtain ⟨vs,x,g1,g2,hA,ho⟩ := aB.arr S hi ea; obtain ⟨dx,a1,b1,h1,h2,h3⟩ := id hA; obtain ⟨vs',y,g1',g2',hB,ho'⟩ := aB.arr S hj eb; obtain ⟨dy,a2,b2,h1',h2',h3'⟩ := id hB; obtain ⟨z1,z2,z3⟩ := Ma.aF (aG ho).1; refine ⟨_,rfl,_,rfl,l,vs,_,_,rfl,rfl,ag.of g1,g2,_,rfl,_,rfl,l,vs',_,_,rfl,rfl,ag.of g1',g2',_,rfl,x,C,dx,_,_,rfl,h1,T.cl,T.nL,aU a1 b1,_,rfl,a1,c,A'.shape,cs,rfl,ag.of h2,hc,z1,fun H2 s2 => ⟨_,rfl,?_⟩⟩
  cases e1 : Ma.dI A'.shape cs with
  | false =>
   unfold Ma.dI at e1
   cases e : Ay.cutsOf cs with
   | none =>
    simp only [e] at k; exact ⟨ba,aQ.no S s2 k rfl⟩
   | some m =>
    rw [e] at e1; simp only [e] at k; rw [if_pos (by simpa using e1)] at k; exact ⟨ba,aQ.no S s2 k rfl⟩
  | true =>
   obtain ⟨m,em,hml,hcu⟩ := Ma.lK e1; simp only [em] at k; rw [if_neg (by simp [hml])] at k; refine ⟨_,rfl,x,C,dx,_,_,rfl,s2 _ _ h1,T.cl,T.nL,aU a1 b1,_,rfl,a1,c,A'.shape,cs,m,rfl,ag.of (s2 _ _ h2),s2.seq hc,hcu,hml,fun H4 s4 => ⟨_,rfl,?_⟩⟩; have s24 := s2.trans s4
   cases e5 : Ad.cutOk A'.shape m with
   | false =>
    rw [if_pos e5] at k; exact ⟨ba,aQ.no S s24 k rfl⟩
   | true =>
    rw [if_neg (by rw [e5]; simp)] at k; refine ⟨_,rfl,y,C,dy,_,_,rfl,s24 _ _ h1',T.cl,T.nL,aU a2 b2,_,rfl,c,cs,m.length,rfl,s24.seq hc,hcu.1,by omega,fun H5 r s5 hr5 hr6 => ?_⟩; have e3 : qF cs m.length = Ma.nz (Ad.cutShape m) := Ma.nV hcu; rw [e3] at hr6; have s25 := s24.trans s5; refine ⟨a2,r,Ma.nz B'.shape,Ma.nz (Ad.cutShape m),rfl,rfl,ag.of (s25 _ _ h2'),ag.of hr6,_,rfl,?_⟩
    by_cases e6 : B'.shape = Ad.cutShape m
    ·refine bq (by rw [e6]) ?_; rw [if_neg (by simp [e6])] at k; have e4 : Ad.shapeOk (Ad.cutShape m) = true := by rw [← e6]; exact (aG ho').1
     refine ⟨_,rfl,x,C,dx,_,_,rfl,s25 _ _ h1,T.cl,T.nC,cr a1 b1,b1,_,rfl,.inl (ag.of (s25 _ _ h3)),fun d hd => ?_⟩; have hd0 : H1 d = none := s25.free hd; have s26 : ak H1 (upd H5 d (.lst (vi A'.cells))) := s25.upd hd0; have hdl : (upd H5 d (.lst (vi A'.cells))) d = some (.lst (vi A'.cells)) := am; generalize upd H5 d (.lst (vi A'.cells)) = H6 at *; refine ⟨_,rfl,x,C,dx,_,_,rfl,s26 _ _ h1,T.cl,T.nL,aU a1 b1,_,rfl,a1,c,A'.shape,cs,m,rfl,ag.of (s26 _ _ h2),s26.seq hc,hcu,hml,(aG ho).1,e4,e5,fun H7 u s7 hu hu7 => ?_⟩; have s27 := s26.trans s7; have hbl := (aG ho').2.1
     have hnl : (vn (dQ A'.shape m)).length = (vi B'.cells).length := by
      rw [aI,aN,hbl,e6]; unfold dQ; rw [List.length_map,List.length_range]
     have hud : u ≠ d := aJ hdl hu |>.symm
     refine ⟨_,rfl,y,C,dy,_,_,rfl,s27 _ _ h1',T.cl,T.nC,cr a2 b2,u,b2,_,_,rfl,ag.of hu7,ag.of (s27 _ _ h3'),im (K := K) (a := u) (b := b2) (xs := vn (dQ A'.shape m)) (ys := vi B'.cells)
      (fun n σ H' => ∃ (v1 v2 : Option V),σ = [some (.ref l),some (.int i),some (.int j),some (.ref c),some (.int (cg t [i,j])),some (.ref x),some (.ref y),some (.ref d),v1,v2] /\ H' d = some (.lst (vi (oZ A' m B' n))) /\ H' u = some (.lst (vn (dQ A'.shape m))) /\ ak H1 H')
      ⟨none,none,rfl,s7 _ _ hdl,hu7,s27⟩ hnl (fun n σ H' _ ⟨_,_,_,_,e,e'⟩ => ⟨ag.of e,ag.of (e' _ _ h3')⟩) ?_ ?_⟩
     ·rintro n z1 z2 σ H' TT hy1 hy2 hT ⟨v1,v2,rfl,hd',hu',sm⟩; obtain ⟨z1,hz1,rfl⟩ := cJ hy1; obtain ⟨z2,hz2,rfl⟩ := dN hy2
      have hn2 : n < Ad.product_ (Ad.cutShape m) := by
       rw [← e6,← hbl]; exact (List.getElem?_eq_some_iff.mp hz2).1
      have e7 : z1 = Ad.cellOf A'.shape (Ad.cutPlace m (Ad.placeOf B'.shape n)) := by
       unfold dQ at hz1; rw [List.getElem?_map,List.getElem?_range hn2] at hz1; rw [e6]; exact (Option.some.inj hz1).symm
      have hin := Ma.ju hml e5 (Ma.cC hn2)
      have hlt : z1 < (oZ A' m B' n).length := by
       rw [sM,(aG ho).2.1,e7,e6]; exact hin.lt
      have hix : fU (vi (oZ A' m B' n)).length (z1 : Int) = some z1 := by
       unfold fU; rw [aN,if_pos (by omega),if_pos (by omega)]; rfl
      have hTd : TT ≠ d := fun e => by rw [e,hd'] at hT; cases hT
      have hTu : TT ≠ u := fun e => by rw [e,hu'] at hT; cases hT
      have hd2 : (upd H' TT (.tup [.int z1,.int z2])) d = some (.lst (vi (oZ A' m B' n))) := by rw [aK (Ne.symm hTd)]; exact hd'
      have hu2 : (upd H' TT (.tup [.int z1,.int z2])) u = some (.lst (vn (dQ A'.shape m))) := by rw [aK (Ne.symm hTu)]; exact hu'
      refine ⟨TT,_,rfl,cx.of am,rfl,_,_,rfl,_,_,rfl,rfl,_,rfl,_,rfl,_,rfl,d,_,_,z1,rfl,rfl,hd2,hix,_,_,rfl,?_,?_,?_⟩
      ·rw [am,qv]
       have e8 : B'.cell n = z2 := by
        unfold Ad.Arr.cell; rw [List.getD_eq_getElem?_getD,hz2]; rfl
       rw [e8,← e7]; show _ = some (HO.lst (List.map V.int _)); rw [List.map_set]
      ·rw [aK hud]; exact hu2
      ·exact (sm.upd (sm.free hT)).upd hd0
     ·rintro σ H' ⟨v1,v2,rfl,hd',hu',sm⟩; rw [hnl,aN,hbl] at hd'; refine ⟨_,rfl,_,rfl,_,rfl,x,C,dx,_,_,rfl,sm _ _ h1,T.cl,T.nL,aU a1 b1,_,rfl,i6 (A := Ad.putIn A' m B') hi (S.keep sm) (sm _ _ h2) hd' (iC (aG ho).1 ?_ ?_) (k.same sm)⟩
      ·exact (sM A' m B' _).trans (aG ho).2.1
      ·exact vz ho ho' _ (by omega)
    ·refine bx (fun z => e6 ?_) ?_
     ·exact Ma.ou z
     ·rw [if_pos e6] at k; exact ⟨ba,aQ.no S s25 k rfl⟩
 ·obtain ⟨n,h2,ef⟩ := tD h0; rw [Ay.step,ef] at k; refine bx (a5 h0) ?_; exact ⟨_,rfl,ba,aQ.no S (ak.refl H1) k h2⟩
end
end Go

namespace Go
open PySem PySem.Spec PyProof.Rows L2
section
variable {P : Program} {w : World} {K : Fg} {mg : Str -> Option Value} {base : Heap} {C al : Addr}
theorem yI {n i : Nat} (h : i < n) : fU n (i : Int) = some i := by
 unfold fU; rw [if_pos (by omega),if_pos (by omega)]; rfl
theorem tU (l : List Nat) (i x : Nat) : (vn l).set i (.int x) = vn (l.set i x) := by
 show (List.map _ (List.map _ l)).set i _ = List.map _ (List.map _ _); rw [List.map_set,List.map_set]
theorem le {l : List Nat} {i : Nat} (h : i < l.length) : l[i]? = some (l.getD i 0) := by
 rw [List.getD_eq_getElem?_getD,List.getElem?_eq_getElem h]; rfl
def iK (K : Fg) : Sp := fun vs H Q _ => ∃ (a b : Addr) (r : Nat) (l p : List Nat),vs = [.ref a,.ref b] /\ ag K H a (vn l) /\ ag K H b (vn p) /\ Ad.axesOk r l = true /\ p.length = l.length /\ r <= 1000 /\ ∀ H' q,ak H H' -> H q = none -> H' q = some (.lst (vn (Ma.jU r l p))) -> Q (.ref q) H'
theorem sc_place_before_turn : aq ["axes","place","before","axis","number"] ["axes","place"] (aj cK) := fs
theorem o_ (D : Df K mg "place_before_turn" "place_before_turn" cK ["axes","place"]) (T : Txt K mg C) : Ok P w K mg base 1 "place_before_turn" ["axes","place"] (iK K) := by
 refine D.ok sc_place_before_turn (fun _ _ _ _ h => by obtain ⟨_,_,_,_,_,rfl,_⟩ := h; rfl) (fun f cdv A outer s H vs Q E hr h => ?_); obtain ⟨a,b,r,l,p,rfl,ha,hb,hax,hpl,hr,k⟩ := h; have hlr : l.length = r := by rw [(Ma.axes_iff.mp hax).length_eq,List.length_range]
 refine ⟨_,(ad (cS rfl sc_place_before_turn.nd (i := 2) rfl rfl (dF rfl rfl rfl (by decide +kernel)) (bD (pv 0)) (a8 (N := ["axes","place","before","axis","number"]) (sc := aj cK) (own := [("axis",3)]) (by decide +kernel)) (fun _ _ _ _ _ => (a0 3 sc_place_before_turn.nd)) (fun _ _ _ _ _ => br) (fun _ _ _ _ _ => ai))
  (ad (bQ PassesOwn.never rfl (fk rfl T.b_zip (ab (pv 0) (ab (pv 1) ac))) (gF rfl (bd (a0 3 sc_place_before_turn.nd) (bd (a0 4 sc_place_before_turn.nd) cQ))) (ae (nY (pv 4) (ow (pv 2) (pv 3) jb))))
  (ae (ah (pv 2))))),?_⟩
 refine ⟨_,rfl,a,rfl,⟨_,ha⟩,fun D hD => ?_⟩; refine cz (bW ha) (fun _ => V.int 0) hD (by rw [aI]; show _ <= 2 ^ 24; omega) ?_ bf ?_
 ·rintro i H2 v H3 hi sm ⟨rfl,hx⟩ Q' kq; exact ⟨rfl,kq _ (ak.refl _)⟩
 ·intro H1 s1 h1
  have h1 : H1 D = some (.lst (vn (Ma.eC r l p 0))) := by
   rw [h1,Ma.ww,aI,hlr]; show _ = some (HO.lst (List.map V.int (List.map _ (List.map _ _)))); rw [List.map_map,List.map_map]; rfl
  refine ⟨_,rfl,_,rfl,a,b,_,_,rfl,s1.seq ha,s1.seq hb,im (K := K) (a := a) (b := b) (xs := vn l) (ys := vn p) (fun i σ H' => ∃ (v u : Option V),σ = [some (.ref a),some (.ref b),some (.ref D),v,u] /\ H' D = some (.lst (vn (Ma.eC r l p i))) /\ ak H H')
   ⟨_,_,rfl,h1,s1⟩ (by rw [aI,aI,hpl]) (fun i σ H' _ ⟨_,_,_,_,e⟩ => ⟨e.seq ha,e.seq hb⟩) ?_ ?_⟩
  ·rintro i x y σ H' T hx0 hy0 hT ⟨v,u,rfl,hd,sm⟩; obtain ⟨x,hx,rfl⟩ := cJ hx0; obtain ⟨y,hy,rfl⟩ := cJ hy0; obtain ⟨hxr,hst⟩ := Ma.xW hax hx hy; have hTD : T ≠ D := fun e => by rw [e,hd] at hT; cases hT
   have hd2 : (upd H' T (.tup [.int x,.int y])) D = some (.lst (vn (Ma.eC r l p i))) := by rw [aK (Ne.symm hTD)]; exact hd
   refine ⟨T,_,rfl,cx.of am,rfl,_,_,rfl,_,_,rfl,rfl,_,rfl,_,rfl,_,rfl,D,_,_,x,rfl,rfl,hd2,yI (by rw [aI]; simp [Ma.eC]; exact hxr),_,_,rfl,?_,(sm.upd (sm.free hT)).upd hD⟩; rw [am,tU,hst]
  ·rintro σ H' ⟨v,u,rfl,hd,sm⟩; rw [aI,Ma.zr hax rfl] at hd; exact ⟨_,rfl,k H' D sm hD hd⟩
def mq (K : Fg) (C : Addr) : Sp := fun vs H Q _ => ∃ (x b : Addr) (A : Ad.Arr) (l : List Nat),vs = [.ref x,.ref b] /\ b0 C H x A /\ A.ok = true /\ ag K H b (vn l) /\ Ad.axesOk A.shape.length l = true /\ ∀ H' y,ak H H' -> H y = none -> b0 C H' y (Ad.turn A l) -> Q (.ref y) H'
theorem sc_turned_array : aq ["array","axes","lengths","cells","axis","place"] ["array","axes"] (aj dG) := fs
theorem tx (D : Df K mg "turned_array" "turned_array" dG ["array","axes"]) (T : Txt K mg C) (bH : Ok P w K mg base 2 "places_of" ["lengths"] (eG K)) (cH : Ok P w K mg base 2 "cell_at" ["array","place"] (iw K C)) (fA : Ok P w K mg base 1 "place_before_turn" ["axes","place"] (iK K)) (aS : dO P w K mg base 1 "Array" C ["self","lengths","cells"] (bO C)) : Ok P w K mg base 3 "turned_array" ["array","axes"] (mq K C) := by
 refine D.ok sc_turned_array (fun _ _ _ _ h => by obtain ⟨_,_,_,_,rfl,_⟩ := h; rfl) (fun f cdv A outer s H vs Q E hr h => ?_); obtain ⟨x,b,A',l,rfl,hA,ho,hb,hax,k⟩ := h; obtain ⟨z1,z2,z3⟩ := Ma.aF (aG ho).1; have hpm := Ma.axes_iff.mp hax; have hll : l.length = A'.shape.length := by rw [hpm.length_eq,List.length_range]
 have hts := Ma.tN (aG ho).1 hax
 refine ⟨_,(ad (cS rfl sc_turned_array.nd (i := 2) rfl rfl (dF rfl rfl rfl (by decide +kernel)) (bD (pv 1)) (a8 (N := ["array","axes","lengths","cells","axis","place"]) (sc := aj dG) (own := [("axis",4)]) (by decide +kernel)) (fun _ _ _ _ _ => (a0 4 sc_turned_array.nd)) (fun _ _ _ _ _ => br) (fun _ _ _ _ _ => (oX K (u6 K rfl (pv 0) rfl) (pv 4))))
  (ad (cS rfl sc_turned_array.nd (i := 3) rfl rfl (dF rfl rfl rfl (by decide +kernel)) (bD (ap bH hr (ab (pv 2) ac))) (a8 (N := ["array","axes","lengths","cells","axis","place"]) (sc := aj dG) (own := [("place",5)]) (by decide +kernel)) (fun _ _ _ _ _ => (a0 5 sc_turned_array.nd)) (fun _ _ _ _ _ => br) (fun _ _ _ _ _ => (ap cH hr (ab (pv 0) (ab (ap fA hr (ab (pv 1) (ab (pv 5) ac))) ac)))))
  (ae (ah (dZ aS hr (ab (pv 2) (ab (pv 3) ac))))))),?_⟩
 refine ⟨_,rfl,b,rfl,⟨_,hb⟩,fun D hD => ?_⟩; refine cz (bW hb) (fun i => V.int ((Ad.along A'.shape (l.getD i 0) : Nat) : Int)) hD (by rw [aI]; show _ <= 2 ^ 24; omega) ?_ bf ?_
 ·rintro i H2 v H3 hi sm ⟨rfl,hx0⟩ Q' kq; obtain ⟨n,hn,rfl⟩ := cJ hx0; obtain ⟨dx,aa,bb,h1,h2,h3⟩ := hA.keep sm; have hnr : n < A'.shape.length := List.mem_range.mp (hpm.mem_iff.mp (List.mem_of_getElem? hn))
  have e1 : A'.shape[n]? = some (Ad.along A'.shape (l.getD i 0)) := by
   rw [List.getD_eq_getElem?_getD,hn]; show _ = some (Ad.along A'.shape n); rw [Ma.bK (List.getElem?_eq_getElem hnr),List.getElem?_eq_getElem hnr]
  exact ⟨rfl,_,rfl,x,C,dx,_,_,rfl,h1,T.cl,T.nL,aU aa bb,_,rfl,aa,_,_,_,rfl,rfl,ag.of h2,bC (dn e1),kq _ (ak.refl _)⟩
 ·intro H1 s1 h1
  have h1 : H1 D = some (.lst (vn (l.map (Ad.along A'.shape)))) := by
   rw [h1,aI]; congr 2; show _ = List.map V.int (List.map _ (List.map _ _)); rw [List.map_map,List.map_map]; apply List.ext_getElem?; intro i
   by_cases hi : i < l.length
   ·rw [List.getElem?_map,List.getElem?_range hi,List.getElem?_map,le hi]; rfl
   ·rw [List.getElem?_eq_none (by simp; omega),List.getElem?_eq_none (by simp; omega)]
  refine ⟨_,rfl,D,l.map (Ad.along A'.shape),rfl,ag.of h1,hts,fun H2 q s2 hq hP => ?_⟩; obtain ⟨qs,p1,p2,p3⟩ := id hP; obtain ⟨y1,y2,y3⟩ := Ma.aF hts; have s12 := s1.trans s2; refine ⟨q,rfl,⟨_,ag.of p1⟩,fun D2 hD2 => ?_⟩; refine cz (bW (ag.of p1)) (fun c => V.int (A'.at_ (Ma.jU A'.shape.length l (Ad.placeOf (l.map (Ad.along A'.shape)) c)))) hD2 (by rw [List.length_map,p2]; show _ <= 2 ^ 24; omega) ?_ bf ?_
  ·rintro c H3 v H4 hi sm ⟨rfl,hx⟩ Q' kq; rw [List.getElem?_map] at hx
   cases e : qs[c]? with
   | none => rw [e] at hx; cases hx
   | some r =>
    rw [e] at hx; have e2 : V.ref r = v := Option.some.inj hx; subst e2; have hc : c < Ad.product_ (l.map (Ad.along A'.shape)) := by rw [← p2]; exact (List.getElem?_eq_some_iff.mp e).1
    have hin := Ma.cC hc; have s13 := s12.trans sm; refine ⟨rfl,_,rfl,_,rfl,_,rfl,b,r,A'.shape.length,l,_,rfl,s13.seq hb,ag.of (sm _ _ (p3 c r e)),hax,by rw [Ma.eQ,List.length_map],by omega,fun H5 p s5 hp h5 => ?_⟩; exact ⟨x,p,A',_,rfl,hA.keep (s13.trans s5),ho,ag.of h5,Ma.vk hax hin,fun H6 s6 => kq H6 (s5.trans s6)⟩
  ·intro H3 sm h3; rw [List.length_map,p2] at h3; have h3 := h3.trans (congrArg (fun z => some (HO.lst z)) (pq (l.map (Ad.along A'.shape)) fun p => A'.at_ (Ma.jU A'.shape.length l p))); have s13 := s12.trans sm; refine ⟨_,rfl,_,rfl,ph (Q := Q) (A := Ad.turn A' l) ((s2.trans sm) _ _ h1) h3 fun y H4 hy s4 hA4 => ?_⟩; exact k H4 y (s13.trans s4) (s13.free hy) hA4
def qb (K : Fg) (C : Addr) : Sp := fun vs H Q _ => ∃ (l b : Addr) (t : Ay.State) (kk i : Nat) (ax : List Nat),vs = [.ref l,.int kk,.int i,.ref b] /\ aB C H l t /\ ag K H b (vn ax) /\ aQ C H l (Ay.step t (.turn kk i ax)) Q
theorem sc_call_turn : aq ["slots","k","i","axes","refusal"] ["slots","k","i","axes"] (aj jA) := fs
theorem wS (D : Df K mg "call_turn" "call_turn" jA ["slots","k","i","axes"]) (T : Txt K mg C) (aR : Ok P w K mg base 3 "slots_refusal" ["slots","k","sources"] (bV K C)) (jc : Ok P w K mg base 3 "turned_array" ["array","axes"] (mq K C)) (aZ : Ok P w K mg base 1 "keep" ["slots","k","array"] (b6 C)) : Ok P w K mg base 4 "call_turn" ["slots","k","i","axes"] (qb K C) := by
 refine D.ok sc_call_turn (fun _ _ _ _ h => by obtain ⟨_,_,_,_,_,_,rfl,_⟩ := h; rfl) (fun f cdv A outer s H vs Q E hr h => ?_); obtain ⟨l,b,t,kk,i,ax,rfl,S0,hb0,k0⟩ := h
 refine ⟨_,(ad (aH 4 sc_call_turn.nd (ap aR hr (ab (pv 0) (ab (pv 1) (ab (az (ab (pv 2) ac)) ac)))))
  (ad (aw (aE bz (pv 4) ai) (ae (ah (az (ab (pv 4) ac)))) ao)
  (ad (aw (aE (t9 hr.units) (bG zh (by rfl) T.b_sorted vL (ab (pv 3) ac)) (f9 (v0 rfl) (by rfl) T.b_list rg (ab (f9 xY (by rfl) T.b_range boot_range (ab (bA T.b_len (aD (au (pv 0) (pv 2)) rfl)) ac)) ac))) (ae (ah (az (ab (aP T.g_WRONG) ac)))) ao)
  (ae (ah (ap aZ hr (ab (pv 0) (ab (pv 1) (ab (ap jc hr (ab (au (pv 0) (pv 2)) (ab (pv 3) ac))) ac))))))))),?_⟩
 refine ⟨_,rfl,_,rfl,_,rfl,ba,fun q hq => ?_⟩; have s0 : ak H (upd H q (.lst [.int i])) := ak.new hq; have hq1 : (upd H q (.lst [.int i])) q = some (.lst (vn [i])) := am; generalize upd H q (.lst [.int i]) = H1 at *; have S := S0.keep s0; have hb := s0.seq hb0; have k := k0.same s0; refine ⟨l,q,t,kk,[i],rfl,S,ag.of hq1,_,rfl,rfl,_,rfl,?_⟩
 by_cases h0 : bJ t kk [i] = 0
 ·refine bq (congrArg V.int h0) ?_; obtain ⟨hk,hi,A',ea,ef⟩ := ot h0; rw [Ay.step,ef] at k; obtain ⟨vs,x,g1,g2,hA,ho⟩ := aB.arr S hi ea; obtain ⟨dx,a1,b1,h1,h2,h3⟩ := id hA; obtain ⟨z1,z2,z3⟩ := Ma.aF (aG ho).1; refine ⟨_,rfl,b,_,rfl,hb,fun ys p hperm hsort hp => ?_⟩; have s2 : ak H1 (upd H1 p (.lst (vi ys))) := ak.new hp; have hp2 : (upd H1 p (.lst (vi ys))) p = some (.lst (vi ys)) := am; change _ at hp2; generalize upd H1 p (.lst (vi ys)) = H2 at *; refine ⟨_,rfl,_,rfl,l,vs,_,_,rfl,rfl,ag.of (s2 _ _ g1),g2,x,C,dx,_,_,rfl,s2 _ _ h1,T.cl,T.nL,aU a1 b1,a1,_,rfl,.inl (ag.of (s2 _ _ h2)),_,rfl,fun u hu => ?_⟩; rw [aI]; have s3 : ak H2 (upd H2 u (.rng 0 (A'.shape.length : Int))) := ak.new hu; have hu2 : (upd H2 u (.rng 0 (A'.shape.length : Int))) u = some (.rng 0 (A'.shape.length : Int)) := am; generalize upd H2 u (.rng 0 (A'.shape.length : Int)) = H3 at *; refine ⟨u,A'.shape.length,rfl,hu2,by omega,fun r hr3 => ?_⟩; have s4 : ak H3 (upd H3 r (.lst (vn (List.range A'.shape.length)))) := ak.new hr3; have hr4 : (upd H3 r (.lst (vn (List.range A'.shape.length)))) r = some (.lst (vn (List.range A'.shape.length))) := am; generalize upd H3 r (.lst (vn (List.range A'.shape.length))) = H4 at *; have s34 := s3.trans s4; have s24 := s2.trans s34; refine ⟨p,r,ys,Ma.nz (List.range A'.shape.length),rfl,rfl,ag.of (s34 _ _ hp2),ag.of hr4,_,rfl,?_⟩; have e1 := Ma.xE (r := A'.shape.length) hperm hsort
  by_cases e2 : ys = Ma.nz (List.range A'.shape.length)
  ·rw [decide_eq_true e2] at e1; refine bq e2 ?_; rw [if_neg (by rw [e1]; simp)] at k; refine ⟨_,rfl,_,rfl,_,rfl,_,rfl,l,vs,_,_,rfl,rfl,ag.of (s24 _ _ g1),g2,_,rfl,x,b,A',ax,rfl,hA.keep s24,ho,s24.seq hb,e1,fun H5 y s5 hy hA5 => ?_⟩; exact ⟨l,y,t,kk,_,rfl,hk,S.keep (s24.trans s5),hA5,fc (Ma.tN (aG ho).1 e1) fun p hp => fu ho (Ma.vk e1 hp),k.same (s24.trans s5)⟩
  ·rw [decide_eq_false e2] at e1; refine bx e2 ?_; rw [if_pos e1] at k; exact ⟨ba,aQ.no S s24 k rfl⟩
 ·obtain ⟨n,h2,ef⟩ := t7 h0; rw [Ay.step,ef] at k; refine bx (a5 h0) ?_; exact ⟨_,rfl,ba,aQ.no S (ak.refl H1) k h2⟩
end
end Go

namespace Go
open PySem PySem.Spec PyProof.Rows L2
section
variable {P : Program} {w : World} {K : Fg} {mg : Str -> Option Value} {base : Heap} {C al : Addr}
theorem aab (l : List Nat) : (Ma.nz l).length = l.length := List.length_map ..
theorem bv {s : List Nat} {ax : Nat} (h : ax < s.length) : s[ax]? = some (Ad.along s ax) := by
 have h2 : s[ax]? = some (s[ax]'h) := List.getElem?_eq_getElem _; rw [Ma.bK h2]; exact h2
theorem lT (l : List Nat) (x : Nat) : (vn l).eraseIdx x = vn (l.eraseIdx x) := by
 show ((l.map _).map _).eraseIdx x = ((l.eraseIdx x).map _).map _; rw [Ma.vc,Ma.vc]
def de (K : Fg) : Sp := fun vs H Q _ => ∃ (a : Addr) (xs : List V) (ax : Nat),vs = [.ref a,.int ax] /\ ag K H a xs /\ xs.length <= 1000 /\ ∀ H' q,ak H H' -> H q = none -> H' q = some (.lst (xs.eraseIdx ax)) -> Q (.ref q) H'
theorem tf : aq ["numbers","axis"] ["numbers","axis"] (aj gk) := fs
theorem tF (D : Df K mg "without_axis" "without_axis" gk ["numbers","axis"]) (T : Txt K mg C) : Ok P w K mg base 1 "without_axis" ["numbers","axis"] (de K) := by
 refine D.ok tf (fun _ _ _ _ h => by obtain ⟨_,_,_,rfl,_⟩ := h; rfl) (fun f cdv A outer s H vs Q E hr h => ?_); obtain ⟨a,xs,ax,rfl,ha,hl,k⟩ := h; refine ⟨_,(ae (ah (aV iE (e_ gf (pv 0) i_ (eL (pv 1))) (e_ gf (pv 0) (eL (aV cM (pv 1) ai)) i_)))),?_⟩; refine ⟨_,rfl,_,rfl,_,rfl,a,_,rfl,ha,fun q hq => ?_⟩; rw [yF]; have s1 : ak H (upd H q (.lst (xs.take ax))) := ak.new hq; have h1 : (upd H q (.lst (xs.take ax))) q = some (.lst (xs.take ax)) := am; generalize upd H q (.lst (xs.take ax)) = H1 at *; refine ⟨_,rfl,_,rfl,_,_,rfl,rfl,_,rfl,a,_,rfl,s1.seq ha,fun q2 hq2 => ?_⟩; have e : eN xs (some ((ax : Int) + 1)) none = xs.drop (ax + 1) := jT xs (ax + 1); rw [e]; have s2 : ak H1 (upd H1 q2 (.lst (xs.drop (ax + 1)))) := ak.new hq2; have h2 : (upd H1 q2 (.lst (xs.drop (ax + 1)))) q2 = some (.lst (xs.drop (ax + 1))) := am; generalize upd H1 q2 (.lst (xs.drop (ax + 1))) = H2 at *; refine ⟨q,q2,_,_,rfl,rfl,s2 _ _ h1,h2,(by rw [List.length_take,List.length_drop]; show _ <= 2 ^ 24; omega),fun p hp => ?_⟩; rw [Ma.ma]; have s12 := s1.trans s2; exact k _ p (s12.upd (s12.free hp)) (s12.free hp) am
def lQ (K : Fg) : Sp := fun vs H Q _ => ∃ (a : Addr) (xs : List V) (ax : Nat) (v : V),vs = [.ref a,.int ax,v] /\ ag K H a xs /\ xs.length <= 1000 /\ ∀ H' q,ak H H' -> H q = none -> H' q = some (.lst (xs.take ax ++ v :: xs.drop ax)) -> Q (.ref q) H'
theorem wJ : aq ["numbers","axis","number"] ["numbers","axis","number"] (aj jG) := fs
theorem xg (D : Df K mg "with_axis" "with_axis" jG ["numbers","axis","number"]) (T : Txt K mg C) : Ok P w K mg base 1 "with_axis" ["numbers","axis","number"] (lQ K) := by
 refine D.ok wJ (fun _ _ _ _ h => by obtain ⟨_,_,_,_,rfl,_⟩ := h; rfl) (fun f cdv A outer s H vs Q E hr h => ?_); obtain ⟨a,xs,ax,v,rfl,ha,hl,k⟩ := h; refine ⟨_,(ae (ah (aV iE (aV iE (e_ gf (pv 0) i_ (eL (pv 1))) (az (ab (pv 2) ac))) (e_ gf (pv 0) (eL (pv 1)) i_)))),?_⟩; refine ⟨_,rfl,_,rfl,_,rfl,a,_,rfl,ha,fun q hq => ?_⟩; rw [yF]; have s1 : ak H (upd H q (.lst (xs.take ax))) := ak.new hq; have h1 : (upd H q (.lst (xs.take ax))) q = some (.lst (xs.take ax)) := am; generalize upd H q (.lst (xs.take ax)) = H1 at *; refine ⟨_,rfl,ba,fun r hr1 => ?_⟩; have s2 : ak H1 (upd H1 r (.lst [v])) := ak.new hr1; have h2 : (upd H1 r (.lst [v])) r = some (.lst [v]) := am; generalize upd H1 r (.lst [v]) = H2 at *; refine ⟨q,r,_,_,rfl,rfl,s2 _ _ h1,h2,(by rw [List.length_take]; show _ <= 2 ^ 24; simp only [List.length_cons,List.length_nil]; omega),fun u hu => ?_⟩; have s3 : ak H2 (upd H2 u (.lst (xs.take ax ++ [v]))) := ak.new hu; have h3 : (upd H2 u (.lst (xs.take ax ++ [v]))) u = some (.lst (xs.take ax ++ [v])) := am; generalize upd H2 u (.lst (xs.take ax ++ [v])) = H3 at *; have s13 := (s1.trans s2).trans s3; refine ⟨_,rfl,_,rfl,_,rfl,a,_,rfl,s13.seq ha,fun q2 hq2 => ?_⟩; rw [jT]; have s4 : ak H3 (upd H3 q2 (.lst (xs.drop ax))) := ak.new hq2; have h4 : (upd H3 q2 (.lst (xs.drop ax))) q2 = some (.lst (xs.drop ax)) := am; generalize upd H3 q2 (.lst (xs.drop ax)) = H4 at *; refine ⟨u,q2,_,_,rfl,rfl,s4 _ _ h3,h4,(by rw [List.length_append,List.length_take,List.length_drop]; show _ <= 2 ^ 24; simp only [List.length_cons,List.length_nil]; omega),fun p hp => ?_⟩; have s14 := s13.trans s4; refine k _ p (s14.upd (s14.free hp)) (s14.free hp) ?_; rw [am,List.append_assoc]; rfl
def gj (K : Fg) : Sp := fun vs H Q _ => ∃ (a : Addr) (xs : List V) (ax : Nat) (v : V),vs = [.ref a,.int ax,v] /\ ag K H a xs /\ xs.length <= 1000 /\ ax < xs.length /\ ∀ H' q,ak H H' -> H q = none -> H' q = some (.lst (xs.set ax v)) -> Q (.ref q) H'
theorem u0 : aq ["lengths","axis","length"] ["lengths","axis","length"] (aj gQ) := fs
theorem uT (D : Df K mg "with_length" "with_length" gQ ["lengths","axis","length"]) (T : Txt K mg C) (ft : Ok P w K mg base 1 "with_axis" ["numbers","axis","number"] (lQ K)) (bc : Ok P w K mg base 1 "without_axis" ["numbers","axis"] (de K)) : Ok P w K mg base 2 "with_length" ["lengths","axis","length"] (gj K) := by
 refine D.ok u0 (fun _ _ _ _ h => by obtain ⟨_,_,_,_,rfl,_⟩ := h; rfl) (fun f cdv A outer s H vs Q E hr h => ?_); obtain ⟨a,xs,ax,v,rfl,ha,hl,hx,k⟩ := h; refine ⟨_,(ae (ah (ap ft hr (ab (ap bc hr (ab (pv 0) (ab (pv 1) ac))) (ab (pv 1) (ab (pv 2) ac)))))),?_⟩; refine ⟨_,rfl,_,rfl,a,xs,ax,rfl,ha,hl,fun H1 q s1 hq h1 => ?_⟩; refine ⟨_,rfl,_,rfl,q,_,ax,v,rfl,ag.of h1,?_,fun H2 r s2 hr2 h2 => ?_⟩
 ·rw [List.length_eraseIdx]
  split <;> omega
 ·rw [Ma.mw xs ax v hx] at h2; exact k H2 r (s1.trans s2) (s1.free hr2) h2
def cw (t : Ay.State) (k i : Nat) (is : List Nat) (ax : Nat) : Int := if bJ t k (i :: is) = 0 then (match t.getD i none with
 | some A => if A.shape.length <= ax then -1 else 0
 | none => 0) else bJ t k (i :: is)
theorem ze {t : Ay.State} {k i : Nat} {is : List Nat} (h : bJ t k (i :: is) = 0) : i < 8 /\ ∃ A,t.getD i none = some A := by
 unfold bJ at h
 by_cases h0 : d6 k = 0
 ·rw [if_pos h0] at h
  by_cases h1 : ck t i = 0
  ·obtain ⟨g1,A,g2,_⟩ := eD h1; exact ⟨g1,A,g2⟩
  ·rw [cg,if_neg h1] at h; exact absurd h h1
 ·rw [if_neg h0] at h; exact absurd h h0
def cA (K : Fg) (C : Addr) : Sp := fun vs H Q _ => ∃ (l a : Addr) (t : Ay.State) (kk i ax : Nat) (is : List Nat),vs = [.ref l,.int kk,.ref a,.int ax] /\ aB C H l t /\ ag K H a (vn (i :: is)) /\ Q (.int (cw t kk i is ax)) H
theorem sc_axis_refusal : aq ["slots","k","sources","axis","refusal"] ["slots","k","sources","axis"] (aj gm) := fs
theorem tS (D : Df K mg "axis_refusal" "axis_refusal" gm ["slots","k","sources","axis"]) (T : Txt K mg C) (aR : Ok P w K mg base 3 "slots_refusal" ["slots","k","sources"] (bV K C)) : Ok P w K mg base 4 "axis_refusal" ["slots","k","sources","axis"] (cA K C) := by
 refine D.ok sc_axis_refusal (fun _ _ _ _ h => by obtain ⟨_,_,_,_,_,_,_,rfl,_⟩ := h; rfl) (fun f cdv A outer s H vs Q E hr h => ?_); obtain ⟨l,a,t,kk,i,ax,is,rfl,S,ha,k⟩ := h
 refine ⟨_,(ad (aH 4 sc_axis_refusal.nd (ap aR hr (ab (pv 0) (ab (pv 1) (ab (pv 2) ac)))))
  (ad (aw (aE bz (pv 4) ai) (ae (ah (pv 4))) ao)
  (ad (aw (aE ml (pv 3) (bA T.b_len (aD (au (pv 0) (au (pv 2) ai)) rfl))) (ae (ah (aP T.g_WRONG))) ao)
  (ae (ah ai))))),?_⟩
 refine ⟨_,rfl,_,rfl,_,rfl,l,a,t,kk,i :: is,rfl,S,ha,_,rfl,rfl,_,rfl,?_⟩
 by_cases h0 : bJ t kk (i :: is) = 0
 ·refine bq (congrArg V.int h0) ?_; rw [cw,if_pos h0] at k; obtain ⟨hi,A',ea⟩ := ze h0; obtain ⟨vs,x,g1,g2,hA,ho⟩ := aB.arr S hi ea; obtain ⟨dx,a1,b1,h1,h2,h3⟩ := id hA; rw [ea] at k; refine ⟨_,rfl,_,rfl,_,rfl,a,_,_,_,rfl,rfl,ha,(bC (j := 0) rfl : fj (vn (i :: is)) 0 = some (V.int i)),l,vs,_,_,rfl,rfl,ag.of g1,g2,x,C,dx,_,_,rfl,h1,T.cl,T.nL,aU a1 b1,a1,_,rfl,.inl (ag.of h2),_,_,rfl,rfl,_,rfl,a_ (fun h => ?_) (fun h => ?_)⟩
  ·have h4 := of_decide_eq_true h; rw [aI] at h4; simp only at k; rw [if_pos (by omega)] at k; exact k
  ·rw [aI] at h; simp at h; simp only at k; rw [if_neg (by omega)] at k; exact k
 ·rw [cw,if_neg h0] at k; refine bx (a5 h0) ?_; exact ⟨_,rfl,k⟩
theorem oj {t : Ay.State} {k i ax : Nat} (h : cw t k i [] ax = 0) : k < 8 /\ i < 8 /\ ∃ A,t.getD i none = some A /\ ax < A.shape.length /\ ∀ f : Ad.Arr -> Ay.State × Ay.Answer,Ay.into t k (Ay.ofSlot t i fun a => Ay.ofAxis t ax a (f a)) = f A := by
 unfold cw at h
 by_cases h0 : bJ t k [i] = 0
 ·rw [if_pos h0] at h; obtain ⟨hk,hi,A,ea,ef⟩ := ot h0; rw [ea] at h; simp only at h
  by_cases hx : A.shape.length <= ax
  ·rw [if_pos hx] at h; cases h
  ·refine ⟨hk,hi,A,ea,by omega,fun f => ?_⟩; rw [ef]; exact if_neg hx
 ·rw [if_neg h0] at h; exact absurd h h0
theorem sZ {t : Ay.State} {k i ax : Nat} (h : ¬ cw t k i [] ax = 0) : ∃ n : Nat,cw t k i [] ax = -(n : Int) /\ ∀ f : Ad.Arr -> Ay.State × Ay.Answer,Ay.into t k (Ay.ofSlot t i fun a => Ay.ofAxis t ax a (f a)) = (t,Ay.no n) := by
 unfold cw at h ⊢
 by_cases h0 : bJ t k [i] = 0
 ·rw [if_pos h0] at h ⊢; obtain ⟨hk,hi,A,ea,ef⟩ := ot h0; rw [ea] at h ⊢; simp only at h ⊢
  by_cases hx : A.shape.length <= ax
  ·rw [if_pos hx]; refine ⟨1,rfl,fun f => ?_⟩; rw [ef]; exact if_pos hx
  ·rw [if_neg hx] at h; exact absurd rfl h
 ·rw [if_neg h0]; obtain ⟨n,e,ef⟩ := t7 h0; exact ⟨n,e,fun f => ef _⟩
theorem yH {t : Ay.State} {k i j ax : Nat} (h : cw t k i [j] ax = 0) : k < 8 /\ i < 8 /\ j < 8 /\ ∃ A B,t.getD i none = some A /\ t.getD j none = some B /\ ax < A.shape.length /\ ∀ f : Ad.Arr -> Ad.Arr -> Ay.State × Ay.Answer,Ay.into t k (Ay.ofSlot t i fun a => Ay.ofSlot t j fun b => Ay.ofAxis t ax a (f a b)) = f A B := by
 unfold cw at h
 by_cases h0 : bJ t k [i,j] = 0
 ·rw [if_pos h0] at h; obtain ⟨hk,hi,hj,A,B,ea,eb,ef⟩ := oo h0; rw [ea] at h; simp only at h
  by_cases hx : A.shape.length <= ax
  ·rw [if_pos hx] at h; cases h
  ·refine ⟨hk,hi,hj,A,B,ea,eb,by omega,fun f => ?_⟩; rw [ef]; exact if_neg hx
 ·rw [if_neg h0] at h; exact absurd h h0
theorem aau {t : Ay.State} {k i j ax : Nat} (h : ¬ cw t k i [j] ax = 0) : ∃ n : Nat,cw t k i [j] ax = -(n : Int) /\ ∀ f : Ad.Arr -> Ad.Arr -> Ay.State × Ay.Answer,Ay.into t k (Ay.ofSlot t i fun a => Ay.ofSlot t j fun b => Ay.ofAxis t ax a (f a b)) = (t,Ay.no n) := by
 unfold cw at h ⊢
 by_cases h0 : bJ t k [i,j] = 0
 ·rw [if_pos h0] at h ⊢; obtain ⟨hk,hi,hj,A,B,ea,eb,ef⟩ := oo h0; rw [ea] at h ⊢; simp only at h ⊢
  by_cases hx : A.shape.length <= ax
  ·rw [if_pos hx]; refine ⟨1,rfl,fun f => ?_⟩; rw [ef]; exact if_pos hx
  ·rw [if_neg hx] at h; exact absurd rfl h
 ·rw [if_neg h0]; obtain ⟨n,e,ef⟩ := tX h0; exact ⟨n,e,fun f => ef _⟩
def dq (H : Hp) (D : Addr) (X : List (List V)) : Prop := ∃ qs : List Addr,H D = some (.lst (qs.map V.ref)) /\ qs.length = X.length /\ ∀ (i : Nat) q x,qs[i]? = some q -> X[i]? = some x -> H q = some (.lst x)
theorem dq.keep {H H' : Hp} {D : Addr} {X : List (List V)} (h : dq H D X) (sm : ak H H') : dq H' D X := by
 obtain ⟨qs,h1,h2,h3⟩ := h; exact ⟨qs,sm _ _ h1,h2,fun i q x e1 e2 => sm _ _ (h3 i q x e1 e2)⟩
theorem dq.of {H : Hp} {D : Addr} {X : List (List V)} {f : Nat -> List V} {n : Nat} {qs : List Addr} (h1 : H D = some (.lst (qs.map V.ref))) (h2 : qs.length = n) (h3 : ∀ (i : Nat) q,qs[i]? = some q -> H q = some (.lst (f i))) (hn : X.length = n) (hf : ∀ i x,X[i]? = some x -> f i = x) : dq H D X :=
 ⟨qs,h1,by rw [h2,hn],fun i q x e1 e2 => by rw [h3 i q e1,hf i x e2]⟩
theorem dq.src {K : Fg} {H : Hp} {D : Addr} {X : List (List V)} (h : dq H D X) : ∃ xs,ag K H D xs /\ xs.length = X.length /\ ∀ (i : Nat) v,xs[i]? = some v -> ∃ q x,v = .ref q /\ X[i]? = some x /\ H q = some (.lst x) := by
 obtain ⟨qs,h1,h2,h3⟩ := h; refine ⟨_,ag.of h1,by rw [List.length_map,h2],fun i v hv => ?_⟩; rw [List.getElem?_map] at hv
 cases e : qs[i]? with
 | none => rw [e] at hv; cases hv
 | some q =>
  rw [e] at hv; have e2 : V.ref q = v := Option.some.inj hv; have hlt := (List.getElem?_eq_some_iff.mp e).1; have e3 : X[i]? = some (X[i]'(by omega)) := List.getElem?_eq_getElem _; exact ⟨q,_,e2.symm,e3,h3 i q _ e e3⟩
abbrev dC (ax : Nat) (A : Ad.Arr) : List (List V) := (Ad.rowsBy ax A).map vi
theorem cq (ax : Nat) (A : Ad.Arr) : (dC ax A).length = Ad.product_ (Ad.removed A.shape ax) := by rw [List.length_map,Ma.kS]
def vB (K : Fg) (C : Addr) : Sp := fun vs H Q _ => ∃ (x b : Addr) (A : Ad.Arr) (ax : Nat) (p : List Nat),vs = [.ref x,.int ax,.ref b] /\ b0 C H x A /\ A.ok = true /\ ag K H b (vn p) /\ ax < A.shape.length /\ Ma.In (Ad.removed A.shape ax) p /\ ∀ H' q,ak H H' -> H q = none -> H' q = some (.lst (vi (Ad.rowAt A ax (Ad.filledIn ax p)))) -> Q (.ref q) H'
theorem sc_row_at : aq ["array","axis","others","number"] ["array","axis","others"] (aj lv) := fs
theorem aar (D : Df K mg "row_at" "row_at" lv ["array","axis","others"]) (T : Txt K mg C) (cH : Ok P w K mg base 2 "cell_at" ["array","place"] (iw K C)) (ft : Ok P w K mg base 1 "with_axis" ["numbers","axis","number"] (lQ K)) : Ok P w K mg base 3 "row_at" ["array","axis","others"] (vB K C) := by
 refine D.ok sc_row_at (fun _ _ _ _ h => by obtain ⟨_,_,_,_,_,rfl,_⟩ := h; rfl) (fun f cdv A outer s H vs Q E hr h => ?_); obtain ⟨x,b,A',ax,p,rfl,hA,ho,hb,hx,hp,k⟩ := h; refine ⟨_,(ae (ah (dt rfl sc_row_at.nd (dX rfl T.b_range (ab (au (aD (pv 0) rfl) (pv 1)) ac)) (a8 (N := ["array","axis","others","number"]) (sc := aj lv) (own := [("number",3)]) (by decide +kernel)) (fun _ _ _ _ _ => (a0 3 sc_row_at.nd)) (fun _ _ _ _ _ => br) (fun _ _ _ _ _ => (ap cH hr (ab (pv 0) (ab (ap ft hr (ab (pv 2) (ab (pv 1) (ab (pv 3) ac)))) ac))))))),?_⟩; obtain ⟨dx,a1,b1,h1,h2,h3⟩ := id hA; obtain ⟨z1,z2,z3⟩ := Ma.aF (aG ho).1; have hle := Ma.b_ z2 _ (List.mem_of_getElem? (bv hx))
 have hpl : p.length = A'.shape.length - 1 := by
  rw [hp.len]; unfold Ad.removed; rw [List.length_eraseIdx,if_pos hx]
 refine ⟨_,rfl,x,C,dx,_,_,rfl,h1,T.cl,T.nL,aU a1 b1,_,rfl,a1,_,_,_,rfl,rfl,ag.of h2,bC (dn (bv hx)),_,rfl,by omega,by omega,fun D hD => ?_⟩; refine cz (fM) (fun i => V.int (A'.at_ (p.take ax ++ i :: p.drop ax))) hD (by show _ <= 2 ^ 24; omega) ?_ bf ?_
 ·rintro i H1 v H2 hi sm ⟨rfl,rfl⟩ Q' kq; have hi' : i < Ad.along A'.shape ax := by omega
  refine ⟨rfl,_,rfl,_,rfl,_,rfl,_,rfl,b,vn p,ax,.int (i : Int),?_,sm.seq hb,by rw [aI]; omega,fun H3 q3 s3 n3 h3 => ?_⟩
  ·rw [Int.zero_add]; rfl
  ·have e : (vn p).take ax ++ V.int (i : Int) :: (vn p).drop ax = vn (p.take ax ++ i :: p.drop ax) := by
    rw [p9,uy]; show _ ++ _ = List.map V.int (List.map _ _) ++ (V.int (i : Int) :: vn (p.drop ax)); rw [List.map_take,List.map_take]
   rw [e] at h3; exact ⟨x,q3,A',_,rfl,hA.keep (sm.trans s3),ho,ag.of h3,Ma.In.fill hp hx hi',fun H4 s4 => kq H4 (s3.trans s4)⟩
 ·intro H' sm hd; refine k H' D sm hD ?_; rw [hd]; congr 2; show _ = List.map V.int (Ad.rowAt A' ax (Ad.filledIn ax p)); unfold Ad.rowAt; rw [List.map_map]; apply List.map_congr_left; intro i _; show V.int _ = V.int (A'.at_ ((Ad.filledIn ax p).set ax i)); rw [Ma.sY p ax i (by omega)]
def dr (K : Fg) (C : Addr) : Sp := fun vs H Q _ => ∃ (x : Addr) (A : Ad.Arr) (ax : Nat),vs = [.ref x,.int ax] /\ b0 C H x A /\ A.ok = true /\ ax < A.shape.length /\ ∀ H' q,ak H H' -> H q = none -> dq H' q (dC ax A) -> Q (.ref q) H'
theorem sc_rows_of : aq ["array","axis","others"] ["array","axis"] (aj jO) := fs
theorem zp (D : Df K mg "rows_of" "rows_of" jO ["array","axis"]) (T : Txt K mg C) (bH : Ok P w K mg base 2 "places_of" ["lengths"] (eG K)) (bc : Ok P w K mg base 1 "without_axis" ["numbers","axis"] (de K)) (sx : Ok P w K mg base 3 "row_at" ["array","axis","others"] (vB K C)) : Ok P w K mg base 4 "rows_of" ["array","axis"] (dr K C) := by
 refine D.ok sc_rows_of (fun _ _ _ _ h => by obtain ⟨_,_,_,rfl,_⟩ := h; rfl) (fun f cdv A outer s H vs Q E hr h => ?_); obtain ⟨x,A',ax,rfl,hA,ho,hx,k⟩ := h; refine ⟨_,(ae (ah (dt rfl sc_rows_of.nd (bD (ap bH hr (ab (ap bc hr (ab (aD (pv 0) rfl) (ab (pv 1) ac))) ac))) (a8 (N := ["array","axis","others"]) (sc := aj jO) (own := [("others",2)]) (by decide +kernel)) (fun _ _ _ _ _ => (a0 2 sc_rows_of.nd)) (fun _ _ _ _ _ => br) (fun _ _ _ _ _ => (ap sx hr (ab (pv 0) (ab (pv 1) (ab (pv 2) ac)))))))),?_⟩; obtain ⟨dx,a1,b1,h1,h2,h3⟩ := id hA; obtain ⟨z1,z2,z3⟩ := Ma.aF (aG ho).1; have hrs := Ma.cj (aG ho).1 ax; obtain ⟨y1,y2,y3⟩ := Ma.aF hrs; refine ⟨_,rfl,x,C,dx,_,_,rfl,h1,T.cl,T.nL,aU a1 b1,_,rfl,a1,_,ax,rfl,ag.of h2,by rw [aI]; omega,fun H1 q s1 hq hq1 => ?_⟩; rw [lT] at hq1; refine ⟨q,Ad.removed A'.shape ax,rfl,ag.of hq1,hrs,fun H2 u s2 hu hP => ?_⟩; obtain ⟨qs,p1,p2,p3⟩ := id hP; have s12 := s1.trans s2; refine ⟨u,rfl,⟨_,ag.of p1⟩,fun D hD => ?_⟩; refine oH (bW (ag.of p1)) (fun c => vi (Ad.rowAt A' ax (Ad.filledIn ax (Ad.placeOf (Ad.removed A'.shape ax) c)))) hD (by rw [List.length_map,p2]; show _ <= 2 ^ 24; omega) ?_ bf ?_
 ·rintro c H3 v H4 hi sm ⟨rfl,hx2⟩ Q' kq; rw [List.getElem?_map] at hx2
  cases e : qs[c]? with
  | none => rw [e] at hx2; cases hx2
  | some r =>
   rw [e] at hx2; have e2 : V.ref r = v := Option.some.inj hx2; subst e2; have hc : c < Ad.product_ (Ad.removed A'.shape ax) := by rw [← p2]; exact (List.getElem?_eq_some_iff.mp e).1
   exact ⟨rfl,_,rfl,_,rfl,_,rfl,x,r,A',ax,_,rfl,hA.keep (s12.trans sm),ho,ag.of (sm _ _ (p3 c r e)),hx,Ma.cC hc,fun H5 q5 s5 n5 h5 => kq q5 H5 s5 n5 h5⟩
 ·intro H' ds sm g1 g2 g3; refine k H' D (s12.trans sm) (s12.free hD) (dq.of g1 g2 g3 ?_ ?_)
  ·rw [cq,List.length_map,p2]
  ·intro i y hy; rw [List.getElem?_map] at hy
   cases e : (Ad.rowsBy ax A')[i]? with
   | none => rw [e] at hy; cases hy
   | some r =>
    rw [e] at hy; rw [← (Ma.iM e).2]; exact Option.some.inj hy
def uG (C : Addr) (H : Hp) (x : Addr) (s : List Nat) (cs : List V) : Prop := ∃ dx a b,H x = some (.ins C dx (af a b)) /\ H a = some (.lst (vn s)) /\ H b = some (.lst cs)
theorem j4 {H : Hp} {Q : VK} {a b : Addr} {s : List Nat} {cs : List V} (ha : H a = some (.lst (vn s))) (hb : H b = some (.lst cs)) (k : ∀ x H',H x = none -> ak H H' -> uG C H' x s cs -> Q (.ref x) H') :
  ∀ x dx,H x = none -> H dx = none -> dx ≠ x -> bO C (.ref x :: ([.ref a,.ref b] ++ [])) (upd (upd H dx (.own x)) x (.ins C dx [])) (fun v H2 => v = .non /\ Q (.ref x) H2) E0 := by
 intro x dx hx hdx hne; refine ⟨x,dx,a,b,rfl,am,fun H' h1 h2 => ⟨rfl,?_⟩⟩; have sm : ak H H' := ak.made hx hdx h2; exact k x H' hx sm ⟨dx,a,b,h1,sm _ _ ha,sm _ _ hb⟩
abbrev wI (s : List Nat) (g : List Nat -> V) : List V := (List.range (Ad.product_ s)).map fun c => g (Ad.placeOf s c)
def cn (K : Fg) (C : Addr) : Sp := fun vs H Q _ => ∃ (a D : Addr) (s : List Nat) (ax : Nat) (X : List (List V)) (g : List Nat -> V),vs = [.ref a,.int ax,.ref D] /\ H a = some (.lst (vn s)) /\ Ad.shapeOk s = true /\ ax < s.length /\ dq H D X ∧
 (∀ p,Ma.In s p -> ∃ r,X[Ad.cellOf (Ad.removed s ax) (p.eraseIdx ax)]? = some r /\ r[p.getD ax 0]? = some (g p)) /\ ∀ H' y,ak H H' -> H y = none -> uG C H' y s (wI s g) -> Q (.ref y) H'
theorem sc_array_of_rows : aq ["lengths","axis","rows","other_lengths","cells","place","row"] ["lengths","axis","rows"] (aj fD) := fs
theorem sv (D : Df K mg "array_of_rows" "array_of_rows" fD ["lengths","axis","rows"]) (T : Txt K mg C) (bH : Ok P w K mg base 2 "places_of" ["lengths"] (eG K)) (bc : Ok P w K mg base 1 "without_axis" ["numbers","axis"] (de K)) (bY : Ok P w K mg base 1 "number_of" ["lengths","place"] (f8 K)) (aS : dO P w K mg base 1 "Array" C ["self","lengths","cells"] (bO C)) : Ok P w K mg base 3 "array_of_rows" ["lengths","axis","rows"] (cn K C) := by
 refine D.ok sc_array_of_rows (fun _ _ _ _ h => by obtain ⟨_,_,_,_,_,_,rfl,_⟩ := h; rfl) (fun f cdv A outer s H vs Q E hr h => ?_); obtain ⟨a,D,ns,ax,X,g,rfl,ha,hs,hx,hX,hg,k⟩ := h
 refine ⟨_,(ad (aH 3 sc_array_of_rows.nd (ap bc hr (ab (pv 0) (ab (pv 1) ac))))
  (ad (aH 4 sc_array_of_rows.nd (az ac))
  (ad (bQ PassesOwn.never rfl (bD (ap bH hr (ab (pv 0) ac))) (a0 5 sc_array_of_rows.nd) (ad (aH 6 sc_array_of_rows.nd (au (pv 2) (ap bY hr (ab (pv 3) (ab (ap bc hr (ab (pv 5) (ab (pv 1) ac))) ac)))))
  (ae (cE (gn PySem.F.plainAttrs_list PySem.F.slot_list_append PySem.F.type_list_append c7 (pv 4) (ab (au (pv 6) (au (pv 5) (pv 1))) ac))))))
  (ae (ah (dZ aS hr (ab (pv 0) (ab (pv 4) ac)))))))),?_⟩
 obtain ⟨z1,z2,z3⟩ := Ma.aF hs; obtain ⟨y1,y2,y3⟩ := Ma.aF (Ma.cj hs ax); refine ⟨_,rfl,_,rfl,a,_,ax,rfl,ag.of ha,by rw [aI]; omega,fun H1 o s1 ho1 hoo => ?_⟩; rw [lT] at hoo; refine ⟨Nat.zero_le _,fun d hd => ?_⟩; have s2 : ak H1 (upd H1 d (.lst [])) := ak.new hd; have hd2 : (upd H1 d (.lst [])) d = some (.lst []) := am; generalize upd H1 d (.lst []) = H2 at *; have s12 := s1.trans s2; have hd0 : H d = none := s1.free hd; refine ⟨_,rfl,a,ns,rfl,ag.of (s12 _ _ ha),hs,fun H3 u s3 hu hP => ?_⟩; obtain ⟨qs,p1,p2,p3⟩ := id hP; have s13 := s12.trans s3; have ho3 := (s2.trans s3) _ _ hoo; have hud : u ≠ d := fun e => by rw [e,hd2] at hu; cases hu
 have hqd : ∀ (c : Nat) q,qs[c]? = some q -> q ≠ d := fun c q e z => by
  have h1 := p3 c q e; rw [z,s3 _ _ hd2] at h1; have h2 : ([] : List V) = vn (Ad.placeOf ns c) := HO.lst.inj (Option.some.inj h1); have h3 := congrArg List.length h2; rw [aI,Ma.eQ] at h3; simp at h3; omega
 refine ⟨u,rfl,⟨_,ag.of p1⟩,d7 (K := K) (a := u) (xs := qs.map V.ref) (fun i σ H' => ∃ (v1 v2 : Option V),σ = [some (.ref a),some (.int ax),some (.ref D),some (.ref o),some (.ref d),v1,v2] /\ H' d = some (.lst ((List.range i).map fun c => g (Ad.placeOf ns c))) /\ aM d H3 H')
  ⟨none,none,rfl,s3 _ _ hd2,(ak.refl H3).keep⟩ (fun i σ H' _ ⟨_,_,_,_,e⟩ => ag.of (e _ _ p1 hud)) ?_ ?_⟩
 ·rintro i x σ H' hi ⟨v1,v2,rfl,hd',kp⟩; rw [List.getElem?_map] at hi
  cases e : qs[i]? with
  | none => rw [e] at hi; cases hi
  | some q =>
   rw [e] at hi; have e2 : V.ref q = x := Option.some.inj hi; subst e2; have hc : i < Ad.product_ ns := by rw [← p2]; exact (List.getElem?_eq_some_iff.mp e).1
   have hin := Ma.cC hc; have hq' : H' q = some (.lst (vn (Ad.placeOf ns i))) := kp _ _ (p3 i q e) (hqd i q e); have hod : o ≠ d := fun z => by rw [z,hd] at hoo; cases hoo
   have ho' : H' o = some (.lst (vn (ns.eraseIdx ax))) := kp _ _ ho3 hod; obtain ⟨r,hr1,hr2⟩ := hg _ hin; obtain ⟨rs,w1,w2,w3⟩ := hX
   have hrl : Ad.cellOf (Ad.removed ns ax) ((Ad.placeOf ns i).eraseIdx ax) < rs.length := by
    rw [w2]; exact (List.getElem?_eq_some_iff.mp hr1).1
   have w4 : rs[Ad.cellOf (Ad.removed ns ax) ((Ad.placeOf ns i).eraseIdx ax)]? = some (rs[Ad.cellOf (Ad.removed ns ax) ((Ad.placeOf ns i).eraseIdx ax)]'hrl) := List.getElem?_eq_getElem hrl; have w5 := w3 _ _ r w4 hr1; generalize rs[Ad.cellOf (Ad.removed ns ax) ((Ad.placeOf ns i).eraseIdx ax)]'hrl = rr at w4 w5; have hDd : D ≠ d := aJ w1 hd0; have hrd : rr ≠ d := aJ w5 hd0; have hD' : H' D = some (.lst (rs.map V.ref)) := kp _ _ (s13 _ _ w1) hDd; have hrr' : H' rr = some (.lst r) := kp _ _ (s13 _ _ w5) hrd; refine ⟨_,rfl,_,rfl,_,rfl,_,rfl,q,_,ax,rfl,ag.of hq',by rw [aI,Ma.eQ]; omega,fun H4 u4 s4 hu4 h4 => ?_⟩; rw [lT] at h4; refine ⟨o,u4,ns.eraseIdx ax,(Ad.placeOf ns i).eraseIdx ax,rfl,ag.of (s4 _ _ ho'),ag.of h4,(hin.erase (x := ax)).len,fun n hn => cb hs n (List.mem_of_mem_eraseIdx hn),fun H5 s5 => ?_⟩; have s45 := s4.trans s5; have hpx : (Ad.placeOf ns i)[ax]? = some ((Ad.placeOf ns i).getD ax 0) := le (by rw [Ma.eQ]; exact hx); refine ⟨D,_,_,_,rfl,rfl,ag.of (s45 _ _ hD'),bC (v := .ref rr) (by rw [List.getElem?_map]; exact congrArg (Option.map V.ref) w4),?_⟩; refine ⟨_,rfl,.inl ⟨rfl,_,ag.of (s45 _ _ hd')⟩,_,rfl,_,rfl,_,rfl,q,_,_,_,rfl,rfl,ag.of (s45 _ _ hq'),bC (dn hpx),rr,_,_,_,rfl,rfl,ag.of (s45 _ _ hrr'),bC hr2,d,_,_,rfl,rfl,s45 _ _ hd',(by rw [List.length_map,List.length_range]; show _ < 2 ^ 24; omega),_,_,rfl,?_,(kp.trans s45.keep).trans aM.upd⟩; rw [am,List.range_succ,List.map_append]; rfl
 ·rintro σ H' ⟨v1,v2,rfl,hd',kp⟩; rw [List.length_map,p2] at hd'; have sm : ak H H' := fun b o' e => kp _ _ (s13 _ _ e) (aJ e hd0)
  exact ⟨_,rfl,_,rfl,j4 (Q := Q) (sm _ _ ha) hd' fun y H5 hy s5 hA5 => k H5 y (sm.trans s5) (sm.free hy) hA5⟩
end
end Go

namespace Go
open PySem PySem.Spec PyProof.Rows L2
def rf (a : Addr) (n : Nat) : List (Str × V) := [("numbers",.ref a),("reached",.int n)]
theorem tO (a : Addr) (n : Nat) : (rf a n).lookup ("numbers" : Str) = some (.ref a) := by
 unfold rf; rw [List.lookup_cons]; rw [show (("numbers" : Str) == "numbers") = true by decide +kernel]
theorem lX (a : Addr) (n : Nat) : (rf a n).lookup ("reached" : Str) = some (.int n) := by
 unfold rf; rw [List.lookup_cons,show (("reached" : Str) == "numbers") = false by decide +kernel,List.lookup_cons,show (("reached" : Str) == "reached") = true by decide +kernel]
theorem cV (a : Addr) (n : Nat) {m : Str} (h1 : (m == ("numbers" : Str)) = false) (h2 : (m == ("reached" : Str)) = false) : (rf a n).lookup m = none := by
 unfold rf; rw [List.lookup_cons,h1,List.lookup_cons,h2]; rfl
theorem xa (a : Addr) (n m : Nat) : cT "reached" (.int (m : Int)) (rf a n) = rf a m := by
 unfold rf cT cT; rw [if_neg (by decide +kernel),if_pos rfl]
theorem aco (a : Addr) : cT "reached" (.int 0) (cT "numbers" (.ref a) []) = rf a 0 := by
 show (if ("numbers" : Str) = "reached" then _ else (("numbers" : Str),V.ref a) :: cT "reached" (.int 0) []) = _; rw [if_neg (by decide +kernel)]; rfl
def aO (R : Addr) (H : Hp) (r a : Addr) (n : Nat) : Prop := ∃ dx,H r = some (.ins R dx (rf a n))
theorem aM.seq {K : Fg} {H H' : Hp} {r a : Addr} {o : HO} {xs : List V} (k : aM r H H') (hr : H r = some o) (hno : ∀ ys,o ≠ .lst ys) (hno2 : ∀ ob ys,o ≠ .frz ob (.lst ys)) (h : ag K H a xs) : ag K H' a xs := by
 rcases h with (h | ⟨ob,h⟩) | h
 ·exact .inl (.inl (k _ _ h fun e => by rw [e,hr] at h; exact hno _ (Option.some.inj h)))
 ·exact .inl (.inr ⟨ob,k _ _ h fun e => by rw [e,hr] at h; exact hno2 _ _ (Option.some.inj h)⟩)
 ·exact .inr h
theorem aO.seq {K : Fg} {R : Addr} {H H' : Hp} {r a b : Addr} {n : Nat} {xs : List V} (k : aM r H H') (hr : aO R H r a n) (h : ag K H b xs) : ag K H' b xs := by
 obtain ⟨dx,hr⟩ := hr; exact aM.seq k hr (by intro ys e; cases e) (by intro ob ys e; cases e) h
theorem aM.free {r q : Addr} {H H' : Hp} (k : aM r H H') (hq : H' q = none) (hr : ∃ o,H' r = some o) : H q = none := by
 cases e : H q with
 | none => rfl
 | some o =>
  have hne : q ≠ r := fun e2 => by
   obtain ⟨o2,hr⟩ := hr; rw [e2,hr] at hq; cases hq
  rw [k q o e hne] at hq; cases hq
section
variable {P : Program} {w : World} {K : Fg} {mg : Str -> Option Value} {base : Heap} {C al : Addr}
def qf (R : Addr) : Sp := fun vs H Q _ => ∃ p dx a : Addr,vs = [.ref p,.ref a] /\ H p = some (.ins R dx []) /\ ∀ H' : Hp,H' p = some (.ins R dx (rf a 0)) -> (∀ b o,H b = some o -> b ≠ p -> H' b = some o) -> Q .non H'
theorem qt : aq ["self","numbers"] ["self","numbers"] (aj eq) := fs
theorem aaE (D : wZ K mg "Reader" al eq ["self","numbers"]) (T : iy K al) : dO P w K mg base 1 "Reader" al ["self","numbers"] (qf al) := by
 refine D.ok qt (fun _ _ _ _ h => by obtain ⟨_,_,_,rfl,_⟩ := h; rfl) (fun q f cdv A outer s H vs Q E hr h => ?_); obtain ⟨p,dx,a,rfl,hp,k⟩ := h
 refine ⟨_,(ad (lm (pv 0) (pv 1) rfl)
  (ae (lm (pv 0) ai rfl))),?_⟩
 refine ⟨_,rfl,_,rfl,p,al,dx,[],rfl,hp,T.cl,T.nN,(by show 0 < 1000; decide),?_⟩; refine ⟨_,rfl,p,al,dx,_,rfl,am,T.cl,T.nR,(by show 1 < 1000; decide),?_⟩; exact k _ (by rw [am,aco]) fun b o e hb => by rw [aK hb,aK hb]; exact e
def kU (K : Fg) (R : Addr) : Sp := fun vs H Q _ => ∃ (r a : Addr) (n : Nat) (zs : List Int),vs = [.ref r] /\ aO R H r a n /\ ag K H a (vi zs) /\ Q (.bl (decide (zs.length <= n))) H
theorem rK : aq ["self"] ["self"] (aj eY) := fs
theorem zI (D : oz K al "is_done" "Reader.is_done" eY ["self"]) (T : Txt K mg C) (TR : iy K al) : gv P w K mg base 1 al "is_done" ["self"] (kU K al) := by
 refine D.ok rK (fun _ _ _ _ h => by obtain ⟨_,_,_,_,rfl,_⟩ := h; rfl) (fun f cdv A outer s H vs Q E hr h => ?_); obtain ⟨r,a,n,zs,rfl,⟨dx,hr⟩,ha,k⟩ := h; refine ⟨_,(ae (ah (lF ml (aD (pv 0) rfl) (bA T.b_len (aD (pv 0) rfl))))),?_⟩; refine ⟨_,rfl,r,al,dx,_,_,rfl,hr,TR.cl,TR.nR,lX a n,_,rfl,r,al,dx,_,_,rfl,hr,TR.cl,TR.nN,tO a n,a,_,rfl,.inl ha,_,_,rfl,rfl,?_⟩; rw [aN]
 have e : decide ((zs.length : Int) <= (n : Int)) = decide (zs.length <= n) := by
  by_cases h : zs.length <= n
  ·rw [decide_eq_true h,decide_eq_true (by omega)]
  ·rw [decide_eq_false h,decide_eq_false (by omega)]
 show Q (.bl (decide ((zs.length : Int) <= (n : Int)))) H; rw [e]; exact k
def fm (K : Fg) (R : Addr) : Sp := fun vs H Q _ => ∃ (r a : Addr) (n : Nat) (zs : List Int) (z : Int),vs = [.ref r] /\ aO R H r a n /\ ag K H a (vi zs) /\ zs[n]? = some z /\ ∀ H',aM r H H' -> aO R H' r a (n + 1) -> (∀ q,H' q = none -> H q = none) -> Q (.int z) H'
theorem sc_Reader_read_whole : aq ["self","number"] ["self"] (aj dL) := fs
theorem vZ (D : oz K al "read_whole" "Reader.read_whole" dL ["self"]) (T : Txt K mg C) (TR : iy K al) : gv P w K mg base 1 al "read_whole" ["self"] (fm K al) := by
 refine D.ok sc_Reader_read_whole (fun _ _ _ _ h => by obtain ⟨_,_,_,_,_,rfl,_⟩ := h; rfl) (fun f cdv A outer s H vs Q E hr h => ?_); obtain ⟨r,a,n,zs,z,rfl,⟨dx,hr⟩,ha,hz,k⟩ := h
 refine ⟨_,(ad (aH 1 sc_Reader_read_whole.nd (au (aD (pv 0) rfl) (aD (pv 0) rfl)))
  (ad (lm (pv 0) (aV cM (aD (pv 0) rfl) ai) rfl)
  (ae (ah (pv 1))))),?_⟩
 refine ⟨_,rfl,r,al,dx,_,_,rfl,hr,TR.cl,TR.nN,tO a n,_,rfl,r,al,dx,_,_,rfl,hr,TR.cl,TR.nR,lX a n,a,_,_,_,rfl,rfl,ha,bC (cy hz),?_⟩; refine ⟨_,rfl,r,al,dx,_,_,rfl,hr,TR.cl,TR.nR,lX a n,_,_,rfl,rfl,_,rfl,r,al,dx,_,rfl,hr,TR.cl,TR.nR,(by show 2 < 1000; decide),_,rfl,?_⟩; refine k _ aM.upd ⟨dx,?_⟩ fun q hq => ?_
 ·rw [am]; have := xa a n (n + 1); rw [Int.natCast_add] at this; exact congrArg (fun z => some (HO.ins al dx z)) this
 ·exact aM.free aM.upd hq ⟨_,am⟩
def sr (K : Fg) (R : Addr) : Sp := fun vs H Q _ => ∃ (r a : Addr) (n m : Nat) (zs : List Int),vs = [.ref r] /\ aO R H r a n /\ ag K H a (vi zs) /\ zs[n]? = some (m : Int) /\ n + 1 + m <= zs.length ∧
 ∀ H' q,aM r H H' -> aO R H' r a (n + 1 + m) -> H q = none -> H' q = some (.lst (vi ((zs.drop (n + 1)).take m))) -> Q (.ref q) H'
theorem sc_Reader_read_row : aq ["self","size","start"] ["self"] (aj eA) := fs
theorem xX (D : oz K al "read_row" "Reader.read_row" eA ["self"]) (T : Txt K mg C) (aA : iy K al) (a7 : gv P w K mg base 1 al "read_whole" ["self"] (fm K al)) : gv P w K mg base 2 al "read_row" ["self"] (sr K al) := by
 refine D.ok sc_Reader_read_row (fun _ _ _ _ h => by obtain ⟨_,_,_,_,_,rfl,_⟩ := h; rfl) (fun f cdv A outer s H vs Q E hr h => ?_); obtain ⟨r,a,n,m,zs,rfl,hR,ha,hz,hl,k⟩ := h; obtain ⟨dx,hr0⟩ := id hR
 refine ⟨_,(ad (aH 1 sc_Reader_read_row.nd (fK aA.cl a7 hr.m (pv 0)))
  (ad (aH 2 sc_Reader_read_row.nd (aD (pv 0) rfl))
  (ad (lm (pv 0) (aV cM (pv 2) (pv 1)) rfl)
  (ae (ah (e_ gf (aD (pv 0) rfl) (eL (pv 2)) (eL (aV cM (pv 2) (pv 1))))))))),?_⟩
 refine ⟨_,rfl,r,dx,_,rfl,hr0,cV _ _ (by decide +kernel) (by decide +kernel),r,a,n,zs,m,rfl,hR,ha,hz,fun H1 k1 hR1 f1 => ?_⟩; obtain ⟨dx1,hr1⟩ := id hR1; have ha1 := aO.seq k1 hR ha; refine ⟨_,rfl,r,al,dx1,_,_,rfl,hr1,aA.cl,aA.nR,lX a (n + 1),?_⟩; refine ⟨_,rfl,_,rfl,_,_,rfl,rfl,_,rfl,r,al,dx1,_,rfl,hr1,aA.cl,aA.nR,(by show 2 < 1000; decide),?_⟩; have k2 : aM r H1 (upd H1 r (.ins al dx1 (cT "reached" (.int (((n + 1 : Nat) : Int) + (m : Int))) (rf a (n + 1))))) := aM.upd
 have hR2 : aO al (upd H1 r (.ins al dx1 (cT "reached" (.int (((n + 1 : Nat) : Int) + (m : Int))) (rf a (n + 1))))) r a (n + 1 + m) := by
  refine ⟨dx1,?_⟩; rw [am]; have := xa a (n + 1) (n + 1 + m); rw [Int.natCast_add (n + 1) m] at this; exact congrArg (fun z => some (HO.ins al dx1 z)) this
 generalize upd H1 r (.ins al dx1 (cT "reached" (.int (((n + 1 : Nat) : Int) + (m : Int))) (rf a (n + 1)))) = H2 at *; obtain ⟨dx2,hr2⟩ := id hR2; have ha2 := aO.seq k2 hR1 ha1; refine ⟨_,rfl,r,al,dx2,_,_,rfl,hr2,aA.cl,aA.nN,tO a (n + 1 + m),_,rfl,_,rfl,_,rfl,_,rfl,_,_,rfl,rfl,_,rfl,a,_,rfl,ha2,fun q hq => ?_⟩
 have e : eN (vi zs) (some ((n + 1 : Nat) : Int)) (some (((n + 1 : Nat) : Int) + (m : Int))) = vi ((zs.drop (n + 1)).take m) := by
  have := vt (vi zs) (n + 1) m (by rw [aN]; omega); rw [Int.natCast_add (n + 1) m] at this; rw [this,uV,yk]
 have hqr : r ≠ q := fun z => by rw [← z,hr2] at hq; cases hq
 refine k _ q ((k1.trans k2).trans (ak.new hq).keep) ⟨dx2,by rw [aK hqr]; exact hr2⟩ (f1 q (aM.free k2 hq ⟨_,hr2⟩)) ?_; rw [am]; exact congrArg (fun z => some (HO.lst z)) e
end
end Go

namespace Go
open PySem PySem.Spec PyProof.Rows L2
def eK (zs : List Int) : Nat -> Nat -> Option (List (List Int) × Nat)
 | 0,n => some ([],n)
 | m + 1,n => match zs[n]? with
  | none => none
  | some z => if 0 <= z /\ n + 1 + z.toNat <= zs.length then (match eK zs m (n + 1 + z.toNat) with
    | none => none
    | some (xs,e) => some ((zs.drop (n + 1)).take z.toNat :: xs,e))
   else none
theorem su {zs : List Int} {m n e : Nat} {X : List (List Int)} (h : eK zs (m + 1) n = some (X,e)) : ∃ (k : Nat) (X' : List (List Int)),zs[n]? = some (k : Int) /\ n + 1 + k <= zs.length /\ eK zs m (n + 1 + k) = some (X',e) /\ X = (zs.drop (n + 1)).take k :: X' := by
 rw [eK] at h
 split at h
 ·cases h
 ·rename_i z hz
  split at h
  ·rename_i hc
   split at h
   ·cases h
   ·rename_i xs e' hr; cases h; exact ⟨z.toNat,xs,by rw [hz]; congr 1; omega,hc.2,hr,rfl⟩
  ·cases h
theorem kR {zs : List Int} : ∀ {m n e : Nat} {X : List (List Int)},eK zs m n = some (X,e) -> X.length = m /\ (n <= zs.length -> e <= zs.length) /\ n <= e
 | 0,n,e,X,h => by
  cases h; exact ⟨rfl,id,Nat.le_refl _⟩
 | m + 1,n,e,X,h => by
  obtain ⟨k,X',h1,h2,h3,rfl⟩ := su h; obtain ⟨g1,g2,g3⟩ := kR h3; exact ⟨by simp [g1],fun _ => g2 h2,by omega⟩
theorem vG {zs : List Int} : ∀ (m n : Nat),PyFlat.rows m (zs.drop n) = (eK zs m n).map fun p => (p.1,zs.drop p.2)
 | 0,n => rfl
 | m + 1,n => by
  rw [PyFlat.rows,eK]
  cases hz : zs[n]? with
  | none =>
   have : zs.drop n = [] := List.drop_eq_nil_iff.mpr (List.getElem?_eq_none_iff.mp hz); rw [this]; rfl
  | some z =>
   obtain ⟨hlt,e⟩ := List.getElem?_eq_some_iff.mp hz; rw [List.drop_eq_getElem_cons hlt,e]; simp only [PyFlat.row,List.length_drop]
   by_cases hc : 0 <= z /\ n + 1 + z.toNat <= zs.length
   ·rw [if_pos hc,if_pos ⟨hc.1,by omega⟩]; simp only []; rw [List.drop_drop,vG m]
    cases eK zs m (n + 1 + z.toNat) with
    | none => rfl
    | some p => rfl
   ·rw [if_neg hc,if_neg (fun z => hc ⟨z.1,by omega⟩)]; rfl
section
variable {P : Program} {w : World} {K : Fg} {mg : Str -> Option Value} {base : Heap} {C al : Addr}
theorem aO.keepNew {R : Addr} {H : Hp} {r a q : Addr} {n : Nat} {o : HO} (h : aO R H r a n) (hq : r ≠ q) : aO R (upd H q o) r a n := by
 obtain ⟨dx,h⟩ := h; exact ⟨dx,by rw [aK hq]; exact h⟩
theorem aO.notLst {R : Addr} {H : Hp} {r a q : Addr} {n : Nat} {xs : List V} (h : aO R H r a n) (hq : H q = some (.lst xs)) : r ≠ q := by
 obtain ⟨dx,h⟩ := h; exact mt h hq (by intro e; cases e)
def n_ (K : Fg) (R : Addr) : Sp := fun vs H Q _ => ∃ (r a : Addr) (n m : Nat) (zs : List Int),vs = [.ref r,.int m] /\ aO R H r a n /\ ag K H a (vi zs) /\ n + m <= zs.length /\ m <= 1000 ∧
 ∀ H' q,aM r H H' -> aO R H' r a (n + m) -> H q = none -> H' q = some (.lst (vi ((zs.drop n).take m))) -> Q (.ref q) H'
theorem sc_read_wholes : aq ["reader","size","wholes","turn"] ["reader","size"] (aj gW) := fs
theorem uz (D : Df K mg "read_wholes" "read_wholes" gW ["reader","size"]) (T : Txt K mg C) (aA : iy K al) (a7 : gv P w K mg base 1 al "read_whole" ["self"] (fm K al)) : Ok P w K mg base 2 "read_wholes" ["reader","size"] (n_ K al) := by
 refine D.ok sc_read_wholes (fun _ _ _ _ h => by obtain ⟨_,_,_,_,_,rfl,_⟩ := h; rfl) (fun f cdv A outer s H vs Q E hr h => ?_); obtain ⟨r,a,n,m,zs,rfl,hR,ha,hl,hm,k⟩ := h
 refine ⟨_,(ad (aH 2 sc_read_wholes.nd (az ac))
  (ad (bQ PassesOwn.never rfl (dX rfl T.b_range (ab (pv 1) ac)) (a0 3 sc_read_wholes.nd) (ae (cE (gn PySem.F.plainAttrs_list PySem.F.slot_list_append PySem.F.type_list_append c7 (pv 2) (ab (fK aA.cl a7 hr.m (pv 0)) ac)))))
  (ae (ah (pv 2))))),?_⟩
 refine ⟨Nat.zero_le _,fun q hq => ?_⟩
 have hrq : r ≠ q := by
  obtain ⟨dx,h⟩ := hR; exact aJ h hq
 refine ⟨_,rfl,_,rfl,by omega,by omega,pS (n := m) (fun i σ H' => ∃ (v : Option V),σ = [some (.ref r),some (.int m),some (.ref q),v] /\ H' q = some (.lst (vi ((zs.drop n).take i))) /\ aO al H' r a (n + i) /\ aM r H H')
  ⟨none,rfl,am,hR.keepNew hrq,(ak.new hq).keep⟩ ?_ ?_⟩
 ·rintro i σ H' hi ⟨v,rfl,hq',hR',kp⟩; have ha' := aO.seq kp hR ha; obtain ⟨dx',hr'⟩ := id hR'; have hz : zs[n + i]? = some (zs.getD (n + i) 0) := lH (by omega); refine ⟨_,rfl,.inl ⟨rfl,_,ag.of hq'⟩,_,rfl,r,dx',_,rfl,hr',cV _ _ (by decide +kernel) (by decide +kernel),r,a,n + i,zs,_,rfl,hR',ha',hz,fun H2 k2 hR2 f2 => ?_⟩; have hq2 := k2 _ _ hq' (Ne.symm hrq); refine ⟨q,_,_,rfl,rfl,hq2,(by rw [aN,List.length_take]; show _ < 2 ^ 24; omega),_,rfl,?_,?_,?_⟩
  ·rw [am]; have : (zs.drop n)[i]? = some (zs.getD (n + i) 0) := by rw [List.getElem?_drop]; exact hz
   rw [bT this,qC]; rfl
  ·exact hR2.keepNew hrq
  ·intro b o e hb
   by_cases hbq : b = q
   ·rw [hbq,hq] at e; cases e
   ·rw [aK hbq]; exact k2 b o (kp b o e hb) hb
 ·rintro σ H' ⟨v,rfl,hq',hR',kp⟩; exact ⟨_,rfl,k H' q kp hR' hq hq'⟩
def qr (H : Hp) (D : Addr) (X : List (List Int)) : Prop := ∃ qs : List Addr,H D = some (.lst (qs.map V.ref)) /\ qs.length = X.length /\ ∀ (i : Nat) q x,qs[i]? = some q -> X[i]? = some x -> q ≠ D /\ H q = some (.lst (vi x))
def qz (K : Fg) (R : Addr) : Sp := fun vs H Q _ => ∃ (r a : Addr) (n m e : Nat) (zs : List Int) (X : List (List Int)),vs = [.ref r,.int m] /\ aO R H r a n /\ ag K H a (vi zs) /\ eK zs m n = some (X,e) /\ m <= 1000 ∧
 ∀ H' q,aM r H H' -> aO R H' r a e -> H q = none -> qr H' q X -> Q (.ref q) H'
theorem sc_read_rows : aq ["reader","size","rows","turn"] ["reader","size"] (aj jF) := fs
theorem wy (D : Df K mg "read_rows" "read_rows" jF ["reader","size"]) (T : Txt K mg C) (aA : iy K al) (gz : gv P w K mg base 2 al "read_row" ["self"] (sr K al)) : Ok P w K mg base 3 "read_rows" ["reader","size"] (qz K al) := by
 refine D.ok sc_read_rows (fun _ _ _ _ h => by obtain ⟨_,_,_,_,_,_,_,rfl,_⟩ := h; rfl) (fun f cdv A outer s H vs Q E hr h => ?_); obtain ⟨r,a,n,m,e,zs,X,rfl,hR,ha,hX,hm,k⟩ := h
 refine ⟨_,(ad (aH 2 sc_read_rows.nd (az ac))
  (ad (bQ PassesOwn.never rfl (dX rfl T.b_range (ab (pv 1) ac)) (a0 3 sc_read_rows.nd) (ae (cE (gn PySem.F.plainAttrs_list PySem.F.slot_list_append PySem.F.type_list_append c7 (pv 2) (ab (fK aA.cl gz hr.m (pv 0)) ac)))))
  (ae (ah (pv 2))))),?_⟩
 refine ⟨Nat.zero_le _,fun q hq => ?_⟩; have hXl := (kR hX).1
 have hrq : r ≠ q := by
  obtain ⟨dx,h⟩ := hR; exact aJ h hq
 refine ⟨_,rfl,_,rfl,by omega,by omega,pS (n := m) (fun i σ H' => ∃ (v : Option V) (ni : Nat),σ = [some (.ref r),some (.int m),some (.ref q),v] /\ qr H' q (X.take i) /\ aO al H' r a ni /\ eK zs (m - i) ni = some (X.drop i,e) /\ aM r H H')
  ⟨none,n,rfl,⟨[],am,rfl,fun i q x h => by simp at h⟩,hR.keepNew hrq,hX,(ak.new hq).keep⟩ ?_ ?_⟩
 ·rintro i σ H' hi ⟨v,ni,rfl,⟨qs,hq',hql,hqs⟩,hR',hX',kp⟩; have ha' := aO.seq kp hR ha; obtain ⟨dx',hr'⟩ := id hR'; have em : m - i = (m - (i + 1)) + 1 := by omega
  rw [em] at hX'; obtain ⟨kk,X',hz,hle,hX2,eX⟩ := su hX'; refine ⟨_,rfl,.inl ⟨rfl,_,ag.of hq'⟩,_,rfl,r,dx',_,rfl,hr',cV _ _ (by decide +kernel) (by decide +kernel),r,a,ni,kk,zs,rfl,hR',ha',hz,hle,fun H2 p k2 hR2 hp hp2 => ?_⟩; have hq2 := k2 _ _ hq' (Ne.symm hrq); have hpq : p ≠ q := fun z => by rw [z,hq'] at hp; cases hp
  have hrp : r ≠ p := fun z => by rw [← z,hr'] at hp; cases hp
  have hXi : X[i]? = some ((zs.drop (ni + 1)).take kk) := by
   have := congrArg (fun l : List (List Int) => l[0]?) eX
   simpa [List.getElem?_drop] using this
  have hqi : qs.length = i := by rw [hql,List.length_take]; omega
  refine ⟨q,_,_,rfl,rfl,hq2,(by rw [List.length_map,hqi]; show _ < 2 ^ 24; omega),_,ni + 1 + kk,rfl,⟨qs ++ [p],?_,?_,?_⟩,hR2.keepNew hrq,?_,?_⟩
  ·rw [am,List.map_append]; rfl
  ·rw [bT hXi,List.length_append,List.length_append,hql]; rfl
  ·intro j u x hu hx
   by_cases hj : j < qs.length
   ·rw [List.getElem?_append_left hj] at hu; rw [bT hXi,List.getElem?_append_left (by rw [← hql]; exact hj)] at hx; obtain ⟨g1,g2⟩ := hqs j u x hu hx; have hur : u ≠ r := fun z => by rw [z,hr'] at g2; cases g2
    exact ⟨g1,by rw [aK g1]; exact k2 _ _ g2 hur⟩
   ·have hj2 : j = qs.length := by
     have := (List.getElem?_eq_some_iff.mp hu).1; simp at this; omega
    subst hj2; rw [List.getElem?_append_right (Nat.le_refl _),Nat.sub_self] at hu; rw [bT hXi,hql,List.getElem?_append_right (Nat.le_refl _),Nat.sub_self] at hx; cases hu; cases hx; exact ⟨hpq,by rw [aK hpq]; exact hp2⟩
  ·rw [hX2]
   have : X.drop (i + 1) = X' := by
    have := congrArg (List.drop 1) eX; rw [List.drop_drop] at this
    simpa using this
   rw [this]
  ·intro b o ee hb
   by_cases hbq : b = q
   ·rw [hbq,hq] at ee; cases ee
   ·rw [aK hbq]; exact k2 b o (kp b o ee hb) hb
 ·rintro σ H' ⟨v,ni,rfl,hrows,hR',hX',kp⟩; rw [Nat.sub_self] at hX'; have en : ni = e := congrArg Prod.snd (Option.some.inj hX'); subst en; rw [← hXl,List.take_length] at hrows; exact ⟨_,rfl,k H' q kp hR' hq hrows⟩
end
end Go

namespace Go
open PySem PySem.Spec PyProof.Rows L2
def j1 (zs : List Int) (n : Nat) : Option (List (List Int) × Nat) := match zs[n]? with
 | none => none
 | some p => match PyYqlnca.shape p with
  | none => none
  | some (k,m) => if zs.length < n + 1 + k then none else match eK zs m (n + 1 + k) with
   | none => none
   | some (xs,e) => some ((p :: (zs.drop (n + 1)).take k) :: xs,e)
theorem z7 {zs : List Int} (n : Nat) : PyFlat.call PyYqlnca.shape (zs.drop n) = (j1 zs n).map fun p => (p.1,zs.drop p.2) := by
 unfold j1
 cases hz : zs[n]? with
 | none =>
  have : zs.drop n = [] := List.drop_eq_nil_iff.mpr (List.getElem?_eq_none_iff.mp hz); rw [this]; rfl
 | some p =>
  obtain ⟨hlt,e⟩ := List.getElem?_eq_some_iff.mp hz; rw [List.drop_eq_getElem_cons hlt,e]; simp only [PyFlat.call]
  cases hs : PyYqlnca.shape p with
  | none => rfl
  | some q =>
   obtain ⟨k,m⟩ := q; simp only [List.length_drop]
   by_cases hc : zs.length < n + 1 + k
   ·rw [if_pos hc,if_pos (by omega)]; rfl
   ·rw [if_neg hc,if_neg (by omega),List.drop_drop,vG]
    cases eK zs m (n + 1 + k) with
    | none => rfl
    | some x => rfl
theorem sk {zs : List Int} {n e : Nat} {c : List (List Int)} (h : j1 zs n = some (c,e)) : ∃ p k m xs,zs[n]? = some p /\ PyYqlnca.shape p = some (k,m) /\ n + 1 + k <= zs.length /\ eK zs m (n + 1 + k) = some (xs,e) /\ c = (p :: (zs.drop (n + 1)).take k) :: xs := by
 unfold j1 at h
 split at h
 ·cases h
 ·rename_i p hp
  split at h
  ·cases h
  ·rename_i k m hs
   split at h
   ·cases h
   ·rename_i hl
    split at h
    ·cases h
    ·rename_i xs e' hr; cases h; exact ⟨p,k,m,xs,hp,hs,by omega,hr,rfl⟩
def acZ (l r : Addr) (H H' : Hp) : Prop := ∀ b o,H b = some o -> b ≠ l -> b ≠ r -> H' b = some o
def cB (t : Ay.State) (c : List (List Int)) : Ay.State × List Int := AyNeutral.step t (PyYqlnca.whole c)
def oA (K : Fg) (C R : Addr) : Sp := fun vs H Q _ => ∃ (l r a : Addr) (t : Ay.State) (zs : List Int) (n e : Nat) (c : List (List Int)),vs = [.ref l,.ref r] /\ aB C H l t /\ aO R H r a n /\ ag K H a (vi zs) /\ j1 zs n = some (c,e) /\ PyInside.call PyYqlnca.bound c = true /\ AyNeutral.asked1 (PyYqlnca.whole c) = true ∧
 ∀ H' p,acZ l r H H' -> aB C H' l (cB t c).1 -> aO R H' r a e -> H p = none -> H' p = some (.lst (vi (cB t c).2)) -> Q (.ref p) H'
section
variable {P : Program} {w : World} {K : Fg} {mg : Str -> Option Value} {base : Heap} {C al : Addr}
theorem aaB {f : Nat} {cs : List (List (List Int))} (h : PyFlat.calls PyYqlnca.shape f [] = some cs) : cs = [] := by
 cases f <;> (rw [PyFlat.calls] at h; exact (Option.some.inj h).symm)
theorem yN {zs : List Int} {n f : Nat} {cs : List (List (List Int))} (hn : n < zs.length) (h : PyFlat.calls PyYqlnca.shape f (zs.drop n) = some cs) : ∃ c e f' cs',j1 zs n = some (c,e) /\ PyFlat.calls PyYqlnca.shape f' (zs.drop e) = some cs' /\ cs = c :: cs' := by
 have hd : zs.drop n = zs[n] :: zs.drop (n + 1) := List.drop_eq_getElem_cons hn
 cases f with
 | zero => rw [hd,PyFlat.calls] at h; cases h
 | succ f =>
  rw [hd,PyFlat.calls,← hd,z7] at h
  cases hc : j1 zs n with
  | none => rw [hc] at h; cases h
  | some q =>
   obtain ⟨c,e⟩ := q; rw [hc] at h; simp only [Option.map_some] at h
   cases hr : PyFlat.calls PyYqlnca.shape f (zs.drop e) with
   | none => rw [hr] at h; cases h
   | some cs' =>
    rw [hr] at h; exact ⟨c,e,f,cs',rfl,hr,(Option.some.inj h).symm⟩
theorem zw {zs : List Int} {n e : Nat} {c : List (List Int)} (h : j1 zs n = some (c,e)) : e <= zs.length := by
 obtain ⟨p,k,m,xs,h1,h2,h3,h4,h5⟩ := sk h; exact (kR h4).2.1 h3
theorem zX (a : List Int) (r : List (List Int)) : PyFlat.told (a :: r) = ((a.length : Int) :: a) ++ PyFlat.told r := by
 unfold PyFlat.told; rw [List.flatMap_cons]
def iA (t : Ay.State) (cs : List (List (List Int))) : List Int := PyFlat.told (PyFlat.played AyNeutral.step t (cs.map PyYqlnca.whole))
theorem abi (t : Ay.State) : iA t [] = [] := rfl
theorem aay (t : Ay.State) (c : List (List Int)) (cs : List (List (List Int))) : iA t (c :: cs) = (((cB t c).2.length : Int) :: (cB t c).2) ++ iA (cB t c).1 cs := by
 unfold iA; rw [List.map_cons,PyFlat.played,zX]; rfl
theorem sc_answers : aq ["calls","slots","reader","told","answer"] ["calls"] (aj mv) := fs
theorem zL {f : Addr} {fd : FuncData} (F : qQ K "answers" "answers" mv f fd) (T : Txt K mg C) (aA : iy K al) (j7 : Ok P w K mg base 1 "empty_slots" [] (oy C)) (i8 : dO P w K mg base 1 "Reader" al ["self","numbers"] (qf al)) (bN : gv P w K mg base 1 al "is_done" ["self"] (kU K al)) (kz : Ok P w K mg base 11 "next_answer" ["slots","reader"] (oA K C al)) : f7 P w K mg base pB 12 f fd ["calls"] (o0 K) := by
 refine F.ok sc_answers (fun _ _ _ _ h => by obtain ⟨_,_,rfl,_⟩ := h; rfl) (fun cdv A outer s H vs Q E hr h => ?_); obtain ⟨a,zs,rfl,ha,hask,k⟩ := h
 refine ⟨_,(ad (aH 1 sc_answers.nd (adc j7 hr.m rfl))
  (ad (aH 2 sc_answers.nd (dZ i8 hr (ab (pv 0) ac)))
  (ad (aH 3 sc_answers.nd (az ac))
  (ad (sX PassesOwn.never (bw (bg (fK aA.cl bN hr.m (pv 2)))) (ad (acf (aH 4 sc_answers.nd (ap kz hr (ab (pv 1) (ab (pv 2) ac)))))
  (ad (cE (gn PySem.F.plainAttrs_list PySem.F.slot_list_append PySem.F.type_list_append c7 (pv 3) (ab (bA T.b_len (pv 4)) ac)))
  (ae (cE (gn PySem.F.plainAttrs_list PySem.F.slot_list_extend PySem.F.type_list_extend vE (pv 3) (ab (pv 4) ac)))))))
  (ae (ah (pv 3))))))),?_⟩
 unfold PyYqlnca.answers_asked at hask
 cases hraw : PyFlat.calls PyYqlnca.shape zs.length zs with
 | none => rw [hraw] at hask; cases hask
 | some raw =>
  rw [hraw] at hask; simp only [Bool.and_eq_true] at hask; obtain ⟨⟨⟨⟨_,_⟩,hins⟩,hasked⟩,hshort⟩ := hask; have hshort : (PyYqlnca.answers zs).length <= 10000000 := of_decide_eq_true hshort; have hins : ∀ c ∈ raw,PyInside.call PyYqlnca.bound c = true := List.all_eq_true.mp hins
  have hask1 : ∀ c ∈ raw,AyNeutral.asked1 (PyYqlnca.whole c) = true := fun c hc => by
   unfold AyNeutral.asked at hasked; rw [Bool.and_eq_true] at hasked; exact List.all_eq_true.mp hasked.1 _ (List.mem_map.mpr ⟨c,hc,rfl⟩)
  have hans : PyYqlnca.answers zs = iA Ay.start raw := by
   unfold PyYqlnca.answers PyYqlnca.calls; rw [hraw]; rfl
  rw [hans] at hshort k; refine ⟨rfl,fun H1 l s1 hl S1 => ?_⟩; refine ⟨_,rfl,fun r dx hr2 hdx hne => ?_⟩; refine ⟨r,dx,a,rfl,am,fun H2 h1 h2 => ⟨rfl,?_⟩⟩; have s2 : ak H1 H2 := ak.made hr2 hdx h2; have hR2 : aO al H2 r a 0 := ⟨dx,h1⟩; clear h1 h2; refine ⟨Nat.zero_le _,fun d hd => ?_⟩
  have hrd : r ≠ d := by
   obtain ⟨dx,h⟩ := hR2; exact aJ h hd
  have hld : l ≠ d := by
   obtain ⟨vs,h,_⟩ := S1.ex; exact aJ (s2 _ _ h) hd
  have s3 : ak H2 (upd H2 d (.lst [])) := ak.new hd; have hd0 : H d = none := (s1.trans s2).free hd
  have had : a ≠ d \/ ∀ H'' : Hp,ag K H'' a (vi zs) := by
   rcases ha with (h | ⟨ob,h⟩) | h
   ·exact .inl (aJ h hd0)
   ·exact .inl (aJ h hd0)
   ·exact .inr fun _ => .inr h
  have ha0 : ∀ H'' : Hp,aM d (upd H2 d (.lst [])) H'' -> ag K H'' a (vi zs) := fun H'' kk => by
   rcases ha with (h | ⟨ob,h⟩) | h
   ·exact .inl (.inl (kk _ _ (s3 _ _ (s2 _ _ (s1 _ _ h))) (aJ h hd0)))
   ·exact .inl (.inr ⟨ob,kk _ _ (s3 _ _ (s2 _ _ (s1 _ _ h))) (aJ h hd0)⟩)
   ·exact .inr h
  have S0 : ∀ H'' : Hp,aM d (upd H2 d (.lst [])) H'' -> aB C H'' l Ay.start := fun H'' kk => by
   obtain ⟨vs,h,h2,h3,h4⟩ := S1.ex; refine ⟨vs,kk _ _ (s3 _ _ (s2 _ _ h)) hld,h2,h3,fun i v o e1 e2 => ?_⟩; have := h4 i v o e1 e2
   cases o with
   | none => exact this
   | some A =>
    obtain ⟨x,ex,⟨dx,a1,b1,g1,g2,g3⟩,q6⟩ := this; exact ⟨x,ex,⟨dx,a1,b1,kk _ _ (s3 _ _ (s2 _ _ g1)) (aJ (s2 _ _ g1) hd),kk _ _ (s3 _ _ (s2 _ _ g2)) (aJ (s2 _ _ g2) hd),kk _ _ (s3 _ _ (s2 _ _ g3)) (aJ (s2 _ _ g3) hd)⟩,q6⟩
  refine ⟨fun m σ H' => ∃ (n f : Nat) (t : Ay.State) (out : List Int) (cs : List (List (List Int))) (v : Option V),m = cs.length /\ σ = [some (.ref a),some (.ref l),some (.ref r),some (.ref d),v] /\ (∀ H'' : Hp,aM d H' H'' -> ag K H'' a (vi zs)) /\ H' d = some (.lst (vi out)) /\ (∀ H'' : Hp,aM d H' H'' -> aB C H'' l t) /\ aO al H' r a n /\ n <= zs.length /\ PyFlat.calls PyYqlnca.shape f (zs.drop n) = some cs /\ (∀ c ∈ cs,c ∈ raw) /\ out ++ iA t cs = iA Ay.start raw,
   ⟨raw.length,0,zs.length,Ay.start,[],raw,none,rfl,rfl,ha0,am,S0,hR2.keepNew hrd,Nat.zero_le _,hraw,fun _ h => h,rfl⟩,?_⟩
  rintro m σ H' ⟨n,f,t,out,cs,v,rfl,rfl,ha',hd',S',hR',hn,hcs,hsub,hout⟩; obtain ⟨dx',hr'⟩ := id hR'; have kid : aM d H' H' := (ak.refl H').keep; refine ⟨_,rfl,r,dx',_,rfl,hr',cV _ _ (by decide +kernel) (by decide +kernel),r,a,n,zs,rfl,hR',ha' _ kid,_,rfl,?_⟩
  by_cases hdone : zs.length <= n
  ·rw [decide_eq_true hdone]; refine ⟨_,rfl,?_⟩; have hnil : zs.drop n = [] := List.drop_eq_nil_iff.mpr hdone; rw [hnil] at hcs; rw [aaB hcs,abi,List.append_nil] at hout; rw [hout] at hd'; exact k H' d hd'
  ·rw [decide_eq_false hdone]; obtain ⟨c,e,f',cs',hc,hcs',rfl⟩ := yN (by omega) hcs; rw [aay] at hout
   have hlen : out.length + (1 + (cB t c).2.length) <= 10000000 := by
    have := congrArg List.length hout; rw [List.length_append,List.length_append,List.length_cons] at this; omega
   refine ⟨fun σ' H'' => ∃ m',m' < (c :: cs').length /\ ∃ (n f : Nat) (t : Ay.State) (out : List Int) (cs : List (List (List Int))) (v : Option V),m' = cs.length /\ σ' = [some (.ref a),some (.ref l),some (.ref r),some (.ref d),v] /\ (∀ H3 : Hp,aM d H'' H3 -> ag K H3 a (vi zs)) /\ H'' d = some (.lst (vi out)) /\ (∀ H3 : Hp,aM d H'' H3 -> aB C H3 l t) /\ aO al H'' r a n /\ n <= zs.length /\ PyFlat.calls PyYqlnca.shape f (zs.drop n) = some cs /\ (∀ c ∈ cs,c ∈ raw) /\ out ++ iA t cs = iA Ay.start raw,fun _ _ h => h,?_⟩; have hcr := hsub c (List.mem_cons_self ..); refine ⟨d,.lst (vi out),hd',trivial,fun od => ?_⟩; have kL : aM d H' (upd H' d (.frz od (.lst (vi out)))) := aM.upd; have hdL : (upd H' d (.frz od (.lst (vi out)))) d = some (.frz od (.lst (vi out))) := am; have SL := S' _ kL; have haL := ha' _ kL; have hRL : aO al (upd H' d (.frz od (.lst (vi out)))) r a n := hR'.keepNew hrd; generalize upd H' d (.frz od (.lst (vi out))) = HL at *; obtain ⟨dxL,hrL⟩ := id hRL; refine ⟨_,rfl,_,rfl,l,r,a,t,zs,n,e,c,rfl,SL,hRL,haL,hc,hins c hcr,hask1 c hcr,fun H3 p k3 S3 hR3 hp hp3 => ?_⟩; obtain ⟨dx3,hr3⟩ := id hR3; obtain ⟨wsL,hlL,_⟩ := id SL.ex; have hd3 : H3 d = some (.frz od (.lst (vi out))) := k3 _ _ hdL hld.symm hrd.symm
   have ha3 : ∀ H'' : Hp,aM d H3 H'' -> ag K H'' a (vi zs) := fun H'' kk => by
    rcases had with had | had
    ·rcases haL with (h | ⟨ob,h⟩) | h
     ·exact .inl (.inl (kk _ _ (k3 _ _ h (SL.apart h) (aO.notLst hRL h).symm) had))
     ·exact .inl (.inr ⟨ob,kk _ _ (k3 _ _ h (fun e => by rw [e,hlL] at h; cases h) (fun e => by rw [e,hrL] at h; cases h)) had⟩)
     ·exact .inr h
    ·exact had H''
   have S3' : ∀ H'' : Hp,aM d H3 H'' -> aB C H'' l (cB t c).1 := fun H'' kk => by
    obtain ⟨us,q1,q2,q3,q4⟩ := S3.ex; refine ⟨us,kk _ _ q1 hld,q2,q3,fun i v o e1 e2 => ?_⟩; have q5 := q4 i v o e1 e2
    cases o with
    | none => exact q5
    | some A =>
     obtain ⟨x,ex,⟨dx,a1,b1,g1,g2,g3⟩,q6⟩ := q5
     have nd : ∀ {b : Addr} {ob : HO},H3 b = some ob -> (∀ o u,ob ≠ .frz o u) -> b ≠ d := fun {b ob} h hne z => by
      rw [z,hd3] at h; exact hne _ _ (Option.some.inj h).symm
     exact ⟨x,ex,⟨dx,a1,b1,kk _ _ g1 (nd g1 (by intro _ _ z; cases z)),kk _ _ g2 (nd g2 (by intro _ _ z; cases z)),kk _ _ g3 (nd g3 (by intro _ _ z; cases z))⟩,q6⟩
   refine ⟨hd3,?_⟩; have hpd : p ≠ d := fun z => by rw [z,hdL] at hp; cases hp
   have k4 : aM d H3 (upd H3 d (.lst (vi out))) := aM.upd; have hd4 : (upd H3 d (.lst (vi out))) d = some (.lst (vi out)) := am; generalize upd H3 d (.lst (vi out)) = H4 at *; have hp4 := k4 _ _ hp3 hpd; refine ⟨_,rfl,.inl ⟨rfl,_,ag.of hd4⟩,_,rfl,p,_,rfl,.inl (ag.of hp4),d,_,_,rfl,rfl,hd4,(by rw [aN]; show _ < 2 ^ 24; omega),?_⟩
   have hd5 : (upd H4 d (.lst (vi out ++ [.int ((vi (cB t c).2).length : Nat)]))) d = some (.lst (vi (out ++ [((cB t c).2.length : Int)]))) := by
    rw [am,qC,aN]; rfl
   have k5 : aM d H3 (upd H4 d (.lst (vi out ++ [.int ((vi (cB t c).2).length : Nat)]))) := k4.trans aM.upd; generalize upd H4 d (.lst (vi out ++ [.int ((vi (cB t c).2).length : Nat)])) = H5 at *; have hp5 := k5 _ _ hp3 hpd; refine ⟨_,rfl,.inl ⟨rfl,_,ag.of hd5⟩,_,rfl,d,p,_,_,rfl,rfl,hd5,hp5,(by rw [aN,aN,List.length_append]; show _ <= 2 ^ 24; simp only [List.length_cons,List.length_nil]; omega),?_⟩; have k6 : aM d H3 (upd H5 d (.lst (vi (out ++ [((cB t c).2.length : Int)]) ++ vi (cB t c).2))) := k5.trans aM.upd
   have hd6 : (upd H5 d (.lst (vi (out ++ [((cB t c).2.length : Int)]) ++ vi (cB t c).2))) d = some (.lst (vi (out ++ [((cB t c).2.length : Int)] ++ (cB t c).2))) := by
    rw [am,qC (out ++ _)]
   generalize upd H5 d (.lst (vi (out ++ [((cB t c).2.length : Int)]) ++ vi (cB t c).2)) = H6 at *; refine ⟨cs'.length,by simp,e,f',(cB t c).1,out ++ [((cB t c).2.length : Int)] ++ (cB t c).2,cs',_,rfl,rfl,fun H'' kk => ha3 _ (k6.trans kk),hd6,fun H'' kk => S3' _ (k6.trans kk),⟨dx3,k6 _ _ hr3 hrd⟩,zw hc,hcs',fun c' h' => hsub c' (List.mem_cons_of_mem _ h'),?_⟩; rw [← hout,List.append_assoc,List.append_assoc]; rfl
end
end Go

namespace Go
open PySem PySem.Spec PyProof.Rows L2
theorem yK {r : List Int} (h : ∀ z ∈ r,0 <= z) : vi r = vn (AyNeutral.nats r) := by
 show List.map V.int r = List.map V.int (List.map _ (List.map _ r)); congr 1
 induction r with
 | nil => rfl
 | cons x r ih =>
  rw [List.map_cons,List.map_cons,← ih fun z hz => h z (List.mem_cons_of_mem _ hz)]; have := h x (List.mem_cons_self ..); congr 1; omega
theorem yY {r : List Int} (h : ∀ z ∈ r,z <= 4294967295) : ∀ n ∈ AyNeutral.nats r,n < 2 ^ 63 := fun n hn => by
 obtain ⟨z,hz,e⟩ := List.mem_map.mp hn; have := h z hz; omega
def yU (C : Addr) (H : Hp) (l : Addr) (r : Ay.State × List Int) (Q : VK) : Prop :=
 ∀ (H' : Hp) (p : Addr),aM l H H' -> aB C H' l r.1 -> H p = none -> H' p = some (.lst (vi r.2)) -> Q (.ref p) H'
def dh (C : Addr) (lo hi : Int) : Sp := fun vs H Q _ => ∃ (l wa ra : Addr) (t : Ay.State) (p : Int) (W : List Int) (X : List (List Int)),vs = [.ref l,.int p,.ref wa,.ref ra] /\ aB C H l t /\ H wa = some (.lst (vi W)) /\ qr H ra X /\ lo <= p /\ p <= hi /\ Ma.bS p W X /\ yU C H l (AyNeutral.step t ((p :: W) :: X)) Q
theorem yU.of {C : Addr} {H : Hp} {l : Addr} {t : Ay.State} {c : List (List Int)} {x : Ay.Call} {Q : VK} (k : yU C H l (AyNeutral.step t c) Q) (h : AyNeutral.callOf c = some x) : aQ C H l (Ay.step t x) Q := by
 have e : AyNeutral.step t c = ((Ay.step t x).1,AyNeutral.told (Ay.step t x).2) := by
  unfold AyNeutral.step; rw [h]
 rw [e] at k; exact k
theorem qr.row {H : Hp} {D : Addr} {X : List (List Int)} (h : qr H D X) {i : Nat} {x : List Int} (hx : X[i]? = some x) : ∃ vs q,H D = some (.lst vs) /\ vs[i]? = some (.ref q) /\ H q = some (.lst (vi x)) := by
 obtain ⟨qs,h1,h2,h3⟩ := h; have hi : i < qs.length := by rw [h2]; exact (List.getElem?_eq_some_iff.mp hx).1
 have e : qs[i]? = some qs[i] := List.getElem?_eq_getElem hi; exact ⟨_,qs[i],h1,by rw [List.getElem?_map,e]; rfl,(h3 i _ x e hx).2⟩
section
variable {P : Program} {w : World} {K : Fg} {mg : Str -> Option Value} {base : Heap} {C al : Addr}
theorem hJ {H : Hp} {q : Addr} {r : List Int} (h : H q = some (.lst (vi r))) (hn : Ma.pf r) : H q = some (.lst (vn (AyNeutral.nats r))) := by
 rw [h,yK fun z hz => (hn.1 z hz).1]
theorem rp {r : List Int} (hn : Ma.pf r) : ∀ n ∈ AyNeutral.nats r,n < 2 ^ 63 := yY fun z hz => (hn.1 z hz).2
theorem sW : aq ["slots","call","wholes","rows"] ["slots","call","wholes","rows"] (aj fF) := fs
theorem sE (D : Df K mg "making_answer" "making_answer" fF ["slots","call","wholes","rows"]) (T : Txt K mg C) (nF : Ok P w K mg base 3 "call_make" ["slots","k","lengths","cells"] (qN C)) (m6 : Ok P w K mg base 3 "call_fill" ["slots","k","v","lengths"] (pX C)) (lZ : Ok P w K mg base 3 "call_count" ["slots","k","start","step","lengths"] (pC C)) (mV : Ok P w K mg base 2 "call_drop" ["slots","k"] (qY C)) : Ok P w K mg base 4 "making_answer" ["slots","call","wholes","rows"] (dh C 1 4) := by
 refine D.ok sW (fun _ _ _ _ h => by obtain ⟨_,_,_,_,_,_,_,rfl,_⟩ := h; rfl) (fun f cdv A outer s H vs Q E hr h => ?_); obtain ⟨l,wa,ra,t,p,W,X,rfl,S,hW,hX,hlo,hhi,hV,k⟩ := h
 refine ⟨_,(ad (aw (aE bB (pv 1) ai) (ae (ah (ap nF hr (ab (pv 0) (ab (au (pv 2) ai) (ab (au (pv 3) ai) (ab (au (pv 3) ai) ac))))))) ao)
  (ad (aw (aE bB (pv 1) ai) (ae (ah (ap m6 hr (ab (pv 0) (ab (au (pv 2) ai) (ab (au (pv 2) ai) (ab (au (pv 3) ai) ac))))))) ao)
  (ad (aw (aE bB (pv 1) ai) (ae (ah (ap lZ hr (ab (pv 0) (ab (au (pv 2) ai) (ab (au (pv 2) ai) (ab (au (pv 2) ai) (ab (au (pv 3) ai) ac)))))))) ao)
  (ae (ah (ap mV hr (ab (pv 0) (ab (au (pv 2) ai) ac)))))))),?_⟩
 refine ⟨_,rfl,rfl,_,rfl,a_ (fun h => ?_) (fun h => ?_)⟩
 ·cases (V.int.inj (of_decide_eq_true h) : p = 1); obtain ⟨x0,r0,r1,rfl,rfl,hr0,hr1,hc⟩ := Ma.aee hV; obtain ⟨vs0,q0,g0,g0',hq0⟩ := hX.row (i := 0) rfl; obtain ⟨vs1,q1,g1,g1',hq1⟩ := hX.row (i := 1) rfl; exact ⟨_,rfl,_,rfl,wa,_,_,_,rfl,rfl,ag.of hW,rfl,_,rfl,ra,vs0,_,_,rfl,rfl,ag.of g0,dU (j := 0) rfl g0',_,rfl,ra,vs1,_,_,rfl,rfl,ag.of g1,dU (j := 1) rfl g1',l,q0,q1,t,x0,AyNeutral.nats r0,r1,rfl,S,hJ hq0 hr0,hq1,rp hr0,k.of hc⟩
 refine ⟨_,rfl,rfl,_,rfl,a_ (fun h => ?_) (fun h => ?_)⟩
 ·cases (V.int.inj (of_decide_eq_true h) : p = 2); obtain ⟨x0,x1,r0,rfl,rfl,hr0,hc⟩ := Ma.ad5 hV; obtain ⟨vs0,q0,g0,g0',hq0⟩ := hX.row (i := 0) rfl; exact ⟨_,rfl,_,rfl,wa,_,_,_,rfl,rfl,ag.of hW,rfl,_,rfl,wa,_,_,_,rfl,rfl,ag.of hW,rfl,_,rfl,ra,vs0,_,_,rfl,rfl,ag.of g0,dU (j := 0) rfl g0',l,q0,t,x0,x1,AyNeutral.nats r0,rfl,S,hJ hq0 hr0,rp hr0,k.of hc⟩
 refine ⟨_,rfl,rfl,_,rfl,a_ (fun h => ?_) (fun h => ?_)⟩
 ·cases (V.int.inj (of_decide_eq_true h) : p = 3); obtain ⟨x0,x1,x2,r0,rfl,rfl,hr0,hc⟩ := Ma.adF hV; obtain ⟨vs0,q0,g0,g0',hq0⟩ := hX.row (i := 0) rfl; exact ⟨_,rfl,_,rfl,wa,_,_,_,rfl,rfl,ag.of hW,rfl,_,rfl,wa,_,_,_,rfl,rfl,ag.of hW,rfl,_,rfl,wa,_,_,_,rfl,rfl,ag.of hW,rfl,_,rfl,ra,vs0,_,_,rfl,rfl,ag.of g0,dU (j := 0) rfl g0',l,q0,t,x0,x1,x2,AyNeutral.nats r0,rfl,S,hJ hq0 hr0,rp hr0,k.of hc⟩
 ·have hp : p = 4 := by
   have h1 : ¬ p = 1 := fun e => by simp_all
   have h2 : ¬ p = 2 := fun e => by simp_all
   have h3 : ¬ p = 3 := fun e => by simp_all
   omega
  subst hp; obtain ⟨x0,rfl,rfl,hc⟩ := Ma.aec hV; exact ⟨_,rfl,_,rfl,wa,_,_,_,rfl,rfl,ag.of hW,rfl,l,t,x0,rfl,S,k.of hc⟩
end
end Go

namespace Go
open PySem PySem.Spec PyProof.Rows L2
theorem acV {C R dx dy a b c : Addr} {n : Nat} : HO.ins C dx (af a b) ≠ HO.ins R dy (rf c n) := fun e => by
 have e2 : af a b = rf c n := (HO.ins.inj e).2.2; have h1 := aU a b; rw [e2,cV c n (by decide +kernel) (by decide +kernel)] at h1; cases h1
theorem aB.keepR {C R : Addr} {H H' : Hp} {l r a : Addr} {n : Nat} {t : Ay.State} (S : aB C H l t) (hR : aO R H r a n) (k : aM r H H') : aB C H' l t := by
 obtain ⟨dx,hr⟩ := hR; obtain ⟨vs,h1,h2,h3,h4⟩ := S.ex; refine ⟨vs,k _ _ h1 (mt h1 hr (by intro z; cases z)),h2,h3,fun i v o e1 e2 => ?_⟩; have h5 := h4 i v o e1 e2
 cases o with
 | none => exact h5
 | some A =>
  obtain ⟨x,ex,⟨dy,a1,b1,g1,g2,g3⟩,ho⟩ := h5; exact ⟨x,ex,⟨dy,a1,b1,k _ _ g1 (mt g1 hr acV),k _ _ g2 (mt g2 hr (by intro z; cases z)),k _ _ g3 (mt g3 hr (by intro z; cases z))⟩,ho⟩
section
variable {P : Program} {w : World} {K : Fg} {mg : Str -> Option Value} {base : Heap} {C al : Addr}
theorem rN : aq ["slots","call","wholes","rows"] ["slots","call","wholes","rows"] (aj eZ) := fs
theorem rR (D : Df K mg "telling_answer" "telling_answer" eZ ["slots","call","wholes","rows"]) (T : Txt K mg C) (lp : Ok P w K mg base 2 "call_shape" ["slots","i"] (pz C)) (lh : Ok P w K mg base 2 "call_cells" ["slots","i"] (pL C)) (qu : Ok P w K mg base 3 "call_at" ["slots","i","place"] (tp K C)) (oS : Ok P w K mg base 3 "call_set" ["slots","i","v","place"] (sn K C)) : Ok P w K mg base 4 "telling_answer" ["slots","call","wholes","rows"] (dh C 5 8) := by
 refine D.ok rN (fun _ _ _ _ h => by obtain ⟨_,_,_,_,_,_,_,rfl,_⟩ := h; rfl) (fun f cdv A outer s H vs Q E hr h => ?_); obtain ⟨l,wa,ra,t,p,W,X,rfl,S,hW,hX,hlo,hhi,hV,k⟩ := h
 refine ⟨_,(ad (aw (aE bB (pv 1) ai) (ae (ah (ap lp hr (ab (pv 0) (ab (au (pv 2) ai) ac))))) ao)
  (ad (aw (aE bB (pv 1) ai) (ae (ah (ap lh hr (ab (pv 0) (ab (au (pv 2) ai) ac))))) ao)
  (ad (aw (aE bB (pv 1) ai) (ae (ah (ap qu hr (ab (pv 0) (ab (au (pv 2) ai) (ab (au (pv 3) ai) ac)))))) ao)
  (ae (ah (ap oS hr (ab (pv 0) (ab (au (pv 2) ai) (ab (au (pv 2) ai) (ab (au (pv 3) ai) ac)))))))))),?_⟩
 refine ⟨_,rfl,rfl,_,rfl,a_ (fun h => ?_) (fun h => ?_)⟩
 ·cases (V.int.inj (of_decide_eq_true h) : p = 5); obtain ⟨x0,rfl,rfl,hc⟩ := Ma.ad0 hV; exact ⟨_,rfl,_,rfl,wa,_,_,_,rfl,rfl,ag.of hW,rfl,l,t,x0,rfl,S,k.of hc⟩
 refine ⟨_,rfl,rfl,_,rfl,a_ (fun h => ?_) (fun h => ?_)⟩
 ·cases (V.int.inj (of_decide_eq_true h) : p = 6); obtain ⟨x0,rfl,rfl,hc⟩ := Ma.aeb hV; exact ⟨_,rfl,_,rfl,wa,_,_,_,rfl,rfl,ag.of hW,rfl,l,t,x0,rfl,S,k.of hc⟩
 refine ⟨_,rfl,rfl,_,rfl,a_ (fun h => ?_) (fun h => ?_)⟩
 ·cases (V.int.inj (of_decide_eq_true h) : p = 7); obtain ⟨x0,r0,rfl,rfl,hr0,hc⟩ := Ma.adO hV; obtain ⟨vs0,q0,g0,g0',hq0⟩ := hX.row (i := 0) rfl; exact ⟨_,rfl,_,rfl,wa,_,_,_,rfl,rfl,ag.of hW,rfl,_,rfl,ra,vs0,_,_,rfl,rfl,ag.of g0,dU (j := 0) rfl g0',l,q0,t,x0,AyNeutral.nats r0,rfl,S,ag.of (hJ hq0 hr0),k.of hc⟩
 ·have hp : p = 8 := by
   have h1 : ¬ p = 5 := fun e => by simp_all
   have h2 : ¬ p = 6 := fun e => by simp_all
   have h3 : ¬ p = 7 := fun e => by simp_all
   omega
  subst hp; obtain ⟨x0,x1,r0,rfl,rfl,hr0,hc⟩ := Ma.ad7 hV; obtain ⟨vs0,q0,g0,g0',hq0⟩ := hX.row (i := 0) rfl; exact ⟨_,rfl,_,rfl,wa,_,_,_,rfl,rfl,ag.of hW,rfl,_,rfl,wa,_,_,_,rfl,rfl,ag.of hW,rfl,_,rfl,ra,vs0,_,_,rfl,rfl,ag.of g0,dU (j := 0) rfl g0',l,q0,t,x0,x1,AyNeutral.nats r0,rfl,S,ag.of (hJ hq0 hr0),k.of hc⟩
theorem rH : aq ["slots","call","wholes","rows"] ["slots","call","wholes","rows"] (aj fe) := fs
theorem rO (D : Df K mg "section_answer" "section_answer" fe ["slots","call","wholes","rows"]) (T : Txt K mg C) (j9 : Ok P w K mg base 4 "call_spread" ["slots","k","i","lengths"] (on C)) (oU : Ok P w K mg base 4 "call_cut" ["slots","k","i","cuts"] (ss K C)) (oJ : Ok P w K mg base 4 "call_put" ["slots","i","j","cuts"] (r9 K C)) : Ok P w K mg base 5 "section_answer" ["slots","call","wholes","rows"] (dh C 9 11) := by
 refine D.ok rH (fun _ _ _ _ h => by obtain ⟨_,_,_,_,_,_,_,rfl,_⟩ := h; rfl) (fun f cdv A outer s H vs Q E hr h => ?_); obtain ⟨l,wa,ra,t,p,W,X,rfl,S,hW,hX,hlo,hhi,hV,k⟩ := h
 refine ⟨_,(ad (aw (aE bB (pv 1) ai) (ae (ah (ap j9 hr (ab (pv 0) (ab (au (pv 2) ai) (ab (au (pv 2) ai) (ab (au (pv 3) ai) ac))))))) ao)
  (ad (aw (aE bB (pv 1) ai) (ae (ah (ap oU hr (ab (pv 0) (ab (au (pv 2) ai) (ab (au (pv 2) ai) (ab (au (pv 3) ai) ac))))))) ao)
  (ae (ah (ap oJ hr (ab (pv 0) (ab (au (pv 2) ai) (ab (au (pv 2) ai) (ab (au (pv 3) ai) ac))))))))),?_⟩
 refine ⟨_,rfl,rfl,_,rfl,a_ (fun h => ?_) (fun h => ?_)⟩
 ·cases (V.int.inj (of_decide_eq_true h) : p = 9); obtain ⟨x0,x1,r0,rfl,rfl,hr0,hc⟩ := Ma.adV hV; obtain ⟨vs0,q0,g0,g0',hq0⟩ := hX.row (i := 0) rfl; exact ⟨_,rfl,_,rfl,wa,_,_,_,rfl,rfl,ag.of hW,rfl,_,rfl,wa,_,_,_,rfl,rfl,ag.of hW,rfl,_,rfl,ra,vs0,_,_,rfl,rfl,ag.of g0,dU (j := 0) rfl g0',l,q0,t,x0,x1,AyNeutral.nats r0,rfl,S,hJ hq0 hr0,rp hr0,k.of hc⟩
 refine ⟨_,rfl,rfl,_,rfl,a_ (fun h => ?_) (fun h => ?_)⟩
 ·cases (V.int.inj (of_decide_eq_true h) : p = 10); obtain ⟨x0,x1,r0,rfl,rfl,hr0,hc⟩ := Ma.adh hV; obtain ⟨vs0,q0,g0,g0',hq0⟩ := hX.row (i := 0) rfl; exact ⟨_,rfl,_,rfl,wa,_,_,_,rfl,rfl,ag.of hW,rfl,_,rfl,wa,_,_,_,rfl,rfl,ag.of hW,rfl,_,rfl,ra,vs0,_,_,rfl,rfl,ag.of g0,dU (j := 0) rfl g0',l,q0,t,x0,x1,r0,rfl,S,ag.of hq0,k.of hc⟩
 ·have hp : p = 11 := by
   have h1 : ¬ p = 9 := fun e => by simp_all
   have h2 : ¬ p = 10 := fun e => by simp_all
   omega
  subst hp; obtain ⟨x0,x1,r0,rfl,rfl,hr0,hc⟩ := Ma.adx hV; obtain ⟨vs0,q0,g0,g0',hq0⟩ := hX.row (i := 0) rfl; exact ⟨_,rfl,_,rfl,wa,_,_,_,rfl,rfl,ag.of hW,rfl,_,rfl,wa,_,_,_,rfl,rfl,ag.of hW,rfl,_,rfl,ra,vs0,_,_,rfl,rfl,ag.of g0,dU (j := 0) rfl g0',l,q0,t,x0,x1,r0,rfl,S,ag.of hq0,k.of hc⟩
theorem sc_next_answer : aq ["slots","reader","call","form","wholes","rows"] ["slots","reader"] (aj gV) := fs
theorem uU (D : Df K mg "next_answer" "next_answer" gV ["slots","reader"]) (T : Txt K mg C) (aA : iy K al) (TF : v9 K mg PyYqlnca.shape) (a7 : gv P w K mg base 1 al "read_whole" ["self"] (fm K al)) (kD : Ok P w K mg base 2 "read_wholes" ["reader","size"] (n_ K al)) (mI : Ok P w K mg base 3 "read_rows" ["reader","size"] (qz K al)) (j8 : Ok P w K mg base 10 "call_answer" ["slots","call","wholes","rows"] (dh C 1 26)) : Ok P w K mg base 11 "next_answer" ["slots","reader"] (oA K C al) := by
 refine D.ok sc_next_answer (fun _ _ _ _ h => by obtain ⟨_,_,_,_,_,_,_,_,rfl,_⟩ := h; rfl) (fun f cdv A outer s H vs Q E hr h => ?_); obtain ⟨l,r,a,t,zs,n,e,c,rfl,S,hR,ha,hcall,hins,hask,k⟩ := h; obtain ⟨p,kk,m,X,hz,hsh,hle,hrows,rfl⟩ := sk hcall
 refine ⟨_,(ad (aH 2 sc_next_answer.nd (fK aA.cl a7 hr.m (pv 1)))
  (ad (aH 3 sc_next_answer.nd (aa5 TF rfl (pv 2) (fun _ _ => rfl)))
  (ad (aH 4 sc_next_answer.nd (ap kD hr (ab (pv 1) (ab (rA tG (pv 3) ai (fun _ _ => rfl)) ac))))
  (ad (aH 5 sc_next_answer.nd (ap mI hr (ab (pv 1) (ab (rA tG (pv 3) ai (fun _ _ => rfl)) ac))))
  (ae (ah (ap j8 hr (ab (pv 0) (ab (pv 2) (ab (pv 4) (ab (pv 5) ac))))))))))),?_⟩
 obtain ⟨dx,hr0⟩ := id hR; have hWl : ((zs.drop (n + 1)).take kk).length = kk := by rw [List.length_take,List.length_drop]; omega
 have hXl := (kR hrows).1; have hw := Ma.aby hsh hWl hXl; unfold cB at k; rw [hw] at k hask
 have hb : 1 <= p /\ p <= 26 /\ kk <= 4 /\ m <= 2 := by
  have := Ma.mH hsh; omega
 refine ⟨_,rfl,r,dx,_,rfl,hr0,cV _ _ (by decide +kernel) (by decide +kernel),r,a,n,zs,p,rfl,hR,ha,hz,fun H1 k1 hR1 f1 => ?_⟩; have ha1 := aO.seq k1 hR ha; refine ⟨_,rfl,p,kk,m,rfl,hsh,fun fa hfa => ?_⟩; refine ⟨_,rfl,_,rfl,fa,_,_,_,rfl,rfl,hfa H1,rfl,r,a,n + 1,kk,zs,rfl,hR1,ha1,hle,by omega,fun H2 wa k2 hR2 hwa hW2 => ?_⟩; have ha2 := aO.seq k2 hR1 ha1; refine ⟨_,rfl,_,rfl,fa,_,_,_,rfl,rfl,hfa H2,rfl,r,a,n + 1 + kk,m,e,zs,X,rfl,hR2,ha2,hrows,by omega,fun H3 ra k3 hR3 hra hX3 => ?_⟩; have S3 := aB.keepR (aB.keepR (aB.keepR S hR k1) hR1 k2) hR2 k3; have hW3 := k3 _ _ hW2 (aO.notLst hR2 hW2).symm; obtain ⟨dx3,hr3⟩ := id hR3; refine ⟨_,rfl,_,rfl,_,rfl,_,rfl,l,wa,ra,t,p,_,X,rfl,S3,hW3,hX3,hb.1,hb.2.1,⟨⟨kk,m,hsh,hWl,hXl⟩,hins,hask⟩,fun H4 q k4 S4 hq hq4 => ?_⟩; have k13 := (k1.trans k2).trans k3; obtain ⟨vs3,hl3,_⟩ := id S3.ex; have hrl : r ≠ l := mt hr3 hl3 (by intro z; cases z); exact k H4 q (fun b o eb hbl hbr => k4 b o (k13 b o eb hbr) hbl) S4 ⟨dx3,k4 _ _ hr3 hrl⟩ (aM.free k13 hq ⟨_,hr3⟩) hq4
end
end Go

namespace Go
open PySem PySem.Spec PyProof.Rows L2
theorem dA {c A B : Prop} [Decidable c] (hc : c) (h : A) : if decide c = true then A else B := by
 rw [decide_eq_true hc]; exact aeh h
theorem dw {c A B : Prop} [Decidable c] (hc : ¬ c) (h : B) : if decide c = true then A else B := by
 rw [decide_eq_false hc]; exact acL h
section
variable {P : Program} {w : World} {K : Fg} {mg : Str -> Option Value} {base : Heap} {C al : Addr}
def mz (K : Fg) : Sp := fun vs H Q _ => ∃ (a b : Addr) (s g : List Nat) (ax : Nat),vs = [.ref a,.ref b,.int ax] /\ ag K H a (vn s) /\ ag K H b (vn g) /\ ax < s.length /\ s.length <= 1000 /\ ∀ H',ak H H' -> Q (.bl (Ad.joinOk ax s g)) H'
theorem uf : aq ["first","second","axis"] ["first","second","axis"] (aj gq) := fs
theorem t8 (D : Df K mg "lengths_join" "lengths_join" gq ["first","second","axis"]) (T : Txt K mg C) (bc : Ok P w K mg base 1 "without_axis" ["numbers","axis"] (de K)) : Ok P w K mg base 2 "lengths_join" ["first","second","axis"] (mz K) := by
 refine D.ok uf (fun _ _ _ _ h => by obtain ⟨_,_,_,_,_,rfl,_⟩ := h; rfl) (fun f cdv A outer s H vs Q E hr h => ?_); obtain ⟨a,b,s,g,ax,rfl,ha,hb,hx,hl4,k⟩ := h; refine ⟨_,(ae (ah (qX (lF bB (bA T.b_len (pv 0)) (bA T.b_len (pv 1))) (tq (lF (wf hr.units) (ap bc hr (ab (pv 0) (ab (pv 2) ac))) (ap bc hr (ab (pv 1) (ab (pv 2) ac)))))))),?_⟩; refine ⟨_,rfl,a,_,rfl,.inl ha,_,rfl,b,_,rfl,.inl hb,rfl,_,rfl,?_⟩; rw [aI,aI]
 by_cases hl : s.length = g.length
 ·refine dA (by rw [hl]) ?_; refine ⟨_,rfl,_,rfl,a,vn s,ax,rfl,ha,by rw [aI]; omega,fun H1 q s1 hq hq1 => ?_⟩; refine ⟨_,rfl,_,rfl,b,vn g,ax,rfl,s1.seq hb,by rw [aI]; omega,fun H2 r s2 hr2 hr1 => ?_⟩; rw [lT] at hq1 hr1; refine ⟨q,r,_,_,rfl,rfl,ag.of (s2 _ _ hq1),ag.of hr1,?_⟩
  have e : Ad.joinOk ax s g = decide (Ma.nz (s.eraseIdx ax) = Ma.nz (g.eraseIdx ax)) := by
   by_cases q : s.eraseIdx ax = g.eraseIdx ax
   ·rw [q,decide_eq_true rfl]; exact (Ma.kQ hx).mpr ⟨hl,q⟩
   ·rw [decide_eq_false (fun z => q (Ma.ou z))]
    cases e : Ad.joinOk ax s g with
    | false => rfl
    | true => exact absurd ((Ma.kQ hx).mp e).2 q
  rw [e] at k; exact k _ (s1.trans s2)
 ·refine dw (a5 (by omega)) ?_
  have e : Ad.joinOk ax s g = false := by
   cases e : Ad.joinOk ax s g with
   | false => rfl
   | true => exact absurd ((Ma.kQ hx).mp e).1 hl
  rw [e] at k; exact k _ (ak.refl H)
def pD (K : Fg) : Sp := fun vs H Q _ => ∃ (a : Addr) (r : List Int) (z : Int),vs = [.ref a,.int z] /\ ag K H a (vi r) /\ r.length <= 100000 /\ ∀ H' q,ak H H' -> H q = none -> H' q = some (.lst (vi ((List.range r.length).map fun (i : Nat) => r.getD (((i : Int) - z) % (r.length : Int)).toNat 0))) -> Q (.ref q) H'
theorem sc_rolled_row : aq ["row","by","number"] ["row","by"] (aj fO) := fs
theorem vS (D : Df K mg "rolled_row" "rolled_row" fO ["row","by"]) (T : Txt K mg C) : Ok P w K mg base 1 "rolled_row" ["row","by"] (pD K) := by
 refine D.ok sc_rolled_row (fun _ _ _ _ h => by obtain ⟨_,_,_,rfl,_⟩ := h; rfl) (fun f cdv A outer s H vs Q E hr h => ?_); obtain ⟨a,r,z,rfl,ha,hl,k⟩ := h; refine ⟨_,(ae (ah (dt rfl sc_rolled_row.nd (dX rfl T.b_range (ab (bA T.b_len (pv 0)) ac)) (a8 (N := ["row","by","number"]) (sc := aj fO) (own := [("number",2)]) (by decide +kernel)) (fun _ _ _ _ _ => (a0 2 sc_rolled_row.nd)) (fun _ _ _ _ _ => br) (fun _ _ _ _ _ => (oX K (pv 0) (aV wP (aV jY (pv 2) (pv 1)) (bG (vW K rfl) (by rfl) T.b_len PySem.boot_len (ab (pv 0) ac)))))))),?_⟩; have hvl := aN r; refine ⟨_,rfl,a,_,rfl,.inl ha,_,rfl,by omega,by omega,fun D hD => ?_⟩; rw [aN]; refine cz (fM) (fun (i : Nat) => V.int (r.getD (((i : Int) - z) % (r.length : Int)).toNat 0)) hD (by show _ <= 2 ^ 24; omega) ?_ bf ?_
 ·rintro i H1 v H2 hi sm ⟨rfl,rfl⟩ Q' kq; have hi' : i < r.length := by omega
  have hm1 : 0 <= ((i : Int) - z) % (r.length : Int) := Int.emod_nonneg _ (by omega); have hm2 : ((i : Int) - z) % (r.length : Int) < (r.length : Int) := Int.emod_lt_of_pos _ (by omega); have ha1 := sm.seq ha; refine ⟨rfl,_,rfl,_,rfl,_,rfl,_,_,rfl,rfl,_,rfl,a,_,rfl,.inl ha1,_,_,rfl,rfl,(by rw [aN]; show (0 : Int) < _; omega),a,_,_,_,rfl,rfl,ha1,?_,kq _ (ak.refl _)⟩; rw [aN,Int.zero_add]; have e : ((i : Int) - z) % (r.length : Int) = ((((i : Int) - z) % (r.length : Int)).toNat : Int) := by omega
  have h1 : r[(((i : Int) - z) % (r.length : Int)).toNat]? = some (r.getD (((i : Int) - z) % (r.length : Int)).toNat 0) := lH (by omega); rw [e]; exact bC (cy h1)
 ·intro H' sm hd; refine k H' D sm hD ?_; rw [hd]; congr 2; show _ = List.map V.int (List.map _ _); rw [List.map_map]; rfl
end
end Go

namespace Go
open PySem PySem.Spec PyProof.Rows L2
section
variable {P : Program} {w : World} {K : Fg} {mg : Str -> Option Value} {base : Heap} {C al : Addr}
theorem dq.ofF {H : Hp} {D : Addr} {f : Nat -> List V} {n : Nat} {qs : List Addr} (h1 : H D = some (.lst (qs.map V.ref))) (h2 : qs.length = n) (h3 : ∀ (i : Nat) q,qs[i]? = some q -> H q = some (.lst (f i))) : dq H D ((List.range n).map f) := by
 refine dq.of h1 h2 h3 (by rw [List.length_map,List.length_range]) fun i x hx => ?_
 rw [List.getElem?_map] at hx
 by_cases hi : i < n
 ·rw [List.getElem?_range hi] at hx; exact Option.some.inj hx
 ·rw [List.getElem?_eq_none (by rw [List.length_range]; omega)] at hx; cases hx
theorem d4 {α : Type} {n i : Nat} (h : i < n) (f : Nat -> α) : ((List.range n).map f)[i]? = some (f i) := by
 rw [List.getElem?_map,List.getElem?_range h]; rfl
theorem bp {α : Type} {l : List α} {i : Nat} {x d : α} (h : l[i]? = some x) : l.getD i d = x := by
 rw [List.getD_eq_getElem?_getD,h]; rfl
theorem h_ {A : Ad.Arr} {s p : List Nat} {ax : Nat} (e : Ad.removed A.shape ax = Ad.removed s ax) (hp : Ma.In s p) (hx : ax < s.length) : (Ad.rowsBy ax A)[Ad.cellOf (Ad.removed s ax) (p.eraseIdx ax)]? = some (Ad.rowAt A ax p) := by
 rw [← e]; refine Ma.zE ?_ (by rw [hp.len]; exact hx); rw [e]; exact hp.erase
theorem oV {A : Ad.Arr} {s p : List Nat} {ax : Nat} (e : Ad.removed A.shape ax = Ad.removed s ax) (hp : Ma.In s p) (hx : ax < s.length) : (dC ax A)[Ad.cellOf (Ad.removed s ax) (p.eraseIdx ax)]? = some (vi (Ad.rowAt A ax p)) := by
 rw [List.getElem?_map,h_ e hp hx]; rfl
theorem j6 {H : Hp} {y : Addr} {s : List Nat} {h : List Nat -> Int} (hA : uG C H y s (wI s fun p => V.int (h p))) : b0 C H y (Ad.build s h) := by
 obtain ⟨dx,a,b,h1,h2,h3⟩ := hA; exact ⟨dx,a,b,h1,h2,h3.trans (congrArg (fun z => some (HO.lst z)) (pq s h))⟩
theorem og {s p : List Nat} {ax : Nat} (hp : Ma.In s p) : Ad.cellOf (Ad.removed s ax) (p.eraseIdx ax) < Ad.product_ (Ad.removed s ax) := (hp.erase (x := ax)).lt
theorem mX (s : List Nat) (ax n : Nat) : Ad.removed (s.set ax n) ax = Ad.removed s ax := Ma.mx s ax n
def rh (ax : Nat) (A B : Ad.Arr) (p : List Nat) : Int := if p.getD ax 0 < Ad.along A.shape ax then A.at_ p else B.at_ (p.set ax (p.getD ax 0 - Ad.along A.shape ax))
def aci (ax : Nat) (A B : Ad.Arr) (p : List Nat) : Prop := p.length = A.shape.length /\ (p.getD ax 0 < Ad.along A.shape ax -> Ma.In A.shape p) /\ (¬ p.getD ax 0 < Ad.along A.shape ax -> Ma.In B.shape (p.set ax (p.getD ax 0 - Ad.along A.shape ax)))
theorem abZ {ax : Nat} {A B : Ad.Arr} {p : List Nat} (hx : ax < A.shape.length) (hj : Ad.joinOk ax A.shape B.shape = true) (hp : Ma.In (Ad.joinShape ax A.shape B.shape) p) : aci ax A B p := by
 unfold Ad.joinShape at hp; have hl := hp.len; rw [List.length_set] at hl; obtain ⟨h1,h2⟩ := (Ma.wv hx).mp hj; have hg := le (l := p) (i := ax) (by omega); refine ⟨hl,fun hlt => ?_,fun hge => ?_⟩
 ·have := Ma.In.set hp hx (p.getD ax 0) hlt; rw [Ma.fN (bv hx),Ma.fN hg] at this; exact this
 ·have ha := Ma.In.axis hp (by rw [List.length_set]; exact hx); rw [Ma.mE hx] at ha; have := Ma.In.set hp hx (m := Ad.along B.shape ax) (p.getD ax 0 - Ad.along A.shape ax) (by omega); rw [h2] at this; exact this
theorem abo {ax : Nat} {A B : Ad.Arr} {p : List Nat} (hx : ax < A.shape.length) (hp : Ma.In (Ad.joinShape ax A.shape B.shape) p) : (vi (Ad.rowAt A ax p) ++ vi (Ad.rowAt B ax p))[p.getD ax 0]? = some (V.int (rh ax A B p)) := by
 have hl := hp.len; unfold Ad.joinShape at hp hl; rw [List.length_set] at hl; have ha := Ma.In.axis hp (by rw [List.length_set]; exact hx); rw [Ma.mE hx] at ha; unfold rh
 by_cases h : p.getD ax 0 < Ad.along A.shape ax
 ·rw [List.getElem?_append_left (by rw [aN,Ma.da]; exact h),if_pos h,cy (Ma.om h),Ma.aba (by omega)]
 ·rw [List.getElem?_append_right (by rw [aN,Ma.da]; omega),if_neg h,aN,Ma.da,cy (Ma.om (by omega))]
def qW (K : Fg) (C : Addr) : Sp := fun vs H Q _ => ∃ (l : Addr) (t : Ay.State) (kk ax i j : Nat),vs = [.ref l,.int kk,.int ax,.int i,.int j] /\ aB C H l t /\ aQ C H l (Ay.step t (.join kk ax i j)) Q
theorem sc_call_join : aq ["slots","k","axis","i","j","refusal","first","second","lengths","rows","row","behind"] ["slots","k","axis","i","j"] (aj gG) := fs
theorem wF (D : Df K mg "call_join" "call_join" gG ["slots","k","axis","i","j"]) (T : Txt K mg C) (a6 : Ok P w K mg base 4 "axis_refusal" ["slots","k","sources","axis"] (cA K C)) (jf : Ok P w K mg base 2 "lengths_join" ["first","second","axis"] (mz K)) (ci : Ok P w K mg base 2 "with_length" ["lengths","axis","length"] (gj K)) (aW : Ok P w K mg base 2 "is_shape" ["lengths"] (ca K)) (be : Ok P w K mg base 4 "rows_of" ["array","axis"] (dr K C)) (a4 : Ok P w K mg base 3 "array_of_rows" ["lengths","axis","rows"] (cn K C)) (aZ : Ok P w K mg base 1 "keep" ["slots","k","array"] (b6 C)) : Ok P w K mg base 5 "call_join" ["slots","k","axis","i","j"] (qW K C) := by
 refine D.ok sc_call_join (fun _ _ _ _ h => by obtain ⟨_,_,_,_,_,_,rfl,_⟩ := h; rfl) (fun f cdv A outer s H vs Q E hr h => ?_); obtain ⟨l,t,kk,ax,i,j,rfl,S0,k0⟩ := h
 refine ⟨_,(ad (aH 5 sc_call_join.nd (ap a6 hr (ab (pv 0) (ab (pv 1) (ab (az (ab (pv 3) (ab (pv 4) ac))) (ab (pv 2) ac))))))
  (ad (aw (aE bz (pv 5) ai) (ae (ah (az (ab (pv 5) ac)))) ao)
  (ad (aH 6 sc_call_join.nd (au (pv 0) (pv 3)))
  (ad (aH 7 sc_call_join.nd (au (pv 0) (pv 4)))
  (ad (aw (bw (bg (ap jf hr (ab (aD (pv 6) rfl) (ab (aD (pv 7) rfl) (ab (pv 2) ac)))))) (ae (ah (az (ab (aP T.g_UNLIKE) ac)))) ao)
  (ad (aH 8 sc_call_join.nd (ap ci hr (ab (aD (pv 6) rfl) (ab (pv 2) (ab (aV cM (au (aD (pv 6) rfl) (pv 2)) (au (aD (pv 7) rfl) (pv 2))) ac)))))
  (ad (aw (bw (bg (ap aW hr (ab (pv 8) ac)))) (ae (ah (az (ab (aP T.g_BEYOND) ac)))) ao)
  (ad (cS rfl sc_call_join.nd (i := 9) rfl rfl (dF rfl rfl rfl (by decide +kernel)) (fk rfl T.b_zip (ab (ap be hr (ab (pv 6) (ab (pv 2) ac))) (ab (ap be hr (ab (pv 7) (ab (pv 2) ac))) ac))) (a8 (N := ["slots","k","axis","i","j","refusal","first","second","lengths","rows","row","behind"]) (sc := aj gG) (own := [("row",10),("behind",11)]) (by decide +kernel)) (fun _ _ _ _ _ => (lf K rfl (n := 2) rfl (bd (a0 10 sc_call_join.nd) (bd (a0 11 sc_call_join.nd) cQ)))) (fun _ _ _ _ _ => br) (fun _ _ _ _ _ => (aV iE (pv 10) (pv 11))))
  (ae (ah (ap aZ hr (ab (pv 0) (ab (pv 1) (ab (ap a4 hr (ab (pv 8) (ab (pv 2) (ab (pv 9) ac)))) ac)))))))))))))),?_⟩
 refine ⟨_,rfl,_,rfl,_,rfl,_,rfl,lj,fun q hq => ?_⟩; have s0 : ak H (upd H q (.lst [.int i,.int j])) := ak.new hq; have hq1 : (upd H q (.lst [.int i,.int j])) q = some (.lst (vn [i,j])) := am; generalize upd H q (.lst [.int i,.int j]) = H1 at *; have S := S0.keep s0; have k := k0.same s0; refine ⟨_,rfl,l,q,t,kk,i,ax,[j],rfl,S,ag.of hq1,_,rfl,rfl,_,rfl,?_⟩
 by_cases h0 : cw t kk i [j] ax = 0
 ·refine bq (congrArg V.int h0) ?_; obtain ⟨hk,hi,hj,A',B',ea,eb,hx,ef⟩ := yH h0; rw [Ay.step,ef] at k; obtain ⟨vs,x,g1,g2,hA,ho⟩ := aB.arr S hi ea; obtain ⟨dx,a1,b1,h1,h2,h3⟩ := id hA; obtain ⟨vs',y,g1',g2',hB,ho'⟩ := aB.arr S hj eb; obtain ⟨dy,a2,b2,h1',h2',h3'⟩ := id hB; obtain ⟨z1,z2,z3⟩ := Ma.aF (aG ho).1; refine ⟨_,rfl,_,rfl,l,vs,_,_,rfl,rfl,ag.of g1,g2,_,rfl,_,rfl,l,vs',_,_,rfl,rfl,ag.of g1',g2',?_⟩; refine ⟨_,rfl,x,C,dx,_,_,rfl,h1,T.cl,T.nL,aU a1 b1,_,rfl,y,C,dy,_,_,rfl,h1',T.cl,T.nL,aU a2 b2,_,rfl,a1,a2,A'.shape,B'.shape,ax,rfl,ag.of h2,ag.of h2',hx,by omega,fun H2 s2 => ⟨_,rfl,?_⟩⟩
  cases e1 : Ad.joinOk ax A'.shape B'.shape with
  | false =>
   rw [if_pos e1] at k; exact ⟨ba,aQ.no S s2 k rfl⟩
  | true =>
   rw [if_neg (by rw [e1]; simp)] at k; obtain ⟨hll,her⟩ := (Ma.kQ hx).mp e1; refine ⟨_,rfl,x,C,dx,_,_,rfl,s2 _ _ h1,T.cl,T.nL,aU a1 b1,_,rfl,_,rfl,x,C,dx,_,_,rfl,s2 _ _ h1,T.cl,T.nL,aU a1 b1,_,rfl,a1,_,_,_,rfl,rfl,ag.of (s2 _ _ h2),bC (dn (bv hx)),_,rfl,y,C,dy,_,_,rfl,s2 _ _ h1',T.cl,T.nL,aU a2 b2,_,rfl,a2,_,_,_,rfl,rfl,ag.of (s2 _ _ h2'),bC (dn (bv (by omega))),_,_,rfl,rfl,a1,vn A'.shape,ax,_,rfl,ag.of (s2 _ _ h2),by rw [aI]; omega,by rw [aI]; exact hx,fun H3 r s3 hr3 hr4 => ?_⟩
   have e2 : (vn A'.shape).set ax (V.int (((Ad.along A'.shape ax : Nat) : Int) + ((Ad.along B'.shape ax : Nat) : Int))) = vn (Ad.joinShape ax A'.shape B'.shape) := by
    unfold Ad.joinShape; rw [← tU]; rfl
   rw [e2] at hr4; have s23 := s2.trans s3
   have hbd : ∀ n ∈ Ad.joinShape ax A'.shape B'.shape,n < 2 ^ 63 := fun n hn => by
    unfold Ad.joinShape at hn
    rcases List.mem_or_eq_of_mem_set hn with hm | hm
    ·exact cb (aG ho).1 n hm
    ·have w1 := Ma.b_ z2 _ (List.mem_of_getElem? (bv hx)); obtain ⟨y1,y2,y3⟩ := Ma.aF (aG ho').1; have w2 := Ma.b_ y2 _ (List.mem_of_getElem? (bv (s := B'.shape) (ax := ax) (by omega))); omega
   refine ⟨_,rfl,r,Ad.joinShape ax A'.shape B'.shape,rfl,ag.of hr4,hbd,_,rfl,?_⟩
   cases e4 : Ad.shapeOk (Ad.joinShape ax A'.shape B'.shape) with
   | false =>
    rw [if_pos e4] at k; exact ⟨ba,aQ.no S s23 k rfl⟩
   | true =>
    rw [if_neg (by rw [e4]; simp)] at k; obtain ⟨w1,w2,w3⟩ := Ma.aF e4; have hjx : ax < (Ad.joinShape ax A'.shape B'.shape).length := by unfold Ad.joinShape; rw [List.length_set]; exact hx
    have hra : Ad.removed A'.shape ax = Ad.removed (Ad.joinShape ax A'.shape B'.shape) ax := (mX _ _ _).symm; have hrb : Ad.removed B'.shape ax = Ad.removed (Ad.joinShape ax A'.shape B'.shape) ax := by rw [← hra]; exact her.symm
    obtain ⟨y1,y2,y3⟩ := Ma.aF (Ma.cj e4 ax); refine ⟨_,rfl,_,rfl,x,A',ax,rfl,hA.keep s23,ho,hx,fun H4 u s4 hu hX => ?_⟩; have s24 := s23.trans s4; refine ⟨_,rfl,_,rfl,y,B',ax,rfl,hB.keep s24,ho',by omega,fun H5 u2 s5 hu2 hX2 => ?_⟩; have s25 := s24.trans s5; obtain ⟨xs,q1,q2,q3⟩ := (hX.keep s5).src (K := K); obtain ⟨ys,q1',q2',q3'⟩ := hX2.src (K := K); rw [cq,hra] at q2; rw [cq,hrb] at q2'; refine ⟨u,u2,_,_,rfl,q1,q1',fun D hD => ?_⟩; refine oH (rm q1 q1' (by rw [q2,q2'])) (fun c => (dC ax A').getD c [] ++ (dC ax B').getD c []) hD (by rw [q2]; show _ <= 2 ^ 24; omega) ?_ j0 ?_
    ·rintro c H6 v H7 hci sm ⟨TT,v1,v2,rfl,hT,rfl,hx1,hx2⟩ Q' kq; obtain ⟨p1,r1,rfl,e5,e6⟩ := q3 c _ hx1; obtain ⟨p2,r2,rfl,e7,e8⟩ := q3' c _ hx2; have sT : ak H6 (upd H6 TT (.tup [.ref p1,.ref p2])) := ak.new hT
     have l1 : r1.length <= 10000 := by
      rw [List.getElem?_map] at e5
      cases e9 : (Ad.rowsBy ax A')[c]? with
      | none => rw [e9] at e5; cases e5
      | some w =>
       rw [e9] at e5; cases e5; rw [(Ma.iM e9).2,aN,Ma.da]; have := Ma.b_ z2 _ (List.mem_of_getElem? (bv hx)); omega
     have l2 : r2.length <= 10000 := by
      rw [List.getElem?_map] at e7
      cases e9 : (Ad.rowsBy ax B')[c]? with
      | none => rw [e9] at e7; cases e7
      | some w =>
       rw [e9] at e7; cases e7; rw [(Ma.iM e9).2,aN,Ma.da]; obtain ⟨t1,t2,t3⟩ := Ma.aF (aG ho').1; have := Ma.b_ t2 _ (List.mem_of_getElem? (bv (s := B'.shape) (ax := ax) (by omega))); omega
     refine ⟨TT,_,rfl,cx.of am,rfl,_,_,rfl,_,_,rfl,rfl,rfl,_,rfl,_,rfl,p1,p2,_,_,rfl,rfl,sT _ _ (sm _ _ e6),sT _ _ (sm _ _ e8),(by show _ <= 2 ^ 24; omega),fun p hp => ?_⟩; refine kq p _ (sT.upd (sT.free hp)) (sT.free hp) ?_; rw [am,bp e5,bp e7]
    ·intro H6 ds sm f1 f2 f3; rw [q2] at f2; have s26 := s25.trans sm; refine ⟨_,rfl,_,rfl,_,rfl,_,rfl,_,rfl,r,D,Ad.joinShape ax A'.shape B'.shape,ax,_,fun p => V.int (rh ax A' B' p),rfl,(s4.trans (s5.trans sm)) _ _ hr4,e4,hjx,dq.ofF f1 f2 f3,?_,fun H7 yy s7 hyy hA7 => ?_⟩
     ·intro p hp; refine ⟨_,d4 (og hp) _,?_⟩; rw [bp (oV hra hp hjx),bp (oV hrb hp hjx)]; exact abo hx hp
     ·have s27 := s26.trans s7; refine ⟨l,yy,t,kk,Ad.join ax A' B',rfl,hk,S.keep s27,j6 (h := rh ax A' B') hA7,fc e4 fun p hp => ?_,k.same s27⟩; have hin := abZ hx e1 hp; show Ad.cellFine (rh ax A' B' p) = true; unfold rh
      split
      ·exact fu ho (hin.2.1 (by assumption))
      ·exact fu ho' (hin.2.2 (by assumption))
 ·obtain ⟨n,h2,ef⟩ := aau h0; rw [Ay.step,ef] at k; refine bx (a5 h0) ?_; exact ⟨_,rfl,ba,aQ.no S (ak.refl H1) k h2⟩
end
end Go

namespace Go
open PySem PySem.Spec PyProof.Rows L2
section
variable {P : Program} {w : World} {K : Fg} {mg : Str -> Option Value} {base : Heap} {C al : Addr}
theorem dE {A : Ad.Arr} {ax c : Nat} {r : List V} (ho : A.ok = true) (hx : ax < A.shape.length) (h : (dC ax A)[c]? = some r) : ∃ r',r = vi r' /\ (Ad.rowsBy ax A)[c]? = some r' /\ r'.length = Ad.along A.shape ax /\ 1 <= r'.length /\ r'.length <= 1024 /\ ∀ z ∈ r',Ad.cellFine z = true := by
 rw [List.getElem?_map] at h
 cases e : (Ad.rowsBy ax A)[c]? with
 | none => rw [e] at h; cases h
 | some w =>
  rw [e] at h; obtain ⟨z1,z2,z3⟩ := Ma.aF (aG ho).1; obtain ⟨g1,g2⟩ := Ma.iM e; have hm := List.mem_of_getElem? (bv hx); have h1 := Ma.b_ z2 _ hm; have h2 := z2 _ hm; have hl : w.length = Ad.along A.shape ax := by rw [g2,Ma.da]
  refine ⟨w,(Option.some.inj h).symm,rfl,hl,by omega,by omega,fun z hz => ?_⟩; rw [g2] at hz; obtain ⟨i,hi,ez⟩ := List.mem_map.mp (show z ∈ (List.range (Ad.along A.shape ax)).map _ from hz); rw [← ez]; refine fu ho ?_; have hin := Ma.cC g1
  rw [Ma.sY _ _ _ (by
   rw [Ma.eQ]; unfold Ad.removed; rw [List.length_eraseIdx,if_pos hx]
   omega)]
  exact Ma.In.fill hin hx (List.mem_range.mp hi)
def yZ (z : Int) (r : List Int) : List Int := (List.range r.length).map fun (i : Nat) => r.getD (((i : Int) - z) % (r.length : Int)).toNat 0
theorem yg {s p : List Nat} {ax : Nat} (hp : Ma.In s p) (hx : ax < s.length) (z : Int) : (((p.getD ax 0 : Int) - z) % (Ad.along s ax : Int)).toNat < Ad.along s ax := by
 have ha := (Ma.In.axis hp hx).2; have h1 := Int.emod_nonneg ((p.getD ax 0 : Int) - z) (b := (Ad.along s ax : Int)) (by omega); have h2 := Int.emod_lt_of_pos ((p.getD ax 0 : Int) - z) (b := (Ad.along s ax : Int)) (by omega); omega
theorem abt {A : Ad.Arr} {p : List Nat} {ax : Nat} (hp : Ma.In A.shape p) (hx : ax < A.shape.length) (z : Int) : (vi (yZ z (Ad.rowAt A ax p)))[p.getD ax 0]? = some (V.int (A.at_ (p.set ax (((p.getD ax 0 : Int) - z) % (Ad.along A.shape ax : Int)).toNat))) := by
 have ha := (Ma.In.axis hp hx).2; unfold yZ; rw [Ma.da]; refine cy ?_; rw [d4 ha]; congr 1; exact bp (Ma.om (yg hp hx z))
def qM (K : Fg) (C : Addr) : Sp := fun vs H Q _ => ∃ (l : Addr) (t : Ay.State) (kk ax i : Nat) (z : Int),vs = [.ref l,.int kk,.int ax,.int z,.int i] /\ aB C H l t /\ aQ C H l (Ay.step t (.roll kk ax z i)) Q
theorem sc_call_roll : aq ["slots","k","axis","by","i","refusal","rows","row"] ["slots","k","axis","by","i"] (aj gK) := fs
theorem wO (D : Df K mg "call_roll" "call_roll" gK ["slots","k","axis","by","i"]) (T : Txt K mg C) (a6 : Ok P w K mg base 4 "axis_refusal" ["slots","k","sources","axis"] (cA K C)) (l_ : Ok P w K mg base 1 "rolled_row" ["row","by"] (pD K)) (be : Ok P w K mg base 4 "rows_of" ["array","axis"] (dr K C)) (a4 : Ok P w K mg base 3 "array_of_rows" ["lengths","axis","rows"] (cn K C)) (aZ : Ok P w K mg base 1 "keep" ["slots","k","array"] (b6 C)) : Ok P w K mg base 5 "call_roll" ["slots","k","axis","by","i"] (qM K C) := by
 refine D.ok sc_call_roll (fun _ _ _ _ h => by obtain ⟨_,_,_,_,_,_,rfl,_⟩ := h; rfl) (fun f cdv A outer s H vs Q E hr h => ?_); obtain ⟨l,t,kk,ax,i,z,rfl,S0,k0⟩ := h
 refine ⟨_,(ad (aH 5 sc_call_roll.nd (ap a6 hr (ab (pv 0) (ab (pv 1) (ab (az (ab (pv 4) ac)) (ab (pv 2) ac))))))
  (ad (aw (aE bz (pv 5) ai) (ae (ah (az (ab (pv 5) ac)))) ao)
  (ad (cS rfl sc_call_roll.nd (i := 6) rfl rfl (dF rfl rfl rfl (by decide +kernel)) (bD (ap be hr (ab (au (pv 0) (pv 4)) (ab (pv 2) ac)))) (a8 (N := ["slots","k","axis","by","i","refusal","rows","row"]) (sc := aj gK) (own := [("row",7)]) (by decide +kernel)) (fun _ _ _ _ _ => (a0 7 sc_call_roll.nd)) (fun _ _ _ _ _ => br) (fun _ _ _ _ _ => (ap l_ hr (ab (pv 7) (ab (pv 3) ac)))))
  (ae (ah (ap aZ hr (ab (pv 0) (ab (pv 1) (ab (ap a4 hr (ab (aD (au (pv 0) (pv 4)) rfl) (ab (pv 2) (ab (pv 6) ac)))) ac))))))))),?_⟩
 refine ⟨_,rfl,_,rfl,_,rfl,ba,fun q hq => ?_⟩; have s0 : ak H (upd H q (.lst [.int i])) := ak.new hq; have hq1 : (upd H q (.lst [.int i])) q = some (.lst (vn [i])) := am; generalize upd H q (.lst [.int i]) = H1 at *; have S := S0.keep s0; have k := k0.same s0; refine ⟨_,rfl,l,q,t,kk,i,ax,[],rfl,S,ag.of hq1,_,rfl,rfl,_,rfl,?_⟩
 by_cases h0 : cw t kk i [] ax = 0
 ·refine bq (congrArg V.int h0) ?_; obtain ⟨hk,hi,A',ea,hx,ef⟩ := oj h0; rw [Ay.step,ef] at k; obtain ⟨vs,x,g1,g2,hA,ho⟩ := aB.arr S hi ea; obtain ⟨dx,a1,b1,h1,h2,h3⟩ := id hA; have hs := (aG ho).1; obtain ⟨y1,y2,y3⟩ := Ma.aF (Ma.cj hs ax); refine ⟨_,rfl,_,rfl,l,vs,_,_,rfl,rfl,ag.of g1,g2,_,rfl,x,A',ax,rfl,hA,ho,hx,fun H2 u s2 hu hX => ?_⟩; obtain ⟨xs,q1,q2,q3⟩ := hX.src (K := K); rw [cq] at q2; refine ⟨u,rfl,⟨_,q1⟩,fun D hD => ?_⟩; refine oH (bW q1) (fun c => vi (yZ z ((Ad.rowsBy ax A').getD c []))) hD (by rw [q2]; show _ <= 2 ^ 24; omega) ?_ bf ?_
  ·rintro c H3 v H4 hci sm ⟨rfl,hx1⟩ Q' kq; obtain ⟨p1,r0,rfl,e5,e6⟩ := q3 c _ hx1; obtain ⟨r1,rfl,e7,l1,l2,l3,_⟩ := dE ho hx e5; refine ⟨rfl,_,rfl,_,rfl,p1,r1,z,rfl,ag.of (sm _ _ e6),by omega,fun H5 q5 s5 n5 h5 => kq q5 H5 s5 n5 ?_⟩; rw [h5,bp e7]; rfl
  ·intro H3 ds sm f1 f2 f3; rw [q2] at f2; have s3 := s2.trans sm; refine ⟨_,rfl,_,rfl,_,rfl,_,rfl,l,vs,_,_,rfl,rfl,ag.of (s3 _ _ g1),g2,x,C,dx,_,_,rfl,s3 _ _ h1,T.cl,T.nL,aU a1 b1,_,rfl,_,rfl,a1,D,A'.shape,ax,_,fun p => V.int (A'.at_ (p.set ax (((p.getD ax 0 : Int) - z) % (Ad.along A'.shape ax : Int)).toNat)),rfl,s3 _ _ h2,hs,hx,dq.ofF f1 f2 f3,?_,fun H7 yy s7 hyy hA7 => ?_⟩
   ·intro p hp; refine ⟨_,d4 (og hp) _,?_⟩; rw [bp (h_ rfl hp hx)]; exact abt hp hx z
   ·have s37 := s3.trans s7; exact ⟨l,yy,t,kk,Ad.rolled ax z A',rfl,hk,S.keep s37,j6 (h := fun p => A'.at_ (p.set ax (((p.getD ax 0 : Int) - z) % (Ad.along A'.shape ax : Int)).toNat)) hA7,fc hs fun p hp => fu ho (hp.put hx (yg hp hx z)),k.same s37⟩
 ·obtain ⟨n,h2,ef⟩ := sZ h0; rw [Ay.step,ef] at k; refine bx (a5 h0) ?_; exact ⟨_,rfl,ba,aQ.no S (ak.refl H1) k h2⟩
theorem abR {A : Ad.Arr} {p : List Nat} {ax n : Nat} (hp : Ma.In (A.shape.set ax (Ad.along A.shape ax * n)) p) (hx : ax < A.shape.length) : (List.replicate n (vi (Ad.rowAt A ax p))).flatten[p.getD ax 0]? = some (V.int (A.at_ (p.set ax (p.getD ax 0 % Ad.along A.shape ax)))) := by
 have ha := (Ma.In.axis hp (by rw [List.length_set]; exact hx)).2; rw [Ma.mE hx] at ha
 have hpos : 0 < Ad.along A.shape ax := by
  rcases Nat.eq_zero_or_pos (Ad.along A.shape ax) with h | h
  ·rw [h,Nat.zero_mul] at ha; omega
  ·exact h
 rw [Ma.yA _ _ _ (by rw [aN,Ma.da,Nat.mul_comm]; exact ha),aN,Ma.da]; exact cy (Ma.om (Nat.mod_lt _ hpos))
theorem acP {A : Ad.Arr} {p : List Nat} {ax n : Nat} (ho : A.ok = true) (hp : Ma.In (A.shape.set ax (Ad.along A.shape ax * n)) p) (hx : ax < A.shape.length) : Ma.In A.shape (p.set ax (p.getD ax 0 % Ad.along A.shape ax)) := by
 have h2 := (Ma.aF (aG ho).1).2.1 _ (List.mem_of_getElem? (bv hx)); have := Ma.In.set hp hx (m := Ad.along A.shape ax) (p.getD ax 0 % Ad.along A.shape ax) (Nat.mod_lt _ (by omega)); rw [Ma.fN (bv hx)] at this; exact this
def n9 (K : Fg) (C : Addr) : Sp := fun vs H Q _ => ∃ (l : Addr) (t : Ay.State) (kk ax n i : Nat),vs = [.ref l,.int kk,.int ax,.int n,.int i] /\ aB C H l t /\ aQ C H l (Ay.step t (.repeat_ kk ax n i)) Q
theorem sc_call_repeat : aq ["slots","k","axis","times","i","refusal","array","lengths","rows","row"] ["slots","k","axis","times","i"] (aj fi) := fs
theorem uO (D : Df K mg "call_repeat" "call_repeat" fi ["slots","k","axis","times","i"]) (T : Txt K mg C) (a6 : Ok P w K mg base 4 "axis_refusal" ["slots","k","sources","axis"] (cA K C)) (ci : Ok P w K mg base 2 "with_length" ["lengths","axis","length"] (gj K)) (aW : Ok P w K mg base 2 "is_shape" ["lengths"] (ca K)) (be : Ok P w K mg base 4 "rows_of" ["array","axis"] (dr K C)) (a4 : Ok P w K mg base 3 "array_of_rows" ["lengths","axis","rows"] (cn K C)) (aZ : Ok P w K mg base 1 "keep" ["slots","k","array"] (b6 C)) : Ok P w K mg base 5 "call_repeat" ["slots","k","axis","times","i"] (n9 K C) := by
 refine D.ok sc_call_repeat (fun _ _ _ _ h => by obtain ⟨_,_,_,_,_,_,rfl,_⟩ := h; rfl) (fun f cdv A outer s H vs Q E hr h => ?_); obtain ⟨l,t,kk,ax,n,i,rfl,S0,k0⟩ := h
 refine ⟨_,(ad (aH 5 sc_call_repeat.nd (ap a6 hr (ab (pv 0) (ab (pv 1) (ab (az (ab (pv 4) ac)) (ab (pv 2) ac))))))
  (ad (aw (aE bz (pv 5) ai) (ae (ah (az (ab (pv 5) ac)))) ao)
  (ad (aw (PW.pt (dv (aE iG (pv 3) ai) (dm (aE k7 (pv 3) (aP T.g_MOST_TIMES))))) (ae (ah (az (ab (aP T.g_WRONG) ac)))) ao)
  (ad (aH 6 sc_call_repeat.nd (au (pv 0) (pv 4)))
  (ad (aH 7 sc_call_repeat.nd (ap ci hr (ab (aD (pv 6) rfl) (ab (pv 2) (ab (aV dj (au (aD (pv 6) rfl) (pv 2)) (pv 3)) ac)))))
  (ad (aw (bw (bg (ap aW hr (ab (pv 7) ac)))) (ae (ah (az (ab (aP T.g_BEYOND) ac)))) ao)
  (ad (cS rfl sc_call_repeat.nd (i := 8) rfl rfl (dF rfl rfl rfl (by decide +kernel)) (bD (ap be hr (ab (pv 6) (ab (pv 2) ac)))) (a8 (N := ["slots","k","axis","times","i","refusal","array","lengths","rows","row"]) (sc := aj fi) (own := [("row",9)]) (by decide +kernel)) (fun _ _ _ _ _ => (a0 9 sc_call_repeat.nd)) (fun _ _ _ _ _ => br) (fun _ _ _ _ _ => (aV acE (pv 9) (pv 3))))
  (ae (ah (ap aZ hr (ab (pv 0) (ab (pv 1) (ab (ap a4 hr (ab (pv 7) (ab (pv 2) (ab (pv 8) ac)))) ac))))))))))))),?_⟩
 refine ⟨_,rfl,_,rfl,_,rfl,ba,fun q hq => ?_⟩; have s0 : ak H (upd H q (.lst [.int i])) := ak.new hq; have hq1 : (upd H q (.lst [.int i])) q = some (.lst (vn [i])) := am; generalize upd H q (.lst [.int i]) = H1 at *; have S := S0.keep s0; have k := k0.same s0; refine ⟨_,rfl,l,q,t,kk,i,ax,[],rfl,S,ag.of hq1,_,rfl,rfl,_,rfl,?_⟩
 by_cases h0 : cw t kk i [] ax = 0
 ·refine bq (congrArg V.int h0) ?_; obtain ⟨hk,hi,A',ea,hx,ef⟩ := oj h0; rw [Ay.step,ef] at k; obtain ⟨vs,x,g1,g2,hA,ho⟩ := aB.arr S hi ea; obtain ⟨dx,a1,b1,h1,h2,h3⟩ := id hA; have hs := (aG ho).1; obtain ⟨z1,z2,z3⟩ := Ma.aF hs; refine ⟨_,rfl,_,_,rfl,rfl,_,rfl,a_ (fun h => ?_) (fun h => ?_)⟩
  ·have h4 := of_decide_eq_true h; rw [if_pos (.inl (by omega))] at k; exact ⟨ba,aQ.no S (ak.refl H1) k rfl⟩
  refine ⟨_,rfl,_,_,rfl,rfl,_,rfl,a_ (fun h4 => ?_) (fun h4 => ?_)⟩
  ·have h5 := of_decide_eq_true h4; rw [if_pos (.inr (by show 1024 < n; omega))] at k; exact ⟨ba,aQ.no S (ak.refl H1) k rfl⟩
  simp at h h4; rw [if_neg (by show ¬ (n = 0 \/ 1024 < n); omega)] at k; refine ⟨_,rfl,_,rfl,l,vs,_,_,rfl,rfl,ag.of g1,g2,?_⟩; have hle := Ma.b_ z2 _ (List.mem_of_getElem? (bv hx)); refine ⟨_,rfl,x,C,dx,_,_,rfl,h1,T.cl,T.nL,aU a1 b1,_,rfl,_,rfl,x,C,dx,_,_,rfl,h1,T.cl,T.nL,aU a1 b1,_,rfl,a1,_,_,_,rfl,rfl,ag.of h2,bC (dn (bv hx)),_,rfl,_,_,rfl,rfl,.inr ⟨by omega,by omega⟩,a1,vn A'.shape,ax,_,rfl,ag.of h2,by rw [aI]; omega,by rw [aI]; exact hx,fun H3 r s3 hr3 hr4 => ?_⟩
  have e2 : (vn A'.shape).set ax (V.int (((Ad.along A'.shape ax : Nat) : Int) * (n : Int))) = vn (A'.shape.set ax (Ad.along A'.shape ax * n)) := by
   rw [← tU,Int.natCast_mul]
  rw [e2] at hr4
  have hbd : ∀ m ∈ A'.shape.set ax (Ad.along A'.shape ax * n),m < 2 ^ 63 := fun m hm => by
   rcases List.mem_or_eq_of_mem_set hm with hm | hm
   ·exact cb hs m hm
   ·have := Nat.mul_le_mul (Nat.le_trans hle z3) (show n <= 1024 by omega); omega
  refine ⟨_,rfl,r,_,rfl,ag.of hr4,hbd,_,rfl,?_⟩
  cases e4 : Ad.shapeOk (A'.shape.set ax (Ad.along A'.shape ax * n)) with
  | false =>
   rw [if_pos e4] at k; exact ⟨ba,aQ.no S s3 k rfl⟩
  | true =>
   rw [if_neg (by rw [e4]; simp)] at k; have hjx : ax < (A'.shape.set ax (Ad.along A'.shape ax * n)).length := by rw [List.length_set]; exact hx
   have hra : Ad.removed A'.shape ax = Ad.removed (A'.shape.set ax (Ad.along A'.shape ax * n)) ax := (mX _ _ _).symm; obtain ⟨y1,y2,y3⟩ := Ma.aF (Ma.cj hs ax); refine ⟨_,rfl,_,rfl,x,A',ax,rfl,hA.keep s3,ho,hx,fun H4 u s4 hu hX => ?_⟩; obtain ⟨xs,q1,q2,q3⟩ := hX.src (K := K); rw [cq] at q2; refine ⟨u,rfl,⟨_,q1⟩,fun D hD => ?_⟩; refine oH (bW q1) (fun c => (List.replicate n ((dC ax A').getD c [])).flatten) hD (by rw [q2]; show _ <= 2 ^ 24; omega) ?_ bf ?_
   ·rintro c H5 v H6 hci sm ⟨rfl,hx1⟩ Q' kq; obtain ⟨p1,r0,rfl,e5,e6⟩ := q3 c _ hx1; obtain ⟨r1,rfl,e7,l1,l2,l3,_⟩ := dE ho hx e5; have hmul := Nat.mul_le_mul l3 (show n <= 1024 by omega); refine ⟨rfl,_,rfl,_,rfl,p1,_,_,rfl,rfl,sm _ _ e6,by omega,by omega,?_,fun p hp => kq p _ (ak.new hp) hp ?_⟩
    ·rw [aN,Int.toNat_natCast]; show _ <= 2 ^ 24; omega
    ·rw [am,bp e5,Int.toNat_natCast]
   ·intro H5 ds sm f1 f2 f3; rw [q2,hra] at f2; have s45 := s4.trans sm; have s35 := s3.trans s45; refine ⟨_,rfl,_,rfl,_,rfl,_,rfl,_,rfl,r,D,A'.shape.set ax (Ad.along A'.shape ax * n),ax,_,fun p => V.int (A'.at_ (p.set ax (p.getD ax 0 % Ad.along A'.shape ax))),rfl,s45 _ _ hr4,e4,hjx,dq.ofF f1 f2 f3,?_,fun H7 yy s7 hyy hA7 => ?_⟩
    ·intro p hp; refine ⟨_,d4 (og hp) _,?_⟩; rw [bp (oV hra hp hjx)]; exact abR hp hx
    ·have s37 := s35.trans s7; exact ⟨l,yy,t,kk,Ad.repeated ax n A',rfl,hk,S.keep s37,j6 (h := fun p => A'.at_ (p.set ax (p.getD ax 0 % Ad.along A'.shape ax))) hA7,fc e4 fun p hp => fu ho (acP ho hp hx),k.same s37⟩
 ·obtain ⟨n,h2,ef⟩ := sZ h0; rw [Ay.step,ef] at k; refine bx (a5 h0) ?_; exact ⟨_,rfl,ba,aQ.no S (ak.refl H1) k h2⟩
end
end Go

namespace Go
open PySem PySem.Spec PyProof.Rows L2
section
variable {P : Program} {w : World} {K : Fg} {mg : Str -> Option Value} {base : Heap} {C al : Addr}
theorem wW {z : Int} (h : Ad.cellFine z = true) : -1000000000000000 <= z /\ z <= 1000000000000000 := Ma.iq.mp h
def r6 : Sp := fun vs H Q _ => ∃ (op : Nat) (x y : Int),vs = [.int op,.int x,.int y] /\ Ad.cellFine x = true /\ Ad.cellFine y = true /\ Q (ov (Ma.wG op x y)) H
theorem xK : aq ["op","x","y"] ["op","x","y"] (aj kT) := fs
theorem xG (D : Df K mg "op_value" "op_value" kT ["op","x","y"]) (T : Txt K mg C) : Ok P w K mg base 1 "op_value" ["op","x","y"] (r6) := by
 refine D.ok xK (fun _ _ _ _ h => by obtain ⟨_,_,_,rfl,_⟩ := h; rfl) (fun f cdv A outer s H vs Q E hr h => ?_); obtain ⟨op,x,y,rfl,hx,hy,k⟩ := h
 refine ⟨_,(ad (aw (aE bB (pv 0) (aP T.g_SUM)) (ae (ah (aV cM (pv 1) (pv 2)))) ao)
  (ad (aw (aE bB (pv 0) (aP T.g_DIFFERENCE)) (ae (ah (aV jY (pv 1) (pv 2)))) ao)
  (ad (aw (aE bB (pv 0) (aP T.g_PRODUCT)) (ae (ah (aV dj (pv 1) (pv 2)))) ao)
  (ad (aw (aE bB (pv 0) (aP T.g_LEAST)) (ae (ah (bG (vg rfl) (by rfl) T.b_min zR (ab (pv 1) (ab (pv 2) ac))))) ao)
  (ad (aw (aE bB (pv 0) (aP T.g_MOST)) (ae (ah (bG (mh rfl) (by rfl) T.b_max tj (ab (pv 1) (ab (pv 2) ac))))) ao)
  (ad (aw (aE bB (pv 0) (aP T.g_QUOTIENT)) (ae (ah (fV (aE bB (pv 2) ai) cP (aV wm (pv 1) (pv 2))))) ao)
  (ad (aw (aE bB (pv 0) (aP T.g_REST)) (ae (ah (fV (aE bB (pv 2) ai) cP (aV jY (pv 1) (aV dj (pv 2) (aV wm (pv 1) (pv 2))))))) ao)
  (ad (aw (aE bB (pv 0) (aP T.g_BELOW)) (ae (ah (fV (aE iG (pv 1) (pv 2)) ai ai))) ao)
  (ae (ah (fV (aE bB (pv 1) (pv 2)) ai ai))))))))))),?_⟩
 have hx := wW hx; have hy := wW hy; have no : ∀ {m : Nat},¬ decide (V.int (op : Int) = V.int (m : Int)) = true -> op ≠ m := fun {m} h e => h (by rw [e]; exact decide_eq_true rfl)
 have is : ∀ {m : Nat},decide (V.int (op : Int) = V.int (m : Int)) = true -> op = m := fun {m} h => by
  have := V.int.inj (of_decide_eq_true h); omega
 refine ⟨_,rfl,rfl,_,rfl,a_ (fun h => ?_) (fun n0 => ?_)⟩
 ·cases is (m := 0) h; exact ⟨_,rfl,_,rfl,_,_,rfl,rfl,k⟩
 refine ⟨_,rfl,rfl,_,rfl,a_ (fun h => ?_) (fun n1 => ?_)⟩
 ·cases is (m := 1) h; exact ⟨_,rfl,_,rfl,_,_,rfl,rfl,k⟩
 refine ⟨_,rfl,rfl,_,rfl,a_ (fun h => ?_) (fun n2 => ?_)⟩
 ·cases is (m := 2) h; exact ⟨_,rfl,_,rfl,_,_,rfl,rfl,.inl ⟨by omega,by omega⟩,k⟩
 refine ⟨_,rfl,rfl,_,rfl,a_ (fun h => ?_) (fun n3 => ?_)⟩
 ·cases is (m := 3) h; exact ⟨_,rfl,_,rfl,_,_,rfl,k⟩
 refine ⟨_,rfl,rfl,_,rfl,a_ (fun h => ?_) (fun n4 => ?_)⟩
 ·cases is (m := 4) h; exact ⟨_,rfl,_,rfl,_,_,rfl,k⟩
 refine ⟨_,rfl,rfl,_,rfl,a_ (fun h => ?_) (fun n5 => ?_)⟩
 ·cases is (m := 5) h; have e : Ma.wG 5 x y = if y = 0 then none else some (Int.fdiv x y) := rfl
  rw [e] at k; refine ⟨_,rfl,rfl,_,rfl,a_ (fun h => ?_) (fun h => ?_)⟩
  ·rw [if_pos (V.int.inj (of_decide_eq_true h))] at k; exact k
  ·have hy0 : ¬ y = 0 := fun e => h (by rw [e]; exact decide_eq_true rfl)
   rw [if_neg hy0] at k; exact ⟨_,rfl,_,rfl,_,_,rfl,rfl,⟨hy0,by omega⟩,k⟩
 refine ⟨_,rfl,rfl,_,rfl,a_ (fun h => ?_) (fun n6 => ?_)⟩
 ·cases is (m := 6) h; have e : Ma.wG 6 x y = if y = 0 then none else some (Int.fmod x y) := rfl
  rw [e] at k; refine ⟨_,rfl,rfl,_,rfl,a_ (fun h => ?_) (fun h => ?_)⟩
  ·rw [if_pos (V.int.inj (of_decide_eq_true h))] at k; exact k
  ·have hy0 : ¬ y = 0 := fun e => h (by rw [e]; exact decide_eq_true rfl)
   rw [if_neg hy0] at k; have e2 : Int.fmod x y = x - y * Int.fdiv x y := Int.fmod_def x y; rw [e2] at k; exact ⟨_,rfl,_,rfl,_,rfl,_,rfl,_,_,rfl,rfl,⟨hy0,by omega⟩,_,_,rfl,rfl,.inl ⟨by omega,by omega⟩,_,_,rfl,rfl,k⟩
 refine ⟨_,rfl,rfl,_,rfl,a_ (fun h => ?_) (fun n7 => ?_)⟩
 ·cases is (m := 7) h; have e : Ma.wG 7 x y = some (if x < y then 1 else 0) := rfl; rw [e] at k; refine ⟨_,rfl,_,rfl,_,_,rfl,rfl,_,rfl,a_ (fun h => ?_) (fun h => ?_)⟩
  ·rw [if_pos (of_decide_eq_true h)] at k; exact k
  ·rw [if_neg (fun z => h (decide_eq_true z))] at k; exact k
 have e : Ma.wG op x y = some (if x = y then 1 else 0) := by
  have g0 := no (m := 0) n0; have g1 := no (m := 1) n1; have g2 := no (m := 2) n2; have g3 := no (m := 3) n3; have g4 := no (m := 4) n4; have g5 := no (m := 5) n5; have g6 := no (m := 6) n6; have g7 := no (m := 7) n7
  match op,g0,g1,g2,g3,g4,g5,g6,g7 with
  | 0,g,_,_,_,_,_,_,_ => exact absurd rfl g
  | 1,_,g,_,_,_,_,_,_ => exact absurd rfl g
  | 2,_,_,g,_,_,_,_,_ => exact absurd rfl g
  | 3,_,_,_,g,_,_,_,_ => exact absurd rfl g
  | 4,_,_,_,_,g,_,_,_ => exact absurd rfl g
  | 5,_,_,_,_,_,g,_,_ => exact absurd rfl g
  | 6,_,_,_,_,_,_,g,_ => exact absurd rfl g
  | 7,_,_,_,_,_,_,_,g => exact absurd rfl g
  | n + 8,_,_,_,_,_,_,_,_ => rfl
 rw [e] at k; refine ⟨_,rfl,_,rfl,rfl,_,rfl,a_ (fun h => ?_) (fun h => ?_)⟩
 ·rw [if_pos (V.int.inj (of_decide_eq_true h))] at k; exact k
 ·rw [if_neg (fun z => h (by rw [z]; exact decide_eq_true rfl))] at k; exact k
def tQ (o : Option Int) : Prop := ∀ z,o = some z -> Ad.cellFine z = true
def iQ : Sp := fun vs H Q _ => ∃ (op : Nat) (x y : Option Int),vs = [.int op,ov x,ov y] /\ tQ x /\ tQ y /\ Q (ov (Ma.fh op x y)) H
theorem sc_op_cell : aq ["op","x","y","value"] ["op","x","y"] (aj mG) := fs
theorem yW (D : Df K mg "op_cell" "op_cell" mG ["op","x","y"]) (T : Txt K mg C) (oY : Ok P w K mg base 1 "op_value" ["op","x","y"] (r6)) (bX : Ok P w K mg base 1 "is_cell" ["number"] (gh)) : Ok P w K mg base 2 "op_cell" ["op","x","y"] (iQ) := by
 refine D.ok sc_op_cell (fun _ _ _ _ h => by obtain ⟨_,_,_,rfl,_⟩ := h; rfl) (fun f cdv A outer s H vs Q E hr h => ?_); obtain ⟨op,x,y,rfl,hx,hy,k⟩ := h
 refine ⟨_,(ad (aw (PW.pt (dv (dS (eF (pv 1))) (dm (dS (eF (pv 2)))))) (ae (ah cP)) ao)
  (ad (aH 3 sc_op_cell.nd (ap oY hr (ab (pv 0) (ab (pv 1) (ab (pv 2) ac)))))
  (ad (aw (PW.pt (dv (dS (eF (pv 3))) (dm (bw (bg (ap bX hr (ab (pv 3) ac))))))) (ae (ah cP)) ao)
  (ae (ah (pv 3)))))),?_⟩
 cases x with
 | none => exact ⟨_,rfl,_,rfl,k⟩
 | some x =>
  cases y with
  | none => exact ⟨_,rfl,_,rfl,_,rfl,_,rfl,k⟩
  | some y =>
   refine ⟨_,rfl,_,rfl,_,rfl,_,rfl,?_⟩; refine ⟨_,rfl,_,rfl,_,rfl,op,x,y,rfl,hx x rfl,hy y rfl,?_⟩; have e : Ma.fh op (some x) (some y) = (Ma.wG op x y).bind fun (r : Int) => if Ad.cellFine r = true then some r else none := rfl
   rw [e] at k
   cases ez : Ma.wG op x y with
   | none =>
    rw [ez] at k; exact ⟨_,rfl,_,rfl,k⟩
   | some z =>
    rw [ez] at k; refine ⟨_,rfl,_,rfl,_,rfl,z,rfl,_,rfl,?_⟩; have k : Q (ov (if Ad.cellFine z = true then some z else none)) H := k
    cases ef : Ad.cellFine z with
    | true =>
     rw [if_pos ef] at k; exact ⟨_,rfl,k⟩
    | false =>
     rw [if_neg (by rw [ef]; simp)] at k; exact k
def jj (K : Fg) : Sp := fun vs H Q _ => ∃ (f : Nat) (a : Addr) (r : List Int),vs = [.int f,.ref a] /\ f <= 3 /\ ag K H a (vi r) /\ r ≠ [] /\ r.length <= 100000 /\ (∀ z ∈ r,Ad.cellFine z = true) /\ ∀ H' q,ak H H' -> H q = none -> H' q = some (.lst (vo (Ma.eP f r))) -> Q (.ref q) H'
theorem sc_scanned_row : aq ["f","row","folds","cell"] ["f","row"] (aj g_) := fs
theorem uF (D : Df K mg "scanned_row" "scanned_row" g_ ["f","row"]) (T : Txt K mg C) (cu : Ok P w K mg base 2 "op_cell" ["op","x","y"] (iQ)) : Ok P w K mg base 3 "scanned_row" ["f","row"] (jj K) := by
 refine D.ok sc_scanned_row (fun _ _ _ _ h => by obtain ⟨_,_,_,rfl,_⟩ := h; rfl) (fun f cdv A outer s H vs Q E hr h => ?_); obtain ⟨fo,a,r,rfl,hf,ha,hne,hl,hfine,k⟩ := h
 refine ⟨_,(ad (aH 2 sc_scanned_row.nd (az (ab (au (pv 1) ai) ac)))
  (ad (bQ PassesOwn.never rfl (bD (e_ gf (pv 1) (eL ai) i_)) (a0 3 sc_scanned_row.nd) (ae (cE (gn PySem.F.plainAttrs_list PySem.F.slot_list_append PySem.F.type_list_append c7 (pv 2) (ab (ap cu hr (ab (rA tG (abE T.t_FOLD_OPS rfl) (pv 0) (fun _ _ => rfl)) (ab (au (pv 2) (rk nZ ai)) (ab (pv 3) ac)))) ac)))))
  (ae (ah (pv 2))))),?_⟩
 have hpos : 0 < r.length := List.length_pos_iff.mpr hne; have h0 : r[0]? = some (r.getD 0 0) := lH hpos; refine ⟨_,rfl,a,_,_,_,rfl,rfl,ha,(bC (j := 0) (cy h0) : fj (vi r) 0 = _),ba,fun d hd => ?_⟩; have s1 : ak H (upd H d (.lst [.int (r.getD 0 0)])) := ak.new hd
 have hd1 : (upd H d (.lst [.int (r.getD 0 0)])) d = some (.lst (vo ((List.range (0 + 1)).map fun i => Ad.foldRow fo (r.take (i + 1))))) := by
  rw [am]
  have e : r.take 1 = [r.getD 0 0] := by
   rw [bT h0]; rfl
  show _ = some (HO.lst [ov (Ad.foldRow fo (r.take 1))]); rw [e]; rfl
 generalize upd H d (.lst [.int (r.getD 0 0)]) = H1 at *; refine ⟨_,rfl,_,rfl,a,_,rfl,s1.seq ha,fun q hq => ?_⟩
 have e : eN (vi r) (some (1 : Int)) none = vi (r.drop 1) := by
  have := jT (vi r) 1; rw [← uV]; exact this
 rw [e]; have s2 : ak H1 (upd H1 q (.lst (vi (r.drop 1)))) := ak.new hq; have hq2 : (upd H1 q (.lst (vi (r.drop 1)))) q = some (.lst (vi (r.drop 1))) := am; have hqd : q ≠ d := fun e => by rw [e,hd1] at hq; cases hq
 generalize upd H1 q (.lst (vi (r.drop 1))) = H2 at *
 refine ⟨q,rfl,⟨_,ag.of hq2⟩,d7 (K := K) (a := q) (xs := vi (r.drop 1)) (fun i σ H' => ∃ (v : Option V),σ = [some (.int fo),some (.ref a),some (.ref d),v] /\ H' d = some (.lst (vo ((List.range (i + 1)).map fun i => Ad.foldRow fo (r.take (i + 1))))) /\ H' q = some (.lst (vi (r.drop 1))) /\ ak H H')
  ⟨none,rfl,s2 _ _ hd1,hq2,s1.trans s2⟩ (fun i σ H' _ ⟨_,_,_,e,_⟩ => ag.of e) ?_ ?_⟩
 ·rintro i x σ H' hi ⟨v,rfl,hd',hq',sm⟩; obtain ⟨z,hz,rfl⟩ := dN hi; rw [List.getElem?_drop] at hz; have hz2 : r[i + 1]? = some z := by rw [Nat.add_comm]; exact hz
  have hlt := (List.getElem?_eq_some_iff.mp hz2).1
  have hlast : fj (vo ((List.range (i + 1)).map fun i => Ad.foldRow fo (r.take (i + 1)))) (-1) = some (ov (Ad.foldRow fo (r.take (i + 1)))) := by
   rw [List.range_succ,List.map_append]; show fj (List.map ov (_ ++ _)) (-1) = _; rw [List.map_append]; exact aaW _ _
  refine ⟨_,rfl,.inl ⟨rfl,_,ag.of hd'⟩,fun fa hfa => ⟨_,rfl,fa,_,_,_,rfl,rfl,hfa H',bC (dn (l := [0,2,3,4]) (Ma.zD hf)),_,rfl,_,rfl,d,_,_,_,rfl,rfl,ag.of hd',hlast,_,rfl,Ad.foldOp fo,Ad.foldRow fo (r.take (i + 1)),some z,rfl,?_,?_,?_⟩⟩
  ·intro y hy; exact Ma.pR (fun u hu => hfine u (List.mem_of_mem_take hu)) hy
  ·intro y hy; cases hy; exact hfine z (List.mem_of_getElem? hz2)
  ·refine ⟨d,_,_,rfl,rfl,hd',(by rw [List.length_map,List.length_map,List.length_range]; show _ < 2 ^ 24; omega),_,rfl,?_,?_,sm.upd hd⟩
   ·rw [am,List.range_succ (n := i + 1),List.map_append]; show _ = some (HO.lst (List.map ov (_ ++ [Ad.foldRow fo (r.take (i + 1 + 1))]))); rw [List.map_append,bT hz2,Ma.aaz]
    ·rfl
    ·intro e; have := congrArg List.length e; rw [List.length_take,List.length_nil] at this; omega
   ·rw [aK hqd]; exact hq'
 ·rintro σ H' ⟨v,rfl,hd',hq',sm⟩; rw [aN,List.length_drop,show r.length - 1 + 1 = r.length by omega] at hd'; exact ⟨_,rfl,k H' d sm hd hd'⟩
def pM (K : Fg) : Sp := fun vs H Q _ => ∃ (f : Nat) (a : Addr) (r : List Int),vs = [.int f,.ref a] /\ f <= 3 /\ ag K H a (vi r) /\ r ≠ [] /\ r.length <= 100000 /\ (∀ z ∈ r,Ad.cellFine z = true) /\ ∀ H',ak H H' -> Q (ov (Ad.foldRow f r)) H'
theorem vM : aq ["f","row"] ["f","row"] (aj iz) := fs
theorem vT (D : Df K mg "folded_row" "folded_row" iz ["f","row"]) (T : Txt K mg C) (dR : Ok P w K mg base 3 "scanned_row" ["f","row"] (jj K)) : Ok P w K mg base 4 "folded_row" ["f","row"] (pM K) := by
 refine D.ok vM (fun _ _ _ _ h => by obtain ⟨_,_,_,rfl,_⟩ := h; rfl) (fun f cdv A outer s H vs Q E hr h => ?_); obtain ⟨fo,a,r,rfl,hf,ha,hne,hl,hfine,k⟩ := h; refine ⟨_,(ae (ah (au (ap dR hr (ab (pv 0) (ab (pv 1) ac))) (rk nZ ai)))),?_⟩; have hpos : 0 < r.length := List.length_pos_iff.mpr hne; refine ⟨_,rfl,_,rfl,fo,a,r,rfl,hf,ha,hne,hl,hfine,fun H1 q s1 hq hq1 => ?_⟩; refine ⟨_,rfl,q,_,_,_,rfl,rfl,ag.of hq1,?_,k H1 s1⟩; unfold fj fU; rw [List.length_map,Ma.oK,if_neg (by omega),if_pos (by omega)]; show (vo _)[((-1 : Int) + (r.length : Nat)).toNat]? = _; rw [show ((-1 : Int) + (r.length : Nat)).toNat = r.length - 1 by omega]; exact wR (Ma.zP hne)
end
end Go

namespace Go
open PySem PySem.Spec PyProof.Rows L2
section
variable {P : Program} {w : World} {K : Fg} {mg : Str -> Option Value} {base : Heap} {C al : Addr}
def bU (C : Addr) : Sp := fun vs H Q _ => ∃ (l x : Addr) (t : Ay.State) (kk : Nat) (s : List Nat) (os : List (Option Int)),vs = [.ref l,.int kk,.ref x] /\ kk < 8 /\ aB C H l t /\ uG C H x s (vo os) /\ Ad.shapeOk s = true /\ os.length = Ad.product_ s /\ (∀ z,some z ∈ os -> Ad.cellFine z = true) /\ aQ C H l (Ay.came t kk ((Ad.allOf os).map fun (r : List Int) => (⟨s,r⟩ : Ad.Arr))) Q
theorem sV : aq ["slots","k","array"] ["slots","k","array"] (aj fG) := fs
theorem sy (D : Df K mg "keep_reckoned" "keep_reckoned" fG ["slots","k","array"]) (T : Txt K mg C) (aZ : Ok P w K mg base 1 "keep" ["slots","k","array"] (b6 C)) : Ok P w K mg base 2 "keep_reckoned" ["slots","k","array"] (bU C) := by
 refine D.ok sV (fun _ _ _ _ h => by obtain ⟨_,_,_,_,_,_,rfl,_⟩ := h; rfl) (fun f cdv A outer s H vs Q E hr h => ?_); obtain ⟨l,x,t,kk,sh,os,rfl,hk,S,⟨dx,a,b,h1,h2,h3⟩,hs,hl,hf,k⟩ := h
 refine ⟨_,(ad (aw (yb aax cP (aD (pv 2) rfl) rfl) (ae (ah (az (ab (aP T.g_BEYOND) ac)))) ao)
  (ae (ah (ap aZ hr (ab (pv 0) (ab (pv 1) (ab (pv 2) ac))))))),?_⟩
 refine ⟨_,rfl,x,C,dx,_,_,rfl,h1,T.cl,T.nC,cr a b,b,_,rfl,.inl (ag.of h3),rfl,ab5 os,_,rfl,?_⟩
 show if (yw .non (vo os)) = true then _ else _
 rw [adf]
 by_cases hn : none ∈ os
 ·refine dA hn ?_; rw [Ma.gl hn] at k; exact ⟨ba,aQ.no S (ak.refl H) k rfl⟩
 ·refine dw hn ?_; obtain ⟨r,hr2⟩ := Ma.mr hn; have e := Ma.allOf_map.mp hr2; rw [hr2] at k; have k : aQ C H l (if Ad.shapeOk sh = true then Ay.put t kk ⟨sh,r⟩ else (t,Ay.no 6)) Q := k; rw [if_pos hs] at k; rw [e,yC] at h3; refine ⟨_,rfl,_,rfl,_,rfl,l,x,t,kk,⟨sh,r⟩,rfl,hk,S,⟨dx,a,b,h1,h2,h3⟩,iC hs ?_ ?_,k⟩
  ·show r.length = _; rw [← hl,e,List.length_map]
  ·intro z hz; exact hf z (by rw [e]; exact List.mem_map.mpr ⟨z,hz,rfl⟩)
def jP (K : Fg) : Sp := fun vs H Q _ => ∃ (a : Addr) (s : List Nat) (r : Nat),vs = [.ref a,.int r] /\ H a = some (.lst (vn s)) /\ s.length <= r /\ r <= 1000 /\ ∀ H' q,ak H H' -> H q = none -> H' q = some (.lst (vn (Ad.padded r s))) -> Q (.ref q) H'
theorem sc_with_ones_ahead : aq ["lengths","rank","axis"] ["lengths","rank"] (aj dl) := fs
theorem qw (D : Df K mg "with_ones_ahead" "with_ones_ahead" dl ["lengths","rank"]) (T : Txt K mg C) : Ok P w K mg base 1 "with_ones_ahead" ["lengths","rank"] (jP K) := by
 refine D.ok sc_with_ones_ahead (fun _ _ _ _ h => by obtain ⟨_,_,_,rfl,_⟩ := h; rfl) (fun f cdv A outer s H vs Q E hr h => ?_); obtain ⟨a,ns,r,rfl,ha,hl,hr1,k⟩ := h; refine ⟨_,(ae (ah (aV iE (dt rfl sc_with_ones_ahead.nd (dX rfl T.b_range (ab (aV jY (pv 1) (bA T.b_len (pv 0))) ac)) (a8 (N := ["lengths","rank","axis"]) (sc := aj dl) (own := [("axis",2)]) (by decide +kernel)) (fun _ _ _ _ _ => (a0 2 sc_with_ones_ahead.nd)) (fun _ _ _ _ _ => br) (fun _ _ _ _ _ => ai)) (pv 0)))),?_⟩; have hvl := aI ns; refine ⟨_,rfl,_,rfl,a,_,rfl,.inl (ag.of ha),_,_,rfl,rfl,_,rfl,by omega,by omega,fun D hD => ?_⟩; refine cz (fM) (fun i => V.int 1) hD (by show _ <= 2 ^ 24; omega) ?_ bf ?_
 ·rintro i H1 v H2 hi sm ⟨rfl,rfl⟩ Q' kq; exact ⟨rfl,kq _ (ak.refl _)⟩
 ·intro H1 sm hd; refine ⟨_,rfl,D,a,_,_,rfl,rfl,hd,sm _ _ ha,(by rw [List.length_map,List.length_range]; show _ <= 2 ^ 24; omega),fun p hp => ?_⟩; refine k _ p (sm.upd (sm.free hp)) (sm.free hp) ?_; rw [am]; congr 2; unfold Ad.padded; rw [p9]; congr 1; rw [hvl,show ((r : Int) - (ns.length : Int)).toNat = r - ns.length by omega]; apply List.ext_getElem?; intro i
  by_cases hi : i < r - ns.length
  ·rw [d4 hi]; refine (dn ?_).symm; rw [List.getElem?_replicate,if_pos hi]
  ·rw [List.getElem?_eq_none (by simp; omega),List.getElem?_eq_none (by simp; omega)]
def jV (K : Fg) : Sp := fun vs H Q _ => ∃ (a b : Addr) (s g : List Nat),vs = [.ref a,.ref b] /\ H a = some (.lst (vn s)) /\ H b = some (.lst (vn g)) /\ Ad.shapeOk s = true /\ Ad.shapeOk g = true ∧
 (∀ H',ak H H' -> Ad.meet s g = none -> Q .non H') /\ ∀ H' q m,ak H H' -> H q = none -> Ad.meet s g = some m -> H' q = some (.lst (vn m)) -> Q (.ref q) H'
theorem sc_meeting_lengths : aq ["first","second","rank","met","one","other"] ["first","second"] (aj et) := fs
theorem qP (D : Df K mg "meeting_lengths" "meeting_lengths" et ["first","second"]) (T : Txt K mg C) (d_ : Ok P w K mg base 1 "with_ones_ahead" ["lengths","rank"] (jP K)) : Ok P w K mg base 2 "meeting_lengths" ["first","second"] (jV K) := by
 refine D.ok sc_meeting_lengths (fun _ _ _ _ h => by obtain ⟨_,_,_,_,rfl,_⟩ := h; rfl) (fun f cdv A outer s H vs Q E hr h => ?_); obtain ⟨a,b,s1,g1,rfl,ha,hb,hs,hg,kn,ky⟩ := h
 refine ⟨_,(ad (aH 2 sc_meeting_lengths.nd (bG (mh rfl) (by rfl) T.b_max tj (ab (bA T.b_len (pv 0)) (ab (bA T.b_len (pv 1)) ac))))
  (ad (aH 3 sc_meeting_lengths.nd (az ac))
  (ad (bQ PassesOwn.never rfl (fk rfl T.b_zip (ab (ap d_ hr (ab (pv 0) (ab (pv 2) ac))) (ab (ap d_ hr (ab (pv 1) (ab (pv 2) ac))) ac))) (gF rfl (bd (a0 4 sc_meeting_lengths.nd) (bd (a0 5 sc_meeting_lengths.nd) cQ))) (ad (aw (PW.pt (oh (aE bz (pv 4) (pv 5)) (oh (aE bz (pv 4) ai) (rl (aE bz (pv 5) ai))))) (ae (ah cP)) ao)
  (ae (cE (gn PySem.F.plainAttrs_list PySem.F.slot_list_append PySem.F.type_list_append c7 (pv 3) (ab (bG (mh rfl) (by rfl) T.b_max tj (ab (pv 4) (ab (pv 5) ac))) ac))))))
  (ae (ah (pv 3)))))),?_⟩
 obtain ⟨z1,z2,z3⟩ := Ma.aF hs; obtain ⟨y1,y2,y3⟩ := Ma.aF hg; refine ⟨_,rfl,a,_,rfl,.inl (ag.of ha),_,rfl,b,_,rfl,.inl (ag.of hb),_,_,rfl,?_⟩; rw [aI,aI]
 have er : (if (g1.length : Int) > (s1.length : Int) then (g1.length : Int) else (s1.length : Int)) = ((max s1.length g1.length : Nat) : Int) := by
  split <;> omega
 rw [er]; have hr4 : max s1.length g1.length <= 4 := by omega
 have l1 : s1.length <= max s1.length g1.length := Nat.le_max_left ..; have l2 : g1.length <= max s1.length g1.length := Nat.le_max_right ..; have em : Ad.meet s1 g1 = Ad.meetEach ((Ad.padded (max s1.length g1.length) s1).zip (Ad.padded (max s1.length g1.length) g1)) := rfl; rw [em] at kn ky; generalize max s1.length g1.length = r at *; have pl1 := Ma.dW l1; have pl2 := Ma.dW l2; have pp1 := Ma.s_ (r := r) z2; have pp2 := Ma.s_ (r := r) y2; refine ⟨Nat.zero_le _,fun d hd => ?_⟩; have t1 : ak H (upd H d (.lst [])) := ak.new hd; have hd1 : (upd H d (.lst [])) d = some (.lst []) := am; generalize upd H d (.lst []) = H1 at *; refine ⟨_,rfl,_,rfl,a,s1,r,rfl,t1 _ _ ha,l1,by omega,fun H2 u t2 hu hu2 => ?_⟩; refine ⟨_,rfl,_,rfl,b,g1,r,rfl,(t1.trans t2) _ _ hb,l2,by omega,fun H3 v t3 hv hv2 => ?_⟩; have t23 := t2.trans t3; have t13 := t1.trans t23; have hu3 := t3 _ _ hu2; have hd3 := t23 _ _ hd1; have hud : u ≠ d := fun e => by rw [e,hd1] at hu; cases hu
 have hvd : v ≠ d := fun e => by rw [e,t2 _ _ hd1] at hv; cases hv
 generalize Ad.padded r s1 = X1 at *; generalize Ad.padded r g1 = X2 at *; have hzl : (X1.zip X2).length = r := by rw [List.length_zip,pl1,pl2,Nat.min_self]
 refine ⟨u,v,_,_,rfl,ag.of hu3,ag.of hv2,im (K := K) (a := u) (b := v) (xs := vn X1) (ys := vn X2)
  (fun i σ H' => ∃ (v1 v2 : Option V),σ = [some (.ref a),some (.ref b),some (.int (r : Int)),some (.ref d),v1,v2] /\ H' d = some (.lst (vn (((X1.zip X2).take i).map fun p => max p.1 p.2))) /\ (∀ p ∈ (X1.zip X2).take i,p.1 = p.2 \/ p.1 = 1 \/ p.2 = 1) /\ H' u = some (.lst (vn X1)) /\ H' v = some (.lst (vn X2)) /\ ak H H')
  ⟨none,none,rfl,hd3,(fun p hp => by simp at hp),hu3,hv2,t13⟩ (by rw [aI,aI,pl1,pl2]) (fun i σ H' _ ⟨_,_,_,_,_,e1,e2,_⟩ => ⟨ag.of e1,ag.of e2⟩) ?_ ?_⟩
 ·rintro i x y σ H' TT hx0 hy0 hT ⟨v1,v2,rfl,hd',hok,hu',hv',sm⟩; obtain ⟨x,hx,rfl⟩ := cJ hx0; obtain ⟨y,hy,rfl⟩ := cJ hy0; have hz : (X1.zip X2)[i]? = some (x,y) := List.getElem?_zip_eq_some.mpr ⟨hx,hy⟩; have hi : i < r := by rw [← hzl]; exact (List.getElem?_eq_some_iff.mp hz).1
  have sT : ak H' (upd H' TT (.tup [.int x,.int y])) := ak.new hT; have hx1 := pp1 x (List.mem_of_getElem? hx); have hy1 := pp2 y (List.mem_of_getElem? hy)
  have nxt : (x = y \/ x = 1 \/ y = 1) -> ∀ p ∈ (X1.zip X2).take (i + 1),p.1 = p.2 \/ p.1 = 1 \/ p.2 = 1 := fun hxy p hp => by
   rw [bT hz] at hp
   rcases List.mem_append.mp hp with q | q
   ·exact hok p q
   ·have e : p = (x,y) := by simpa using q
    rw [e]; exact hxy
  have fin : (x = y \/ x = 1 \/ y = 1) -> ∀ D : kf,(∀ (H2 : Hp) (v1 v2 : Option V),H2 d = some (.lst (vn (((X1.zip X2).take (i + 1)).map fun p => max p.1 p.2))) -> H2 u = some (.lst (vn X1)) -> H2 v = some (.lst (vn X2)) -> ak H H2 -> D.nx [some (.ref a),some (.ref b),some (.int (r : Int)),some (.ref d),v1,v2] H2) →
    D.nx [some (.ref a),some (.ref b),some (.int (r : Int)),some (.ref d),some (.int x),some (.int y)] (upd (upd H' TT (.tup [.int x,.int y])) d (.lst (vn (((X1.zip X2).take i).map fun p => max p.1 p.2) ++ [.int (if (y : Int) > (x : Int) then (y : Int) else (x : Int))]))) := fun hxy D hD => by
   refine hD _ _ _ ?_ ?_ ?_ ((sm.trans sT).upd hd)
   ·rw [am,bT hz,List.map_append,p9]; congr 3; show [V.int _] = [V.int ((max x y : Nat) : Int)]; congr 2
    split <;> omega
   ·rw [aK hud]; exact sT _ _ hu'
   ·rw [aK hvd]; exact sT _ _ hv'
  have hlen : (vn (((X1.zip X2).take i).map fun p => max p.1 p.2)).length < 2 ^ 24 := by
   rw [aI,List.length_map,List.length_take]; omega
  refine ⟨TT,_,rfl,cx.of am,rfl,_,_,rfl,_,_,rfl,rfl,_,rfl,_,rfl,rfl,_,rfl,?_⟩
  by_cases hxy : x = y
  ·refine bq (by rw [hxy]) ?_; refine ⟨_,rfl,.inl ⟨rfl,_,ag.of (sT _ _ hd')⟩,_,rfl,_,rfl,_,_,rfl,d,_,_,rfl,rfl,sT _ _ hd',hlen,fin (.inl hxy) _ fun H2 v1 v2 w1 w2 w3 w4 => ⟨v1,v2,rfl,w1,nxt (.inl hxy),w2,w3,w4⟩⟩
  refine bx (a5 (by omega)) ?_; refine ⟨_,rfl,rfl,_,rfl,?_⟩
  by_cases hx1' : x = 1
  ·refine bq (by rw [hx1']; rfl) ?_; refine ⟨_,rfl,.inl ⟨rfl,_,ag.of (sT _ _ hd')⟩,_,rfl,_,rfl,_,_,rfl,d,_,_,rfl,rfl,sT _ _ hd',hlen,fin (.inr (.inl hx1')) _ fun H2 v1 v2 w1 w2 w3 w4 => ⟨v1,v2,rfl,w1,nxt (.inr (.inl hx1')),w2,w3,w4⟩⟩
  refine bx (a5 (by omega)) ?_; refine ⟨_,rfl,rfl,_,rfl,?_⟩
  by_cases hy1' : y = 1
  ·refine bq (by rw [hy1']; rfl) ?_; refine ⟨_,rfl,.inl ⟨rfl,_,ag.of (sT _ _ hd')⟩,_,rfl,_,rfl,_,_,rfl,d,_,_,rfl,rfl,sT _ _ hd',hlen,fin (.inr (.inr hy1')) _ fun H2 v1 v2 w1 w2 w3 w4 => ⟨v1,v2,rfl,w1,nxt (.inr (.inr hy1')),w2,w3,w4⟩⟩
  refine bx (a5 (by omega)) ?_; exact kn _ (sm.trans sT) (Ma.pA (List.mem_of_getElem? hz) hxy hx1' hy1')
 ·rintro σ H' ⟨v1,v2,rfl,hd',hok,hu',hv',sm⟩; rw [aI,pl1,← hzl,List.take_length] at hd' hok; refine ⟨_,rfl,ky H' d _ sm hd (Ma.sf (fun p hp => ?_) hok) hd'⟩; exact ⟨pp1 _ (List.of_mem_zip hp).1,pp2 _ (List.of_mem_zip hp).2⟩
end
end Go

namespace Go
open PySem PySem.Spec PyProof.Rows L2
section
variable {P : Program} {w : World} {K : Fg} {mg : Str -> Option Value} {base : Heap} {C al : Addr}
theorem ms {A : Ad.Arr} {s : List Nat} (ho : A.ok = true) (hs : Ad.shapeOk s = true) (hsp : Ad.spreads A.shape s = true) : (Ad.spreadTo A s).ok = true := fc hs fun p hp => fu ho (Ma.mN hsp hp)
def wd (op : Nat) (s : List Nat) (A B : Ad.Arr) : List (Option Int) := ((Ad.spreadTo A s).cells.zip (Ad.spreadTo B s).cells).map fun (z : Int × Int) => Ad.opOf op z.1 z.2
theorem mj {l : List Int} (h : ∀ z ∈ l,Ad.cellFine z = true) {i : Nat} {z : Int} (e : l[i]? = some z) : tQ (some z) := fun y hy => by
 cases hy; exact h z (List.mem_of_getElem? e)
def kO (K : Fg) (C : Addr) : Sp := fun vs H Q _ => ∃ (op : Nat) (x y b : Addr) (A B : Ad.Arr) (s : List Nat),vs = [.int op,.ref x,.ref y,.ref b] /\ b0 C H x A /\ b0 C H y B /\ A.ok = true /\ B.ok = true /\ H b = some (.lst (vn s)) /\ Ad.shapeOk s = true /\ Ad.spreads A.shape s = true /\ Ad.spreads B.shape s = true ∧
 ∀ H' z,ak H H' -> H z = none -> uG C H' z s (vo (wd op s A B)) -> Q (.ref z) H'
theorem sc_reckoned_array : aq ["op","first","second","lengths","ahead","behind","x","y"] ["op","first","second","lengths"] (aj dJ) := fs
theorem rM (D : Df K mg "reckoned_array" "reckoned_array" dJ ["op","first","second","lengths"]) (T : Txt K mg C) (cR : Ok P w K mg base 3 "spread_array" ["array","lengths"] (iI K C)) (cu : Ok P w K mg base 2 "op_cell" ["op","x","y"] (iQ)) (aS : dO P w K mg base 1 "Array" C ["self","lengths","cells"] (bO C)) : Ok P w K mg base 4 "reckoned_array" ["op","first","second","lengths"] (kO K C) := by
 refine D.ok sc_reckoned_array (fun _ _ _ _ h => by obtain ⟨_,_,_,_,_,_,_,rfl,_⟩ := h; rfl) (fun f cdv A outer s H vs Q E hr h => ?_); obtain ⟨op,x,y,b,A',B',s1,rfl,hA,hB,ho,ho',hb,hs,hsp,hsp',k⟩ := h
 refine ⟨_,(ad (aH 4 sc_reckoned_array.nd (aD (ap cR hr (ab (pv 1) (ab (pv 3) ac))) rfl))
  (ad (aH 5 sc_reckoned_array.nd (aD (ap cR hr (ab (pv 2) (ab (pv 3) ac))) rfl))
  (ae (ah (dZ aS hr (ab (pv 3) (ab (dt rfl sc_reckoned_array.nd (fk rfl T.b_zip (ab (pv 4) (ab (pv 5) ac))) (a8 (N := ["op","first","second","lengths","ahead","behind","x","y"]) (sc := aj dJ) (own := [("x",6),("y",7)]) (by decide +kernel)) (fun _ _ _ _ _ => (lf K rfl (n := 2) rfl (bd (a0 6 sc_reckoned_array.nd) (bd (a0 7 sc_reckoned_array.nd) cQ)))) (fun _ _ _ _ _ => br) (fun _ _ _ _ _ => (ap cu hr (ab (pv 0) (ab (pv 6) (ab (pv 7) ac)))))) ac))))))),?_⟩
 obtain ⟨z1,z2,z3⟩ := Ma.aF hs; refine ⟨_,rfl,_,rfl,x,b,A',s1,rfl,hA,ho,hb,hs,hsp,fun H1 u t1 hu hA1 => ?_⟩; obtain ⟨dx,a1,b1,h1,h2,h3⟩ := id hA1; refine ⟨u,C,dx,_,_,rfl,h1,T.cl,T.nC,cr a1 b1,?_⟩; refine ⟨_,rfl,_,rfl,y,b,B',s1,rfl,hB.keep t1,ho',t1 _ _ hb,hs,hsp',fun H2 v t2 hv hA2 => ?_⟩; obtain ⟨dy,a2,b2,h1',h2',h3'⟩ := id hA2; refine ⟨v,C,dy,_,_,rfl,h1',T.cl,T.nC,cr a2 b2,?_⟩; have hx3 := t2 _ _ h3; have o1 := ms ho hs hsp; have o2 := ms ho' hs hsp'; have l1 : (Ad.spreadTo A' s1).cells.length = Ad.product_ s1 := (aG o1).2.1; have l2 : (Ad.spreadTo B' s1).cells.length = Ad.product_ s1 := (aG o2).2.1; have f1 := (aG o1).2.2; have f2 := (aG o2).2.2; have ebo : wd op s1 A' B' = ((Ad.spreadTo A' s1).cells.zip (Ad.spreadTo B' s1).cells).map fun (z : Int × Int) => Ad.opOf op z.1 z.2 := rfl
 rw [ebo] at k; generalize (Ad.spreadTo A' s1).cells = xs at *; generalize (Ad.spreadTo B' s1).cells = ys at *; have t12 := t1.trans t2; refine ⟨_,rfl,_,rfl,_,rfl,b1,b2,_,_,rfl,ag.of hx3,ag.of h3',fun D hD => ?_⟩; refine cz (rm (ag.of hx3) (ag.of h3') (by rw [aN,aN,l1,l2])) (fun i => ov (Ad.opOf op (xs.getD i 0) (ys.getD i 0))) hD (by rw [aN]; show _ <= 2 ^ 24; omega) ?_ j0 ?_
 ·rintro i H3 v H4 hi sm ⟨TT,x0,y0,rfl,hT,rfl,hx0,hy0⟩ Q' kq; obtain ⟨x1,hx1,rfl⟩ := dN hx0; obtain ⟨y1,hy1,rfl⟩ := dN hy0; refine ⟨TT,_,rfl,cx.of am,rfl,_,_,rfl,_,_,rfl,rfl,rfl,_,rfl,_,rfl,_,rfl,op,some x1,some y1,rfl,mj f1 hx1,mj f2 hy1,?_⟩; have kq2 := kq (upd H3 TT (.tup [.int x1,.int y1])) (ak.new hT); rw [bp hx1,bp hy1] at kq2; exact kq2
 ·intro H3 sm hd
  have e : (List.range (vi xs).length).map (fun i => ov (Ad.opOf op (xs.getD i 0) (ys.getD i 0))) = vo ((xs.zip ys).map fun (z : Int × Int) => Ad.opOf op z.1 z.2) := by
   rw [aN]; show _ = List.map ov (List.map _ _); rw [List.map_map]; exact Ma.wu (fun a b => ov (Ad.opOf op a b)) 0 0 (by rw [l1,l2])
  rw [e] at hd; have t13 := t12.trans sm; exact j4 (Q := Q) (t13 _ _ hb) hd fun z H4 hz t4 hA4 => k H4 z (t13.trans t4) (t13.free hz) hA4
def jy (t : Ay.State) (k f ax i : Nat) : Int := if cw t k i [] ax = 0 then (if 4 <= f then -1 else 0) else cw t k i [] ax
def iV (C : Addr) : Sp := fun vs H Q _ => ∃ (l : Addr) (t : Ay.State) (kk f ax i : Nat),vs = [.ref l,.int kk,.int f,.int ax,.int i] /\ aB C H l t /\ ∀ H',ak H H' -> Q (.int (jy t kk f ax i)) H'
theorem sc_fold_refusal : aq ["slots","k","f","axis","i","refusal"] ["slots","k","f","axis","i"] (aj gd) := fs
theorem ul (D : Df K mg "fold_refusal" "fold_refusal" gd ["slots","k","f","axis","i"]) (T : Txt K mg C) (a6 : Ok P w K mg base 4 "axis_refusal" ["slots","k","sources","axis"] (cA K C)) : Ok P w K mg base 5 "fold_refusal" ["slots","k","f","axis","i"] (iV C) := by
 refine D.ok sc_fold_refusal (fun _ _ _ _ h => by obtain ⟨_,_,_,_,_,_,rfl,_⟩ := h; rfl) (fun f cdv A outer s H vs Q E hr h => ?_); obtain ⟨l,t,kk,fo,ax,i,rfl,S0,k⟩ := h
 refine ⟨_,(ad (aH 5 sc_fold_refusal.nd (ap a6 hr (ab (pv 0) (ab (pv 1) (ab (az (ab (pv 4) ac)) (ab (pv 3) ac))))))
  (ad (aw (aE bz (pv 5) ai) (ae (ah (pv 5))) ao)
  (ad (aw (aE ml (pv 2) (bA T.b_len (abE T.t_FOLD_OPS rfl))) (ae (ah (aP T.g_WRONG))) ao)
  (ae (ah ai))))),?_⟩
 refine ⟨_,rfl,_,rfl,_,rfl,ba,fun q hq => ?_⟩; have s0 : ak H (upd H q (.lst [.int i])) := ak.new hq; have hq1 : (upd H q (.lst [.int i])) q = some (.lst (vn [i])) := am; generalize upd H q (.lst [.int i]) = H1 at *; refine ⟨_,rfl,l,q,t,kk,i,ax,[],rfl,S0.keep s0,ag.of hq1,_,rfl,rfl,_,rfl,?_⟩; have k := k _ s0
 by_cases h0 : cw t kk i [] ax = 0
 ·refine bq (congrArg V.int h0) ?_; rw [jy,if_pos h0] at k; refine ⟨_,rfl,fun fa hfa => ⟨fa,_,rfl,.inr (hfa H1),_,_,rfl,rfl,_,rfl,a_ (fun h => ?_) (fun h => ?_)⟩⟩
  ·have h4 : (4 : Int) <= (fo : Int) := of_decide_eq_true h; rw [if_pos (by omega)] at k; exact k
  ·have h4 : ¬ (4 : Int) <= (fo : Int) := fun z => h (decide_eq_true z)
   rw [if_neg (by omega)] at k; exact k
 ·rw [jy,if_neg h0] at k; refine bx (a5 h0) ?_; exact ⟨_,rfl,k⟩
theorem aaj {t : Ay.State} {k fo i ax : Nat} (h : jy t k fo ax i = 0) : fo <= 3 /\ k < 8 /\ i < 8 /\ ∃ A,t.getD i none = some A /\ ax < A.shape.length /\ ∀ f : Ad.Arr -> Ay.State × Ay.Answer,Ay.into t k (Ay.ofSlot t i fun a => Ay.ofAxis t ax a (if 3 < fo then (t,Ay.no 1) else f a)) = f A := by
 unfold jy at h
 by_cases h0 : cw t k i [] ax = 0
 ·rw [if_pos h0] at h; obtain ⟨hk,hi,A,ea,hx,ef⟩ := oj h0
  by_cases hf : 4 <= fo
  ·rw [if_pos hf] at h; cases h
  ·refine ⟨by omega,hk,hi,A,ea,hx,fun f => ?_⟩; rw [ef,if_neg (by omega)]
 ·rw [if_neg h0] at h; exact absurd h h0
theorem abC {t : Ay.State} {k fo i ax : Nat} (h : ¬ jy t k fo ax i = 0) : ∃ n : Nat,jy t k fo ax i = -(n : Int) /\ ∀ f : Ad.Arr -> Ay.State × Ay.Answer,Ay.into t k (Ay.ofSlot t i fun a => Ay.ofAxis t ax a (if 3 < fo then (t,Ay.no 1) else f a)) = (t,Ay.no n) := by
 unfold jy at h ⊢
 by_cases h0 : cw t k i [] ax = 0
 ·rw [if_pos h0] at h ⊢; obtain ⟨hk,hi,A,ea,hx,ef⟩ := oj h0
  by_cases hf : 4 <= fo
  ·rw [if_pos hf]; refine ⟨1,rfl,fun f => ?_⟩; rw [ef,if_pos (by omega)]
  ·rw [if_neg hf] at h; exact absurd rfl h
 ·rw [if_neg h0]; obtain ⟨n,e,ef⟩ := sZ h0; exact ⟨n,e,fun f => ef _⟩
def p8 (K : Fg) (C : Addr) : Sp := fun vs H Q _ => ∃ (l : Addr) (t : Ay.State) (kk op i j : Nat),vs = [.ref l,.int kk,.int op,.int i,.int j] /\ aB C H l t /\ aQ C H l (Ay.step t (.both kk op i j)) Q
theorem sc_call_both : aq ["slots","k","op","i","j","refusal","lengths"] ["slots","k","op","i","j"] (aj jw) := fs
theorem wr (D : Df K mg "call_both" "call_both" jw ["slots","k","op","i","j"]) (T : Txt K mg C) (aR : Ok P w K mg base 3 "slots_refusal" ["slots","k","sources"] (bV K C)) (gD : Ok P w K mg base 2 "meeting_lengths" ["first","second"] (jV K)) (aW : Ok P w K mg base 2 "is_shape" ["lengths"] (ca K)) (ie : Ok P w K mg base 4 "reckoned_array" ["op","first","second","lengths"] (kO K C)) (bh : Ok P w K mg base 2 "keep_reckoned" ["slots","k","array"] (bU C)) : Ok P w K mg base 5 "call_both" ["slots","k","op","i","j"] (p8 K C) := by
 refine D.ok sc_call_both (fun _ _ _ _ h => by obtain ⟨_,_,_,_,_,_,rfl,_⟩ := h; rfl) (fun f cdv A outer s H vs Q E hr h => ?_); obtain ⟨l,t,kk,op,i,j,rfl,S0,k0⟩ := h
 refine ⟨_,(ad (aH 5 sc_call_both.nd (ap aR hr (ab (pv 0) (ab (pv 1) (ab (az (ab (pv 3) (ab (pv 4) ac))) ac)))))
  (ad (aw (aE bz (pv 5) ai) (ae (ah (az (ab (pv 5) ac)))) ao)
  (ad (aw (aE k7 (pv 2) (aP T.g_GREATEST_OP)) (ae (ah (az (ab (aP T.g_WRONG) ac)))) ao)
  (ad (aH 6 sc_call_both.nd (ap gD hr (ab (aD (au (pv 0) (pv 3)) rfl) (ab (aD (au (pv 0) (pv 4)) rfl) ac))))
  (ad (aw (dS (eF (pv 6))) (ae (ah (az (ab (aP T.g_UNLIKE) ac)))) ao)
  (ad (aw (bw (bg (ap aW hr (ab (pv 6) ac)))) (ae (ah (az (ab (aP T.g_BEYOND) ac)))) ao)
  (ae (ah (ap bh hr (ab (pv 0) (ab (pv 1) (ab (ap ie hr (ab (pv 2) (ab (au (pv 0) (pv 3)) (ab (au (pv 0) (pv 4)) (ab (pv 6) ac))))) ac)))))))))))),?_⟩
 refine ⟨_,rfl,_,rfl,_,rfl,_,rfl,lj,fun q hq => ?_⟩; have s0 : ak H (upd H q (.lst [.int i,.int j])) := ak.new hq; have hq1 : (upd H q (.lst [.int i,.int j])) q = some (.lst (vn [i,j])) := am; generalize upd H q (.lst [.int i,.int j]) = H1 at *; have S := S0.keep s0; have k := k0.same s0; refine ⟨l,q,t,kk,[i,j],rfl,S,ag.of hq1,_,rfl,rfl,_,rfl,?_⟩
 by_cases h0 : bJ t kk [i,j] = 0
 ·refine bq (congrArg V.int h0) ?_; obtain ⟨hk,hi,hj,A',B',ea,eb,ef⟩ := oo h0; rw [Ay.step,ef] at k; obtain ⟨vs,x,g1,g2,hA,ho⟩ := aB.arr S hi ea; obtain ⟨dx,a1,b1,h1,h2,h3⟩ := id hA; obtain ⟨vs',y,g1',g2',hB,ho'⟩ := aB.arr S hj eb; obtain ⟨dy,a2,b2,h1',h2',h3'⟩ := id hB; refine ⟨_,rfl,_,_,rfl,rfl,_,rfl,a_ (fun h => ?_) (fun h => ?_)⟩
  ·have h4 : (8 : Int) < (op : Int) := of_decide_eq_true h; rw [if_pos (by omega)] at k; exact ⟨ba,aQ.no S (ak.refl H1) k rfl⟩
  have h4 : ¬ (8 : Int) < (op : Int) := fun z => h (decide_eq_true z)
  rw [if_neg (by omega)] at k; refine ⟨_,rfl,_,rfl,l,vs,_,_,rfl,rfl,ag.of g1,g2,x,C,dx,_,_,rfl,h1,T.cl,T.nL,aU a1 b1,_,rfl,_,rfl,l,vs',_,_,rfl,rfl,ag.of g1',g2',y,C,dy,_,_,rfl,h1',T.cl,T.nL,aU a2 b2,a1,a2,A'.shape,B'.shape,rfl,h2,h2',(aG ho).1,(aG ho').1,?_,?_⟩
  ·intro H2 t2 em; rw [em] at k; exact ⟨_,rfl,_,rfl,ba,aQ.no S t2 k rfl⟩
  ·intro H2 u m t2 hu em hum; rw [em] at k; have k : aQ C H1 l (if Ad.shapeOk m = false then (t,Ay.no 6) else Ay.came t kk (Ad.both op m A' B')) Q := k; obtain ⟨p1,p2⟩ := Ma.wM em
   have hbd : ∀ n ∈ m,n < 2 ^ 63 := fun n hn => by
    obtain ⟨c,hc,e⟩ := List.getElem_of_mem hn; have hlm := Ma.ly em; have hz : ((Ad.padded (max A'.shape.length B'.shape.length) A'.shape).zip (Ad.padded (max A'.shape.length B'.shape.length) B'.shape))[c]? = some _ := List.getElem?_eq_getElem (by omega); have h5 := Ma.iO em (i := c) (x := _) (y := _) (z := n) hz (by rw [List.getElem?_eq_getElem hc,e]); have hmem := List.mem_of_getElem? hz; have m1 := (List.of_mem_zip hmem).1; have m2 := (List.of_mem_zip hmem).2
    have small : ∀ {s : List Nat} {r z : Nat},Ad.shapeOk s = true -> z ∈ Ad.padded r s -> z < 2 ^ 63 := fun {s r z} hs hz => by
     unfold Ad.padded at hz
     rcases List.mem_append.mp hz with q | q
     ·rw [(List.mem_replicate.mp q).2]; decide
     ·exact cb hs z q
    rcases h5.2.2 with e | e
    ·rw [e]; exact small (aG ho).1 m1
    ·rw [e]; exact small (aG ho').1 m2
   refine ⟨_,rfl,_,rfl,_,rfl,u,m,rfl,ag.of hum,hbd,_,rfl,?_⟩
   cases e4 : Ad.shapeOk m with
   | false =>
    rw [if_pos e4] at k; exact ⟨ba,aQ.no S t2 k rfl⟩
   | true =>
    rw [if_neg (by rw [e4]; simp)] at k; refine ⟨_,rfl,_,rfl,_,rfl,_,rfl,_,rfl,l,vs,_,_,rfl,rfl,ag.of (t2 _ _ g1),g2,_,rfl,_,rfl,l,vs',_,_,rfl,rfl,ag.of (t2 _ _ g1'),g2',_,rfl,op,x,y,u,A',B',m,rfl,hA.keep t2,hB.keep t2,ho,ho',hum,e4,p1,p2,fun H3 z t3 hz hA3 => ?_⟩; have t13 := t2.trans t3; refine ⟨l,z,t,kk,m,wd op m A' B',rfl,hk,S.keep t13,hA3,e4,?_,?_,k.same t13⟩
    ·unfold wd; rw [List.length_map,List.length_zip,(aG (ms ho e4 p1)).2.1,(aG (ms ho' e4 p2)).2.1]; exact Nat.min_self _
    ·intro w hw; obtain ⟨zz,_,e⟩ := List.mem_map.mp hw; exact Ma.uL e
 ·obtain ⟨n,h2,ef⟩ := tX h0; rw [Ay.step,ef] at k; refine bx (a5 h0) ?_; exact ⟨_,rfl,ba,aQ.no S (ak.refl H1) k h2⟩
def qT (K : Fg) (C : Addr) : Sp := fun vs H Q _ => ∃ (l : Addr) (t : Ay.State) (kk fo ax i : Nat),vs = [.ref l,.int kk,.int fo,.int ax,.int i] /\ aB C H l t /\ aQ C H l (Ay.step t (.fold kk fo ax i)) Q
theorem sc_call_fold : aq ["slots","k","f","axis","i","refusal","folds","row"] ["slots","k","f","axis","i"] (aj gI) := fs
theorem wt (D : Df K mg "call_fold" "call_fold" gI ["slots","k","f","axis","i"]) (T : Txt K mg C) (dH : Ok P w K mg base 5 "fold_refusal" ["slots","k","f","axis","i"] (iV C)) (be : Ok P w K mg base 4 "rows_of" ["array","axis"] (dr K C)) (ll : Ok P w K mg base 4 "folded_row" ["f","row"] (pM K)) (bc : Ok P w K mg base 1 "without_axis" ["numbers","axis"] (de K)) (bh : Ok P w K mg base 2 "keep_reckoned" ["slots","k","array"] (bU C)) (aS : dO P w K mg base 1 "Array" C ["self","lengths","cells"] (bO C)) : Ok P w K mg base 6 "call_fold" ["slots","k","f","axis","i"] (qT K C) := by
 refine D.ok sc_call_fold (fun _ _ _ _ h => by obtain ⟨_,_,_,_,_,_,rfl,_⟩ := h; rfl) (fun f cdv A outer s H vs Q E hr h => ?_); obtain ⟨l,t,kk,fo,ax,i,rfl,S0,k0⟩ := h
 refine ⟨_,(ad (aH 5 sc_call_fold.nd (ap dH hr (ab (pv 0) (ab (pv 1) (ab (pv 2) (ab (pv 3) (ab (pv 4) ac)))))))
  (ad (aw (aE bz (pv 5) ai) (ae (ah (az (ab (pv 5) ac)))) ao)
  (ad (cS rfl sc_call_fold.nd (i := 6) rfl rfl (dF rfl rfl rfl (by decide +kernel)) (bD (ap be hr (ab (au (pv 0) (pv 4)) (ab (pv 3) ac)))) (a8 (N := ["slots","k","f","axis","i","refusal","folds","row"]) (sc := aj gI) (own := [("row",7)]) (by decide +kernel)) (fun _ _ _ _ _ => (a0 7 sc_call_fold.nd)) (fun _ _ _ _ _ => br) (fun _ _ _ _ _ => (ap ll hr (ab (pv 2) (ab (pv 7) ac)))))
  (ae (ah (ap bh hr (ab (pv 0) (ab (pv 1) (ab (dZ aS hr (ab (ap bc hr (ab (aD (au (pv 0) (pv 4)) rfl) (ab (pv 3) ac))) (ab (pv 6) ac))) ac))))))))),?_⟩
 refine ⟨_,rfl,_,rfl,_,rfl,_,rfl,_,rfl,l,t,kk,fo,ax,i,rfl,S0,fun H1 s0 => ?_⟩; have S := S0.keep s0; have k := k0.same s0; refine ⟨_,rfl,rfl,_,rfl,?_⟩
 by_cases h0 : jy t kk fo ax i = 0
 ·refine bq (congrArg V.int h0) ?_; obtain ⟨hf,hk,hi,A',ea,hx,ef⟩ := aaj h0; rw [Ay.step,ef] at k; obtain ⟨vs,x,g1,g2,hA,ho⟩ := aB.arr S hi ea; obtain ⟨dx,a1,b1,h1,h2,h3⟩ := id hA; have hs := (aG ho).1; have hrs := Ma.cj hs ax; obtain ⟨y1,y2,y3⟩ := Ma.aF hrs; obtain ⟨z1,z2,z3⟩ := Ma.aF hs; refine ⟨_,rfl,_,rfl,l,vs,_,_,rfl,rfl,ag.of g1,g2,_,rfl,x,A',ax,rfl,hA,ho,hx,fun H2 u s2 hu hX => ?_⟩; obtain ⟨xs,q1,q2,q3⟩ := hX.src (K := K); rw [cq] at q2; refine ⟨u,rfl,⟨_,q1⟩,fun D hD => ?_⟩; refine cz (bW q1) (fun c => ov (Ad.foldRow fo ((Ad.rowsBy ax A').getD c []))) hD (by rw [q2]; show _ <= 2 ^ 24; omega) ?_ bf ?_
  ·rintro c H3 v H4 hci sm ⟨rfl,hx1⟩ Q' kq; obtain ⟨p1,r0,rfl,e5,e6⟩ := q3 c _ hx1; obtain ⟨r1,rfl,e7,l1,l2,l3,l4⟩ := dE ho hx e5; refine ⟨rfl,_,rfl,_,rfl,fo,p1,r1,rfl,hf,ag.of (sm _ _ e6),(fun e => by rw [e] at l2; simp at l2),by omega,l4,fun H5 s5 => ?_⟩; have kq2 := kq H5 s5; rw [bp e7] at kq2; exact kq2
  ·intro H3 sm hd; have s3 := s2.trans sm
   have hos : (List.range xs.length).map (fun c => ov (Ad.foldRow fo ((Ad.rowsBy ax A').getD c []))) = vo ((Ad.rowsBy ax A').map (Ad.foldRow fo)) := by
    rw [q2,← Ma.kS]; show _ = List.map ov (List.map _ _); rw [List.map_map]; exact Ma.gc (fun r => ov (Ad.foldRow fo r)) [] (Ad.rowsBy ax A')
   rw [hos] at hd; refine ⟨_,rfl,_,rfl,_,rfl,_,rfl,l,vs,_,_,rfl,rfl,ag.of (s3 _ _ g1),g2,x,C,dx,_,_,rfl,s3 _ _ h1,T.cl,T.nL,aU a1 b1,_,rfl,a1,_,ax,rfl,ag.of (s3 _ _ h2),by rw [aI]; omega,fun H4 q4 s4 hq4 h4 => ⟨_,rfl,?_⟩⟩; rw [lT] at h4; have s34 := s3.trans s4; refine j4 (Q := fun v H5 => bU C ([.ref l,.int kk,v] ++ []) H5 Q E0) (s := Ad.removed A'.shape ax) h4 (s4 _ _ hd) fun y H5 hy s5 hA5 => ?_
   have s35 := s34.trans s5; refine ⟨l,y,t,kk,_,_,rfl,hk,S.keep s35,hA5,hrs,?_,?_,k.same s35⟩
   ·rw [List.length_map,Ma.kS]
   ·intro w hw; obtain ⟨r,hr1,e⟩ := List.mem_map.mp hw; obtain ⟨c,hc,ec⟩ := List.getElem_of_mem hr1; have e8 : (dC ax A')[c]? = some (vi r) := by rw [List.getElem?_map,List.getElem?_eq_getElem hc,ec]; rfl
    obtain ⟨r1,er,e7,_,_,_,l4⟩ := dE ho hx e8; rw [List.getElem?_eq_getElem hc,ec] at e7; cases e7; exact Ma.pR l4 e
 ·obtain ⟨n,h2,ef⟩ := abC h0; rw [Ay.step,ef] at k; refine bx (a5 h0) ?_; exact ⟨_,rfl,ba,aQ.no S (ak.refl H1) k h2⟩
def qE (K : Fg) (C : Addr) : Sp := fun vs H Q _ => ∃ (l : Addr) (t : Ay.State) (kk fo ax i : Nat),vs = [.ref l,.int kk,.int fo,.int ax,.int i] /\ aB C H l t /\ aQ C H l (Ay.step t (.scan kk fo ax i)) Q
theorem sc_call_scan : aq ["slots","k","f","axis","i","refusal","rows","row"] ["slots","k","f","axis","i"] (aj gE) := fs
theorem xp (D : Df K mg "call_scan" "call_scan" gE ["slots","k","f","axis","i"]) (T : Txt K mg C) (dH : Ok P w K mg base 5 "fold_refusal" ["slots","k","f","axis","i"] (iV C)) (be : Ok P w K mg base 4 "rows_of" ["array","axis"] (dr K C)) (dR : Ok P w K mg base 3 "scanned_row" ["f","row"] (jj K)) (a4 : Ok P w K mg base 3 "array_of_rows" ["lengths","axis","rows"] (cn K C)) (bh : Ok P w K mg base 2 "keep_reckoned" ["slots","k","array"] (bU C)) : Ok P w K mg base 6 "call_scan" ["slots","k","f","axis","i"] (qE K C) := by
 refine D.ok sc_call_scan (fun _ _ _ _ h => by obtain ⟨_,_,_,_,_,_,rfl,_⟩ := h; rfl) (fun f cdv A outer s H vs Q E hr h => ?_); obtain ⟨l,t,kk,fo,ax,i,rfl,S0,k0⟩ := h
 refine ⟨_,(ad (aH 5 sc_call_scan.nd (ap dH hr (ab (pv 0) (ab (pv 1) (ab (pv 2) (ab (pv 3) (ab (pv 4) ac)))))))
  (ad (aw (aE bz (pv 5) ai) (ae (ah (az (ab (pv 5) ac)))) ao)
  (ad (cS rfl sc_call_scan.nd (i := 6) rfl rfl (dF rfl rfl rfl (by decide +kernel)) (bD (ap be hr (ab (au (pv 0) (pv 4)) (ab (pv 3) ac)))) (a8 (N := ["slots","k","f","axis","i","refusal","rows","row"]) (sc := aj gE) (own := [("row",7)]) (by decide +kernel)) (fun _ _ _ _ _ => (a0 7 sc_call_scan.nd)) (fun _ _ _ _ _ => br) (fun _ _ _ _ _ => (ap dR hr (ab (pv 2) (ab (pv 7) ac)))))
  (ae (ah (ap bh hr (ab (pv 0) (ab (pv 1) (ab (ap a4 hr (ab (aD (au (pv 0) (pv 4)) rfl) (ab (pv 3) (ab (pv 6) ac)))) ac))))))))),?_⟩
 refine ⟨_,rfl,_,rfl,_,rfl,_,rfl,_,rfl,l,t,kk,fo,ax,i,rfl,S0,fun H1 s0 => ?_⟩; have S := S0.keep s0; have k := k0.same s0; refine ⟨_,rfl,rfl,_,rfl,?_⟩
 by_cases h0 : jy t kk fo ax i = 0
 ·refine bq (congrArg V.int h0) ?_; obtain ⟨hf,hk,hi,A',ea,hx,ef⟩ := aaj h0; rw [Ay.step,ef] at k; obtain ⟨vs,x,g1,g2,hA,ho⟩ := aB.arr S hi ea; obtain ⟨dx,a1,b1,h1,h2,h3⟩ := id hA; have hs := (aG ho).1; obtain ⟨y1,y2,y3⟩ := Ma.aF (Ma.cj hs ax); refine ⟨_,rfl,_,rfl,l,vs,_,_,rfl,rfl,ag.of g1,g2,_,rfl,x,A',ax,rfl,hA,ho,hx,fun H2 u s2 hu hX => ?_⟩; obtain ⟨xs,q1,q2,q3⟩ := hX.src (K := K); rw [cq] at q2; refine ⟨u,rfl,⟨_,q1⟩,fun D hD => ?_⟩; refine oH (bW q1) (fun c => vo (Ma.eP fo ((Ad.rowsBy ax A').getD c []))) hD (by rw [q2]; show _ <= 2 ^ 24; omega) ?_ bf ?_
  ·rintro c H3 v H4 hci sm ⟨rfl,hx1⟩ Q' kq; obtain ⟨p1,r0,rfl,e5,e6⟩ := q3 c _ hx1; obtain ⟨r1,rfl,e7,l1,l2,l3,l4⟩ := dE ho hx e5; refine ⟨rfl,_,rfl,_,rfl,fo,p1,r1,rfl,hf,ag.of (sm _ _ e6),(fun e => by rw [e] at l2; simp at l2),by omega,l4,fun H5 q5 s5 n5 h5 => kq q5 H5 s5 n5 ?_⟩; rw [h5,bp e7]
  ·intro H3 ds sm f1 f2 f3; rw [q2] at f2; have s3 := s2.trans sm; refine ⟨_,rfl,_,rfl,_,rfl,_,rfl,l,vs,_,_,rfl,rfl,ag.of (s3 _ _ g1),g2,x,C,dx,_,_,rfl,s3 _ _ h1,T.cl,T.nL,aU a1 b1,_,rfl,_,rfl,a1,D,A'.shape,ax,_,fun p => ov (Ma.pr fo ax A' p),rfl,s3 _ _ h2,hs,hx,dq.ofF f1 f2 f3,?_,fun H7 yy s7 hyy hA7 => ?_⟩
   ·intro p hp; refine ⟨_,d4 (og hp) _,?_⟩; rw [bp (h_ rfl hp hx)]; exact wR (Ma.j2 hp hx)
   ·have s37 := s3.trans s7; rw [← Ma.zi hx] at k
    have ecv : wI A'.shape (fun p => ov (Ma.pr fo ax A' p)) = vo (Ma.eR fo ax A') := by
     unfold Ma.eR; show _ = List.map ov (List.map _ _); rw [List.map_map]; rfl
    rw [ecv] at hA7; refine ⟨l,yy,t,kk,_,_,rfl,hk,S.keep s37,hA7,hs,?_,?_,k.same s37⟩
    ·unfold Ma.eR; rw [List.length_map,List.length_range]
    ·intro w hw; obtain ⟨c,hc,e⟩ := List.mem_map.mp hw; have hin := Ma.cC (List.mem_range.mp hc); have e9 := List.mem_of_getElem? (Ma.j2 (f := fo) hin hx); rw [e] at e9; have e8 := oV rfl hin hx; obtain ⟨r1,er,e7,_,_,_,l4⟩ := dE ho hx e8; rw [h_ rfl hin hx] at e7; cases e7; exact Ma.xT l4 e9
 ·obtain ⟨n,h2,ef⟩ := abC h0; rw [Ay.step,ef] at k; refine bx (a5 h0) ?_; exact ⟨_,rfl,ba,aQ.no S (ak.refl H1) k h2⟩
end
end Go

namespace Go
open PySem PySem.Spec PyProof.Rows L2
section
variable {P : Program} {w : World} {K : Fg} {mg : Str -> Option Value} {base : Heap} {C al : Addr}
theorem acJ {H : Hp} {p : Addr} {a b : Int} (h : H p = some (.tup [.int a,.int b])) : dM H p = (a,b) := by
 unfold dM; rw [h]
def oe (K : Fg) : Sp := fun vs H Q _ => ∃ (a : Addr) (r : List Int),vs = [.ref a] /\ ag K H a (vi r) /\ r.length <= 100000 /\ ∀ H' q,ak H H' -> H q = none -> H' q = some (.lst (vn (Ad.orderOf r))) -> Q (.ref q) H'
theorem sc_ordered_row : aq ["row","pairs","pair","number","cell"] ["row"] (aj dP) := fs
theorem uY (D : Df K mg "ordered_row" "ordered_row" dP ["row"]) (T : Txt K mg C) : Ok P w K mg base 1 "ordered_row" ["row"] (oe K) := by
 refine D.ok sc_ordered_row (fun _ _ _ _ h => by obtain ⟨_,_,rfl,_⟩ := h; rfl) (fun f cdv A outer s H vs Q E hr h => ?_); obtain ⟨a,r,rfl,ha,hl,k⟩ := h
 refine ⟨_,(ad (aH 1 sc_ordered_row.nd (bG zC (by rfl) T.b_sorted vL (ab (dt rfl sc_ordered_row.nd (u7 rfl T.b_enumerate (ab (pv 0) ac)) (a8 (N := ["row","pairs","pair","number","cell"]) (sc := aj dP) (own := [("number",3),("cell",4)]) (by decide +kernel)) (fun _ _ _ _ _ => (lf K rfl (n := 2) rfl (bd (a0 3 sc_ordered_row.nd) (bd (a0 4 sc_ordered_row.nd) cQ)))) (fun _ _ _ _ _ => br) (fun _ _ _ _ _ => (acs (ab (pv 4) (ab (pv 3) ac))))) ac)))
  (ae (ah (dt rfl sc_ordered_row.nd (bD (pv 1)) (a8 (N := ["row","pairs","pair","number","cell"]) (sc := aj dP) (own := [("pair",2)]) (by decide +kernel)) (fun _ _ _ _ _ => (a0 2 sc_ordered_row.nd)) (fun _ _ _ _ _ => br) (fun _ _ _ _ _ => (rA (ab7 K rfl) (pv 2) ai (fun _ _ => rfl))))))),?_⟩
 refine ⟨_,rfl,a,_,rfl,ha,fun D hD => ?_⟩; refine acT (xA ha) (fun i => [.int (r.getD i 0),.int (i : Int)]) hD (by rw [aN]; show _ <= 2 ^ 24; omega) ?_ j0 ?_
 ·rintro i H1 v H2 hi sm ⟨TT,x,rfl,hT,rfl,hx0⟩ Q' kq; obtain ⟨x,hx,rfl⟩ := dN hx0; have sT : ak H1 (upd H1 TT (.tup [.int (i : Int),.int x])) := ak.new hT; refine ⟨TT,_,rfl,cx.of am,rfl,_,_,rfl,_,_,rfl,rfl,rfl,_,rfl,_,rfl,lj,fun p hp => ?_⟩; refine kq p _ (sT.upd (sT.free hp)) (sT.free hp) ?_; rw [am,bp hx]
 ·intro H1 ps t1 p1 p2 p3; rw [aN] at p2; have key : ∀ (i : Nat) p,ps[i]? = some p -> dM H1 p = (r.getD i 0,(i : Int)) := fun i p hp => acJ (p3 i p hp)
  refine ⟨D,ps,rfl,p1,fun p hp => ?_,fun qs u hperm hpw hu => ?_⟩
  ·obtain ⟨i,hi,e⟩ := List.getElem_of_mem hp; have e2 : ps[i]? = some p := by rw [List.getElem?_eq_getElem hi,e]
   rw [key i p e2]; exact p3 i p e2
  ·have eo := Ma.aaY (g := dM H1) hperm hpw p2 key; have t2 : ak H1 (upd H1 u (.lst (qs.map V.ref))) := ak.new hu; have hu2 : (upd H1 u (.lst (qs.map V.ref))) u = some (.lst (qs.map V.ref)) := am; generalize upd H1 u (.lst (qs.map V.ref)) = H2 at *; have hql : qs.length = r.length := by rw [hperm.length_eq,p2]
   have key2 : ∀ q ∈ qs,∃ z : Int,H1 q = some (.tup [.int z,.int (((dM H1 q).2.toNat : Nat) : Int)]) := fun q hq => by
    obtain ⟨i,hi,e⟩ := List.getElem_of_mem (hperm.mem_iff.mp hq); have e2 : ps[i]? = some q := by rw [List.getElem?_eq_getElem hi,e]
    refine ⟨r.getD i 0,?_⟩; rw [key i q e2]; exact p3 i q e2
   refine ⟨_,rfl,u,rfl,⟨_,ag.of hu2⟩,fun D2 hD2 => ?_⟩; refine cz (bW (ag.of hu2)) (fun j => V.int (((Ad.orderOf r).getD j 0 : Nat) : Int)) hD2 (by rw [List.length_map,hql]; show _ <= 2 ^ 24; omega) ?_ bf ?_
   ·rintro j H3 v H4 hj sm ⟨rfl,hx⟩ Q' kq; rw [List.getElem?_map] at hx
    cases e : qs[j]? with
    | none => rw [e] at hx; cases hx
    | some q =>
     rw [e] at hx; have e2 : V.ref q = v := Option.some.inj hx; subst e2; obtain ⟨z,hz⟩ := key2 q (List.mem_of_getElem? e); have e3 : (Ad.orderOf r).getD j 0 = (dM H1 q).2.toNat := bp (by rw [← eo,List.getElem?_map,e]; rfl); have kq2 := kq _ (ak.refl _); rw [e3] at kq2; exact ⟨rfl,_,rfl,q,_,_,_,rfl,rfl,cx.of ((t2.trans sm) _ _ hz),(bC (j := 1) rfl : fj _ 1 = _),kq2⟩
   ·intro H3 sm hd; have t13 := (t1.trans t2).trans sm; refine k H3 D2 t13 ((t1.trans t2).free hD2) ?_; rw [hd]; congr 2; rw [List.length_map,hql,← Ma.qi r]; show _ = List.map V.int (List.map _ _); rw [List.map_map]; exact Ma.gc (fun n : Nat => V.int (n : Int)) 0 (Ad.orderOf r)
def lu (K : Fg) : Sp := fun vs H Q _ => ∃ (a : Addr) (zs : List Int) (n : Nat),vs = [.ref a,.int n] /\ ag K H a (vi zs) /\ Q (.bl (Ay.numbersIn n zs)) H
theorem sc_are_below : aq ["numbers","bound","number"] ["numbers","bound"] (aj jB) := fs
theorem w9 (D : Df K mg "are_below" "are_below" jB ["numbers","bound"]) (T : Txt K mg C) : Ok P w K mg base 1 "are_below" ["numbers","bound"] (lu K) := by
 refine D.ok sc_are_below (fun _ _ _ _ h => by obtain ⟨_,_,_,rfl,_⟩ := h; rfl) (fun f cdv A outer s H vs Q E hr h => ?_); obtain ⟨a,zs,n,rfl,ha,k⟩ := h
 refine ⟨_,(ad (bQ PassesOwn.never rfl (bD (pv 0)) (a0 2 sc_are_below.nd) (ae (aw (PW.pt (dv (aE iG (pv 2) ai) (dm (aE ml (pv 2) (pv 1))))) (ae (ah dB)) ao)))
  (ae (ah dB))),?_⟩
 refine ⟨_,rfl,a,rfl,⟨_,ha⟩,d7 (K := K) (a := a) (xs := vi zs) (fun i σ H' => ∃ (u : Option V),σ = [some (.ref a),some (.int n),u] /\ (∀ z ∈ zs.take i,0 <= z /\ z < n) /\ H' = H)
  ⟨none,rfl,by simp,rfl⟩ (fun i σ H' _ ⟨_,_,_,e⟩ => e ▸ ha) ?_ ?_⟩
 ·rintro i x σ H' hi ⟨u,rfl,hc,rfl⟩; obtain ⟨z,hz,rfl⟩ := dN hi; have hm := List.mem_of_getElem? hz; refine ⟨_,rfl,_,_,rfl,rfl,_,rfl,a_ (fun h => ?_) (fun h => ?_)⟩
  ·have h1 := of_decide_eq_true h; rw [Ma.tm hm (by omega)] at k; exact k
  refine ⟨_,rfl,_,rfl,_,_,rfl,rfl,_,rfl,a_ (fun h2 => ?_) (fun h2 => ?_)⟩
  ·have h1 := of_decide_eq_true h2; rw [Ma.tm hm (by omega)] at k; exact k
  ·refine ⟨_,rfl,fun y hy => ?_,rfl⟩; rw [bT hz] at hy
   rcases List.mem_append.mp hy with q | q
   ·exact hc y q
   ·have e : y = z := by simpa using q
    simp at h h2; omega
 ·rintro σ H' ⟨u,rfl,hc,rfl⟩; rw [aN,List.take_length] at hc; rw [Ma.x6 hc] at k; exact k
def mF (K : Fg) (C : Addr) : Sp := fun vs H Q _ => ∃ (x y : Addr) (A B : Ad.Arr),vs = [.ref x,.ref y] /\ b0 C H x A /\ b0 C H y B /\ A.cells.length = B.cells.length /\ A.cells.length <= 100000 /\ ∀ H' q,ak H H' -> H q = none -> H' q = some (.lst (vi (Ad.packed A B))) -> Q (.ref q) H'
theorem sc_packed_cells : aq ["array","mask","cell","kept"] ["array","mask"] (aj eJ) := fs
theorem ud (D : Df K mg "packed_cells" "packed_cells" eJ ["array","mask"]) (T : Txt K mg C) : Ok P w K mg base 1 "packed_cells" ["array","mask"] (mF K C) := by
 refine D.ok sc_packed_cells (fun _ _ _ _ h => by obtain ⟨_,_,_,_,rfl,_⟩ := h; rfl) (fun f cdv A outer s H vs Q E hr h => ?_); obtain ⟨x,y,A',B',rfl,⟨dx,a1,b1,h1,h2,h3⟩,⟨dy,a2,b2,h1',h2',h3'⟩,hl,hl2,k⟩ := h; refine ⟨_,(ae (ah (dt rfl sc_packed_cells.nd (fk rfl T.b_zip (ab (aD (pv 0) rfl) (ab (aD (pv 1) rfl) ac))) (a8 (N := ["array","mask","cell","kept"]) (sc := aj eJ) (own := [("cell",2),("kept",3)]) (by decide +kernel)) (fun _ _ _ _ _ => (lf K rfl (n := 2) rfl (bd (a0 2 sc_packed_cells.nd) (bd (a0 3 sc_packed_cells.nd) cQ)))) (fun _ _ _ _ _ => (abJ (aE bz (pv 3) ai))) (fun _ _ _ _ _ => (pv 2))))),?_⟩; refine ⟨_,rfl,x,C,dx,_,_,rfl,h1,T.cl,T.nC,cr a1 b1,_,rfl,y,C,dy,_,_,rfl,h1',T.cl,T.nC,cr a2 b2,b1,b2,_,_,rfl,ag.of h3,ag.of h3',fun D hD => ?_⟩; refine acp (rm (ag.of h3) (ag.of h3') (by rw [aN,aN,hl])) (fun i => V.int (A'.cells.getD i 0)) (fun i => B'.cells.getD i 0 != 0) hD (by rw [aN]; show _ <= 2 ^ 24; omega) ?_ ?_
 ·rintro i H1 v H2 hi sm ⟨TT,x0,y0,rfl,hT,rfl,hx0,hy0⟩ Q' Q2 kq kq2; obtain ⟨x1,hx1,rfl⟩ := dN hx0; obtain ⟨y1,hy1,rfl⟩ := dN hy0; have sT : ak H1 (upd H1 TT (.tup [.int x1,.int y1])) := ak.new hT; simp only [bp hx1,bp hy1] at kq kq2; refine ⟨TT,_,rfl,cx.of am,rfl,_,_,rfl,_,_,rfl,rfl,rfl,_,rfl,rfl,_,rfl,?_⟩
  by_cases hy : y1 = 0
  ·refine bq (by rw [hy]) ?_; exact kq2 (by rw [hy]; rfl) _ sT
  ·refine bx (a5 hy) ?_; exact ⟨_,rfl,kq (by simp [hy]) _ sT⟩
 ·intro H' sm hd; refine k H' D sm hD ?_; rw [hd,Ma.aac A' B' hl,aN]; show _ = some (HO.lst (List.map V.int (List.map _ _))); rw [List.map_map]; rfl
def oB : Sp := fun vs H Q _ => ∃ (mode : Nat) (o : Option Int) (x : Int),vs = [.int mode,ov o,.int x] /\ mode <= 3 /\ tQ o /\ Ad.cellFine x = true /\ Q (ov (Ma.jt mode o x)) H
theorem uX : aq ["mode","standing","cell"] ["mode","standing","cell"] (aj g8) := fs
theorem uC (D : Df K mg "landed_cell" "landed_cell" g8 ["mode","standing","cell"]) (T : Txt K mg C) (cu : Ok P w K mg base 2 "op_cell" ["op","x","y"] (iQ)) : Ok P w K mg base 3 "landed_cell" ["mode","standing","cell"] (oB) := by
 refine D.ok uX (fun _ _ _ _ h => by obtain ⟨_,_,_,rfl,_⟩ := h; rfl) (fun f cdv A outer s H vs Q E hr h => ?_); obtain ⟨mode,o,x,rfl,hm,ho,hx,k⟩ := h
 refine ⟨_,(ad (aw (aE bB (pv 0) ai) (ae (ah (pv 2))) ao)
  (ae (ah (ap cu hr (ab (acq T.d_LANDING_OPS rfl (pv 0) (fun _ _ => rfl)) (ab (pv 1) (ab (pv 2) ac))))))),?_⟩
 have hfx : tQ (some x) := fun z hz => by cases hz; exact hx
 refine ⟨_,rfl,rfl,_,rfl,?_⟩
 match mode,hm with
 | 0,_ => exact ⟨_,rfl,k⟩
 | 1,_ => exact ⟨_,rfl,_,_,rfl,rfl,_,rfl,_,rfl,0,o,some x,rfl,ho,hfx,k⟩
 | 2,_ => exact ⟨_,rfl,_,_,rfl,rfl,_,rfl,_,rfl,3,o,some x,rfl,ho,hfx,k⟩
 | 3,_ => exact ⟨_,rfl,_,_,rfl,rfl,_,rfl,_,rfl,4,o,some x,rfl,ho,hfx,k⟩
def mC (K : Fg) (C : Addr) : Sp := fun vs H Q _ => ∃ (x n c : Addr) (A : Ad.Arr) (mode : Nat) (ns cs : List Int),vs = [.ref x,.int mode,.ref n,.ref c] /\ b0 C H x A /\ A.ok = true /\ mode <= 3 /\ ag K H n (vi ns) /\ ag K H c (vi cs) /\ ns.length = cs.length /\ (∀ z ∈ ns,0 <= z /\ z < (A.cells.length : Int)) /\ (∀ z ∈ cs,Ad.cellFine z = true) ∧
 ∀ H' y,ak H H' -> H y = none -> uG C H' y A.shape (vo (Ma.cW mode (A.cells.map some) (ns.zip cs))) -> Q (.ref y) H'
theorem sc_landed_array : aq ["array","mode","numbers","landing","cells","number","cell"] ["array","mode","numbers","landing"] (aj gi) := fs
theorem tJ (D : Df K mg "landed_array" "landed_array" gi ["array","mode","numbers","landing"]) (T : Txt K mg C) (kI : Ok P w K mg base 3 "landed_cell" ["mode","standing","cell"] (oB)) (aS : dO P w K mg base 1 "Array" C ["self","lengths","cells"] (bO C)) : Ok P w K mg base 4 "landed_array" ["array","mode","numbers","landing"] (mC K C) := by
 refine D.ok sc_landed_array (fun _ _ _ _ h => by obtain ⟨_,_,_,_,_,_,_,rfl,_⟩ := h; rfl) (fun f cdv A outer s H vs Q E hr h => ?_); obtain ⟨x,n,c,A',mode,ns,cs,rfl,hA,ho,hm,hn,hc,hl,hns,hcs,k⟩ := h
 refine ⟨_,(ad (aH 4 sc_landed_array.nd (f9 lr (by rfl) T.b_list rg (ab (aD (pv 0) rfl) ac)))
  (ad (bQ PassesOwn.never rfl (fk rfl T.b_zip (ab (pv 2) (ab (pv 3) ac))) (gF rfl (bd (a0 5 sc_landed_array.nd) (bd (a0 6 sc_landed_array.nd) cQ))) (ae (nY (ap kI hr (ab (pv 1) (ab (au (pv 4) (pv 5)) (ab (pv 6) ac)))) (ow (pv 4) (pv 5) jb))))
  (ae (ah (dZ aS hr (ab (aD (pv 0) rfl) (ab (pv 4) ac))))))),?_⟩
 obtain ⟨dx,a1,b1,h1,h2,h3⟩ := id hA; have hfa := (aG ho).2.2; refine ⟨_,rfl,x,C,dx,_,_,rfl,h1,T.cl,T.nC,cr a1 b1,b1,_,rfl,.inl (ag.of h3),fun d hd => ?_⟩; have t1 : ak H (upd H d (.lst (vi A'.cells))) := ak.new hd
 have hd1 : (upd H d (.lst (vi A'.cells))) d = some (.lst (vo (Ma.cW mode (A'.cells.map some) ((ns.zip cs).take 0)))) := by
  rw [am,List.take_zero,Ma.aaJ,yC]
 generalize upd H d (.lst (vi A'.cells)) = H1 at *
 refine ⟨_,rfl,_,rfl,n,c,_,_,rfl,t1.seq hn,t1.seq hc,im (K := K) (a := n) (b := c) (xs := vi ns) (ys := vi cs)
  (fun i σ H' => ∃ (v1 v2 : Option V),σ = [some (.ref x),some (.int mode),some (.ref n),some (.ref c),some (.ref d),v1,v2] /\ H' d = some (.lst (vo (Ma.cW mode (A'.cells.map some) ((ns.zip cs).take i)))) /\ ak H H')
  ⟨none,none,rfl,hd1,t1⟩ (by rw [aN,aN,hl]) (fun i σ H' _ ⟨_,_,_,_,e⟩ => ⟨e.seq hn,e.seq hc⟩) ?_ ?_⟩
 ·rintro i z1 z2 σ H' TT hy1 hy2 hT ⟨v1,v2,rfl,hd',sm⟩; obtain ⟨z1,hz1,rfl⟩ := dN hy1; obtain ⟨z2,hz2,rfl⟩ := dN hy2; have hz : (ns.zip cs)[i]? = some (z1,z2) := List.getElem?_zip_eq_some.mpr ⟨hz1,hz2⟩; obtain ⟨b1',b2'⟩ := hns z1 (List.mem_of_getElem? hz1); have sT : ak H' (upd H' TT (.tup [.int z1,.int z2])) := ak.new hT; have hdT := sT _ _ hd'
  have fo : ∀ z,some z ∈ Ma.cW mode (A'.cells.map some) ((ns.zip cs).take i) -> Ad.cellFine z = true := Ma.pw _ _ (fun z hz => by
    obtain ⟨y,hy,e⟩ := List.mem_map.mp hz; cases e
    exact hfa _ hy) (fun z hz => hcs _ (List.of_mem_zip (List.mem_of_mem_take hz)).2)
  have e0 : Ma.cW mode (A'.cells.map some) ((ns.zip cs).take (i + 1)) = (Ma.cW mode (A'.cells.map some) ((ns.zip cs).take i)).set z1.toNat (Ma.jt mode ((Ma.cW mode (A'.cells.map some) ((ns.zip cs).take i)).getD z1.toNat none) z2) := by
   rw [bT hz,Ma.za]
  have hlen : (Ma.cW mode (A'.cells.map some) ((ns.zip cs).take i)).length = A'.cells.length := by rw [Ma.ql,List.length_map]
  rw [e0]; generalize Ma.cW mode (A'.cells.map some) ((ns.zip cs).take i) = M at *
  have e1 : M[z1.toNat]? = some (M.getD z1.toNat none) := by
   rw [List.getD_eq_getElem?_getD,List.getElem?_eq_getElem (by omega)]; rfl
  have e2 : (z1.toNat : Int) = z1 := by omega
  have hat : fj (vo M) z1 = some (ov (M.getD z1.toNat none)) := by
   rw [← e2]; exact bC (wR e1)
  have hix : fU (vo M).length z1 = some z1.toNat := by
   have := yI (n := (vo M).length) (i := z1.toNat) (by rw [List.length_map]; omega); rw [e2] at this; exact this
  refine ⟨TT,_,rfl,cx.of am,rfl,_,_,rfl,_,_,rfl,rfl,?_⟩; refine ⟨_,rfl,_,rfl,_,rfl,d,_,_,_,rfl,rfl,ag.of hdT,hat,_,rfl,mode,M.getD z1.toNat none,z2,rfl,hm,fun z hz => fo z (by rw [← hz]; exact List.mem_of_getElem? e1),hcs z2 (List.mem_of_getElem? hz2),?_⟩; refine ⟨_,rfl,_,rfl,d,_,_,z1.toNat,rfl,rfl,hdT,hix,_,_,rfl,?_,(sm.trans sT).upd hd⟩; rw [am]; show _ = some (HO.lst (List.map ov _)); rw [List.map_set]
 ·rintro σ H' ⟨v1,v2,rfl,hd',sm⟩; rw [aN,show ns.length = (ns.zip cs).length by rw [List.length_zip,← hl,Nat.min_self],List.take_length] at hd'; refine ⟨_,rfl,x,C,dx,_,_,rfl,sm _ _ h1,T.cl,T.nL,aU a1 b1,_,rfl,j4 (Q := Q) (sm _ _ h2) hd' fun y H2 hy t2 hA2 => ?_⟩; exact k H2 y (sm.trans t2) (sm.free hy) hA2
end
end Go

namespace Go
open PySem PySem.Spec PyProof.Rows L2
section
variable {P : Program} {w : World} {K : Fg} {mg : Str -> Option Value} {base : Heap} {C al : Addr}
def sL (ax : Nat) (A : Ad.Arr) (p : List Nat) : Int := ((((Ad.rowsBy ax A).map fun (r : List Int) => (Ad.orderOf r).map fun (n : Nat) => (n : Int)).getD (Ad.cellOf (Ad.removed A.shape ax) (p.eraseIdx ax)) []).getD (p.getD ax 0) 0)
theorem xj {ax : Nat} {A : Ad.Arr} {p : List Nat} (hp : Ma.In A.shape p) (hx : ax < A.shape.length) : sL ax A p = (((Ad.orderOf (Ad.rowAt A ax p)).getD (p.getD ax 0) 0 : Nat) : Int) /\ (vn (Ad.orderOf (Ad.rowAt A ax p)))[p.getD ax 0]? = some (V.int (sL ax A p)) := by
 have ha := (Ma.In.axis hp hx).2; have hl : p.getD ax 0 < (Ad.orderOf (Ad.rowAt A ax p)).length := by rw [Ma.qi,Ma.da]; exact ha
 have e1 : sL ax A p = (((Ad.orderOf (Ad.rowAt A ax p)).getD (p.getD ax 0) 0 : Nat) : Int) := by
  unfold sL
  have e : ((Ad.rowsBy ax A).map fun (r : List Int) => (Ad.orderOf r).map fun (n : Nat) => (n : Int))[Ad.cellOf (Ad.removed A.shape ax) (p.eraseIdx ax)]? = some ((Ad.orderOf (Ad.rowAt A ax p)).map fun (n : Nat) => (n : Int)) := by
   rw [List.getElem?_map,h_ rfl hp hx]; rfl
  rw [bp e]; generalize p.getD ax 0 = i at hl; refine bp ?_; rw [List.getElem?_map,le hl]; rfl
 refine ⟨e1,?_⟩; rw [e1]; generalize p.getD ax 0 = i at hl; exact dn (le hl)
def pK (K : Fg) (C : Addr) : Sp := fun vs H Q _ => ∃ (l : Addr) (t : Ay.State) (kk ax i : Nat),vs = [.ref l,.int kk,.int ax,.int i] /\ aB C H l t /\ aQ C H l (Ay.step t (.order kk ax i)) Q
theorem sc_call_order : aq ["slots","k","axis","i","refusal","rows","row"] ["slots","k","axis","i"] (aj fT) := fs
theorem vX (D : Df K mg "call_order" "call_order" fT ["slots","k","axis","i"]) (T : Txt K mg C) (a6 : Ok P w K mg base 4 "axis_refusal" ["slots","k","sources","axis"] (cA K C)) (kC : Ok P w K mg base 1 "ordered_row" ["row"] (oe K)) (be : Ok P w K mg base 4 "rows_of" ["array","axis"] (dr K C)) (a4 : Ok P w K mg base 3 "array_of_rows" ["lengths","axis","rows"] (cn K C)) (aZ : Ok P w K mg base 1 "keep" ["slots","k","array"] (b6 C)) : Ok P w K mg base 5 "call_order" ["slots","k","axis","i"] (pK K C) := by
 refine D.ok sc_call_order (fun _ _ _ _ h => by obtain ⟨_,_,_,_,_,rfl,_⟩ := h; rfl) (fun f cdv A outer s H vs Q E hr h => ?_); obtain ⟨l,t,kk,ax,i,rfl,S0,k0⟩ := h
 refine ⟨_,(ad (aH 4 sc_call_order.nd (ap a6 hr (ab (pv 0) (ab (pv 1) (ab (az (ab (pv 3) ac)) (ab (pv 2) ac))))))
  (ad (aw (aE bz (pv 4) ai) (ae (ah (az (ab (pv 4) ac)))) ao)
  (ad (cS rfl sc_call_order.nd (i := 5) rfl rfl (dF rfl rfl rfl (by decide +kernel)) (bD (ap be hr (ab (au (pv 0) (pv 3)) (ab (pv 2) ac)))) (a8 (N := ["slots","k","axis","i","refusal","rows","row"]) (sc := aj fT) (own := [("row",6)]) (by decide +kernel)) (fun _ _ _ _ _ => (a0 6 sc_call_order.nd)) (fun _ _ _ _ _ => br) (fun _ _ _ _ _ => (ap kC hr (ab (pv 6) ac))))
  (ae (ah (ap aZ hr (ab (pv 0) (ab (pv 1) (ab (ap a4 hr (ab (aD (au (pv 0) (pv 3)) rfl) (ab (pv 2) (ab (pv 5) ac)))) ac))))))))),?_⟩
 refine ⟨_,rfl,_,rfl,_,rfl,ba,fun q hq => ?_⟩; have s0 : ak H (upd H q (.lst [.int i])) := ak.new hq; have hq1 : (upd H q (.lst [.int i])) q = some (.lst (vn [i])) := am; generalize upd H q (.lst [.int i]) = H1 at *; have S := S0.keep s0; have k := k0.same s0; refine ⟨_,rfl,l,q,t,kk,i,ax,[],rfl,S,ag.of hq1,_,rfl,rfl,_,rfl,?_⟩
 by_cases h0 : cw t kk i [] ax = 0
 ·refine bq (congrArg V.int h0) ?_; obtain ⟨hk,hi,A',ea,hx,ef⟩ := oj h0; rw [Ay.step,ef] at k; obtain ⟨vs,x,g1,g2,hA,ho⟩ := aB.arr S hi ea; obtain ⟨dx,a1,b1,h1,h2,h3⟩ := id hA; have hs := (aG ho).1; obtain ⟨z1,z2,z3⟩ := Ma.aF hs; obtain ⟨y1,y2,y3⟩ := Ma.aF (Ma.cj hs ax); refine ⟨_,rfl,_,rfl,l,vs,_,_,rfl,rfl,ag.of g1,g2,_,rfl,x,A',ax,rfl,hA,ho,hx,fun H2 u s2 hu hX => ?_⟩; obtain ⟨xs,q1,q2,q3⟩ := hX.src (K := K); rw [cq] at q2; refine ⟨u,rfl,⟨_,q1⟩,fun D hD => ?_⟩; refine oH (bW q1) (fun c => vn (Ad.orderOf ((Ad.rowsBy ax A').getD c []))) hD (by rw [q2]; show _ <= 2 ^ 24; omega) ?_ bf ?_
  ·rintro c H3 v H4 hci sm ⟨rfl,hx1⟩ Q' kq; obtain ⟨p1,r0,rfl,e5,e6⟩ := q3 c _ hx1; obtain ⟨r1,rfl,e7,l1,l2,l3,_⟩ := dE ho hx e5; refine ⟨rfl,_,rfl,p1,r1,rfl,ag.of (sm _ _ e6),by omega,fun H5 q5 s5 n5 h5 => kq q5 H5 s5 n5 ?_⟩; rw [h5,bp e7]
  ·intro H3 ds sm f1 f2 f3; rw [q2] at f2; have s3 := s2.trans sm; refine ⟨_,rfl,_,rfl,_,rfl,_,rfl,l,vs,_,_,rfl,rfl,ag.of (s3 _ _ g1),g2,x,C,dx,_,_,rfl,s3 _ _ h1,T.cl,T.nL,aU a1 b1,_,rfl,_,rfl,a1,D,A'.shape,ax,_,fun p => V.int (sL ax A' p),rfl,s3 _ _ h2,hs,hx,dq.ofF f1 f2 f3,?_,fun H7 yy s7 hyy hA7 => ?_⟩
   ·intro p hp; refine ⟨_,d4 (og hp) _,?_⟩; rw [bp (h_ rfl hp hx)]; exact (xj hp hx).2
   ·have s37 := s3.trans s7; refine ⟨l,yy,t,kk,Ad.ordered ax A',rfl,hk,S.keep s37,j6 (h := sL ax A') hA7,fc hs fun p hp => ?_,k.same s37⟩; show Ad.cellFine (sL ax A' p) = true; rw [(xj hp hx).1]; have ha := (Ma.In.axis hp hx).2; have hl : p.getD ax 0 < (Ad.orderOf (Ad.rowAt A' ax p)).length := by rw [Ma.qi,Ma.da]; exact ha
    generalize p.getD ax 0 = i at hl; have hlt := Ma.aa1 _ (List.mem_of_getElem? (le hl)); rw [Ma.da] at hlt; have := Ma.b_ z2 _ (List.mem_of_getElem? (bv hx)); exact Ma.iq.mpr ⟨by omega,by omega⟩
 ·obtain ⟨n,h2,ef⟩ := sZ h0; rw [Ay.step,ef] at k; refine bx (a5 h0) ?_; exact ⟨_,rfl,ba,aQ.no S (ak.refl H1) k h2⟩
def qR (K : Fg) (C : Addr) : Sp := fun vs H Q _ => ∃ (l : Addr) (t : Ay.State) (kk i j : Nat),vs = [.ref l,.int kk,.int i,.int j] /\ aB C H l t /\ aQ C H l (Ay.step t (.pack kk i j)) Q
theorem sc_call_pack : aq ["slots","k","i","j","refusal","cells"] ["slots","k","i","j"] (aj jz) := fs
theorem wk (D : Df K mg "call_pack" "call_pack" jz ["slots","k","i","j"]) (T : Txt K mg C) (aR : Ok P w K mg base 3 "slots_refusal" ["slots","k","sources"] (bV K C)) (jm : Ok P w K mg base 1 "packed_cells" ["array","mask"] (mF K C)) (aZ : Ok P w K mg base 1 "keep" ["slots","k","array"] (b6 C)) (aS : dO P w K mg base 1 "Array" C ["self","lengths","cells"] (bO C)) : Ok P w K mg base 4 "call_pack" ["slots","k","i","j"] (qR K C) := by
 refine D.ok sc_call_pack (fun _ _ _ _ h => by obtain ⟨_,_,_,_,_,rfl,_⟩ := h; rfl) (fun f cdv A outer s H vs Q E hr h => ?_); obtain ⟨l,t,kk,i,j,rfl,S0,k0⟩ := h
 refine ⟨_,(ad (aH 4 sc_call_pack.nd (ap aR hr (ab (pv 0) (ab (pv 1) (ab (az (ab (pv 2) (ab (pv 3) ac))) ac)))))
  (ad (aw (aE bz (pv 4) ai) (ae (ah (az (ab (pv 4) ac)))) ao)
  (ad (aw (aE (t9 hr.units) (aD (au (pv 0) (pv 2)) rfl) (aD (au (pv 0) (pv 3)) rfl)) (ae (ah (az (ab (aP T.g_UNLIKE) ac)))) ao)
  (ad (aH 5 sc_call_pack.nd (ap jm hr (ab (au (pv 0) (pv 2)) (ab (au (pv 0) (pv 3)) ac))))
  (ad (aw (aE bB (bA T.b_len (pv 5)) ai) (ae (ah (az (ab (aP T.g_NOTHING) ac)))) ao)
  (ae (ah (ap aZ hr (ab (pv 0) (ab (pv 1) (ab (dZ aS hr (ab (az (ab (bA T.b_len (pv 5)) ac)) (ab (pv 5) ac))) ac))))))))))),?_⟩
 refine ⟨_,rfl,_,rfl,_,rfl,_,rfl,lj,fun q hq => ?_⟩; have s0 : ak H (upd H q (.lst [.int i,.int j])) := ak.new hq; have hq1 : (upd H q (.lst [.int i,.int j])) q = some (.lst (vn [i,j])) := am; generalize upd H q (.lst [.int i,.int j]) = H1 at *; have S := S0.keep s0; have k := k0.same s0; refine ⟨l,q,t,kk,[i,j],rfl,S,ag.of hq1,_,rfl,rfl,_,rfl,?_⟩
 by_cases h0 : bJ t kk [i,j] = 0
 ·refine bq (congrArg V.int h0) ?_; obtain ⟨hk,hi,hj,A',B',ea,eb,ef⟩ := oo h0; rw [Ay.step,ef] at k; obtain ⟨vs,x,g1,g2,hA,ho⟩ := aB.arr S hi ea; obtain ⟨dx,a1,b1,h1,h2,h3⟩ := id hA; obtain ⟨vs',y,g1',g2',hB,ho'⟩ := aB.arr S hj eb; obtain ⟨dy,a2,b2,h1',h2',h3'⟩ := id hB; obtain ⟨z1,z2,z3⟩ := Ma.aF (aG ho).1; refine ⟨_,rfl,_,rfl,l,vs,_,_,rfl,rfl,ag.of g1,g2,x,C,dx,_,_,rfl,h1,T.cl,T.nL,aU a1 b1,_,rfl,_,rfl,l,vs',_,_,rfl,rfl,ag.of g1',g2',y,C,dy,_,_,rfl,h1',T.cl,T.nL,aU a2 b2,a1,a2,Ma.nz A'.shape,Ma.nz B'.shape,rfl,rfl,ag.of h2,ag.of h2',_,rfl,?_⟩
  by_cases e1 : A'.shape = B'.shape
  ·refine bq (by rw [e1]) ?_; rw [if_neg (by rw [e1]; simp)] at k; have hlen : A'.cells.length = B'.cells.length := by rw [(aG ho).2.1,(aG ho').2.1,e1]
   have hla := (aG ho).2.1; refine ⟨_,rfl,_,rfl,l,vs,_,_,rfl,rfl,ag.of g1,g2,_,rfl,_,rfl,l,vs',_,_,rfl,rfl,ag.of g1',g2',x,y,A',B',rfl,hA,hB,hlen,by omega,fun H2 d t2 hd hd2 => ?_⟩; have k : aQ C H1 l (if Ad.packed A' B' = [] then (t,Ay.no 5) else Ay.put t kk ⟨[(Ad.packed A' B').length],Ad.packed A' B'⟩) Q := k
   have hpl : (Ad.packed A' B').length <= Ad.product_ A'.shape := by
    rw [← hla]; unfold Ad.packed; rw [List.length_map]; have := List.length_filter_le (fun x : Int × Int => x.2 != 0) (A'.cells.zip B'.cells); rw [List.length_zip] at this; omega
   have hpf : ∀ z ∈ Ad.packed A' B',Ad.cellFine z = true := fun z hz => by
    unfold Ad.packed at hz; obtain ⟨y,hy,e⟩ := List.mem_map.mp hz; rw [← e]; exact (aG ho).2.2 _ (List.of_mem_zip (List.mem_filter.mp hy).1).1
   refine ⟨_,rfl,d,_,rfl,.inl (ag.of hd2),rfl,_,rfl,?_⟩; rw [aN]; generalize Ad.packed A' B' = pk at *
   by_cases e2 : pk = []
   ·refine dA (by rw [e2]; rfl) ?_; rw [if_pos e2] at k; exact ⟨ba,aQ.no S t2 k rfl⟩
   ·have hpos : 0 < pk.length := List.length_pos_iff.mpr e2; refine dw (a5 (by omega)) ?_; rw [if_neg e2] at k; refine ⟨_,rfl,_,rfl,_,rfl,d,_,rfl,.inl (ag.of hd2),ba,fun u hu => ⟨_,rfl,?_⟩⟩; rw [aN]; have t3 : ak H2 (upd H2 u (.lst [.int (pk.length : Int)])) := ak.new hu; have hu3 : (upd H2 u (.lst [.int (pk.length : Int)])) u = some (.lst (vn [pk.length])) := am; generalize upd H2 u (.lst [.int (pk.length : Int)]) = H3 at *; have t13 := t2.trans t3; refine i6 (A := ⟨[pk.length],pk⟩) hk (S.keep t13) hu3 (t3 _ _ hd2) (iC (Ma.shape_iff.mpr ⟨?_,?_,?_⟩) ?_ hpf) (k.same t13)
    ·show 1 <= 4
     decide
    ·intro n hn; have : n = pk.length := by simpa using hn
     omega
    ·show pk.length * 1 <= 1024; omega
    ·show pk.length = pk.length * 1; omega
  ·refine bx (fun z => e1 (Ma.ou z)) ?_; rw [if_pos e1] at k; exact ⟨ba,aQ.no S (ak.refl H1) k rfl⟩
 ·obtain ⟨n,h2,ef⟩ := tX h0; rw [Ay.step,ef] at k; refine bx (a5 h0) ?_; exact ⟨_,rfl,ba,aQ.no S (ak.refl H1) k h2⟩
end
end Go

namespace Go
open PySem PySem.Spec PyProof.Rows L2
section
variable {P : Program} {w : World} {K : Fg} {mg : Str -> Option Value} {base : Heap} {C al : Addr}
def rB (ax : Nat) (A : Ad.Arr) (zs : List Int) (p : List Nat) : Int := A.at_ (p.set ax ((zs.map Int.toNat).getD (p.getD ax 0) 0))
def wb (zs : List Int) (r : List Int) : List Int := (List.range zs.length).map fun j => r.getD (zs.getD j 0).toNat 0
theorem ab3 {zs : List Int} {n i : Nat} (hz : ∀ z ∈ zs,0 <= z /\ z < (n : Int)) (hi : i < zs.length) : (zs.getD i 0).toNat < n /\ (zs.map Int.toNat).getD i 0 = (zs.getD i 0).toNat := by
 have e := lH hi; have := hz _ (List.mem_of_getElem? e); refine ⟨by omega,?_⟩; refine bp ?_; rw [List.getElem?_map,e]; rfl
theorem wl {A : Ad.Arr} {p : List Nat} {ax : Nat} {zs : List Int} (hp : Ma.In (A.shape.set ax zs.length) p) (hx : ax < A.shape.length) (hz : ∀ z ∈ zs,0 <= z /\ z < (Ad.along A.shape ax : Int)) : (vi (wb zs (Ad.rowAt A ax p)))[p.getD ax 0]? = some (V.int (rB ax A zs p)) /\ Ma.In A.shape (p.set ax ((zs.map Int.toNat).getD (p.getD ax 0) 0)) := by
 have ha := (Ma.In.axis hp (by rw [List.length_set]; exact hx)).2; rw [Ma.mE hx] at ha; obtain ⟨h1,h2⟩ := ab3 hz ha
 constructor
 ·refine cy ?_; unfold wb; rw [d4 ha]; congr 1; unfold rB; rw [h2]; exact bp (Ma.om h1)
 ·rw [h2]; have := Ma.In.set hp hx (m := Ad.along A.shape ax) _ h1; rw [Ma.fN (bv hx)] at this; exact this
def qp (K : Fg) (C : Addr) : Sp := fun vs H Q _ => ∃ (l : Addr) (t : Ay.State) (kk ax i j : Nat),vs = [.ref l,.int kk,.int ax,.int i,.int j] /\ aB C H l t /\ aQ C H l (Ay.step t (.take kk ax i j)) Q
theorem sc_call_take : aq ["slots","k","axis","i","j","refusal","array","numbers","lengths","rows","row","number"] ["slots","k","axis","i","j"] (aj gN) := fs
theorem xy (D : Df K mg "call_take" "call_take" gN ["slots","k","axis","i","j"]) (T : Txt K mg C) (a6 : Ok P w K mg base 4 "axis_refusal" ["slots","k","sources","axis"] (cA K C)) (fw : Ok P w K mg base 1 "are_below" ["numbers","bound"] (lu K)) (ci : Ok P w K mg base 2 "with_length" ["lengths","axis","length"] (gj K)) (aW : Ok P w K mg base 2 "is_shape" ["lengths"] (ca K)) (be : Ok P w K mg base 4 "rows_of" ["array","axis"] (dr K C)) (a4 : Ok P w K mg base 3 "array_of_rows" ["lengths","axis","rows"] (cn K C)) (aZ : Ok P w K mg base 1 "keep" ["slots","k","array"] (b6 C)) : Ok P w K mg base 5 "call_take" ["slots","k","axis","i","j"] (qp K C) := by
 refine D.ok sc_call_take (fun _ _ _ _ h => by obtain ⟨_,_,_,_,_,_,rfl,_⟩ := h; rfl) (fun f cdv A outer s H vs Q E hr h => ?_); obtain ⟨l,t,kk,ax,i,j,rfl,S0,k0⟩ := h
 refine ⟨_,(ad (aH 5 sc_call_take.nd (ap a6 hr (ab (pv 0) (ab (pv 1) (ab (az (ab (pv 3) (ab (pv 4) ac))) (ab (pv 2) ac))))))
  (ad (aw (aE bz (pv 5) ai) (ae (ah (az (ab (pv 5) ac)))) ao)
  (ad (aH 6 sc_call_take.nd (au (pv 0) (pv 3)))
  (ad (aH 7 sc_call_take.nd (aD (au (pv 0) (pv 4)) rfl))
  (ad (aw (aE bz (bA T.b_len (aD (au (pv 0) (pv 4)) rfl)) ai) (ae (ah (az (ab (aP T.g_UNLIKE) ac)))) ao)
  (ad (aw (bw (bg (ap fw hr (ab (pv 7) (ab (au (aD (pv 6) rfl) (pv 2)) ac))))) (ae (ah (az (ab (aP T.g_NOWHERE) ac)))) ao)
  (ad (aH 8 sc_call_take.nd (ap ci hr (ab (aD (pv 6) rfl) (ab (pv 2) (ab (bA T.b_len (pv 7)) ac)))))
  (ad (aw (bw (bg (ap aW hr (ab (pv 8) ac)))) (ae (ah (az (ab (aP T.g_BEYOND) ac)))) ao)
  (ad (aH 9 sc_call_take.nd (az ac))
  (ad (bQ PassesOwn.never rfl (bD (ap be hr (ab (pv 6) (ab (pv 2) ac)))) (a0 10 sc_call_take.nd) (ae (cE (gn PySem.F.plainAttrs_list PySem.F.slot_list_append PySem.F.type_list_append c7 (pv 9) (ab (dt rfl sc_call_take.nd (bD (pv 7)) (a8 (N := ["slots","k","axis","i","j","refusal","array","numbers","lengths","rows","row","number"]) (sc := aj gN) (own := [("number",11)]) (by decide +kernel)) (fun _ _ _ _ _ => (a0 11 sc_call_take.nd)) (fun _ _ _ _ _ => br) (fun _ _ _ _ _ => (oX K (pv 10) (pv 11)))) ac)))))
  (ae (ah (ap aZ hr (ab (pv 0) (ab (pv 1) (ab (ap a4 hr (ab (pv 8) (ab (pv 2) (ab (pv 9) ac)))) ac)))))))))))))))),?_⟩
 refine ⟨_,rfl,_,rfl,_,rfl,_,rfl,lj,fun q hq => ?_⟩; have s0 : ak H (upd H q (.lst [.int i,.int j])) := ak.new hq; have hq1 : (upd H q (.lst [.int i,.int j])) q = some (.lst (vn [i,j])) := am; generalize upd H q (.lst [.int i,.int j]) = H1 at *; have S := S0.keep s0; have k := k0.same s0; refine ⟨_,rfl,l,q,t,kk,i,ax,[j],rfl,S,ag.of hq1,_,rfl,rfl,_,rfl,?_⟩
 by_cases h0 : cw t kk i [j] ax = 0
 ·refine bq (congrArg V.int h0) ?_; obtain ⟨hk,hi,hj,A',B',ea,eb,hx,ef⟩ := yH h0; rw [Ay.step,ef] at k; obtain ⟨vs,x,g1,g2,hA,ho⟩ := aB.arr S hi ea; obtain ⟨dx,a1,b1,h1,h2,h3⟩ := id hA; obtain ⟨vs',y,g1',g2',hB,ho'⟩ := aB.arr S hj eb; obtain ⟨dy,a2,b2,h1',h2',h3'⟩ := id hB; have hs := (aG ho).1; obtain ⟨z1,z2,z3⟩ := Ma.aF hs; obtain ⟨w1,w2,w3⟩ := Ma.aF (aG ho').1; have hbl := (aG ho').2.1; refine ⟨_,rfl,_,rfl,l,vs,_,_,rfl,rfl,ag.of g1,g2,?_⟩; refine ⟨_,rfl,_,rfl,l,vs',_,_,rfl,rfl,ag.of g1',g2',y,C,dy,_,_,rfl,h1',T.cl,T.nC,cr a2 b2,?_⟩; refine ⟨_,rfl,_,rfl,l,vs',_,_,rfl,rfl,ag.of g1',g2',y,C,dy,_,_,rfl,h1',T.cl,T.nL,aU a2 b2,a2,_,rfl,.inl (ag.of h2'),rfl,_,rfl,?_⟩; rw [aI]
  by_cases e1 : B'.shape.length = 1
  ·refine bq (by rw [e1]; rfl) ?_; rw [if_neg (by rw [e1]; simp)] at k; refine ⟨_,rfl,_,rfl,x,C,dx,_,_,rfl,h1,T.cl,T.nL,aU a1 b1,_,rfl,a1,_,_,_,rfl,rfl,ag.of h2,bC (dn (bv hx)),b2,B'.cells,Ad.along A'.shape ax,rfl,ag.of h3',_,rfl,?_⟩
   cases e2 : Ay.numbersIn (Ad.along A'.shape ax) B'.cells with
   | false =>
    rw [if_pos e2] at k; exact ⟨ba,aQ.no S (ak.refl H1) k rfl⟩
   | true =>
    rw [if_neg (by rw [e2]; simp)] at k; have hz := Ma.nk e2; refine ⟨_,rfl,x,C,dx,_,_,rfl,h1,T.cl,T.nL,aU a1 b1,_,rfl,_,rfl,b2,_,rfl,.inl (ag.of h3'),a1,vn A'.shape,ax,_,rfl,ag.of h2,by rw [aI]; omega,by rw [aI]; exact hx,fun H3 r s3 hr3 hr4 => ?_⟩; rw [aN] at hr4; have e3 : (vn A'.shape).set ax (V.int (B'.cells.length : Int)) = vn (A'.shape.set ax B'.cells.length) := tU _ _ _; rw [e3] at hr4
    have hbd : ∀ m ∈ A'.shape.set ax B'.cells.length,m < 2 ^ 63 := fun m hm => by
     rcases List.mem_or_eq_of_mem_set hm with hm | hm
     ·exact cb hs m hm
     ·omega
    refine ⟨_,rfl,r,_,rfl,ag.of hr4,hbd,_,rfl,?_⟩
    cases e4 : Ad.shapeOk (A'.shape.set ax B'.cells.length) with
    | false =>
     rw [if_pos e4] at k; exact ⟨ba,aQ.no S s3 k rfl⟩
    | true =>
     rw [if_neg (by rw [e4]; simp)] at k; have hjx : ax < (A'.shape.set ax B'.cells.length).length := by rw [List.length_set]; exact hx
     have hra : Ad.removed A'.shape ax = Ad.removed (A'.shape.set ax B'.cells.length) ax := (mX _ _ _).symm; obtain ⟨y1,y2,y3⟩ := Ma.aF (Ma.cj hs ax); have hbf := (aG ho').2.2; have hat : ∀ {H' : Hp},ak H1 H' -> H' b2 = some (.lst (vi B'.cells)) := fun sm => sm _ _ h3'
     have hk5 : aQ C H1 l (Ay.put t kk (Ad.build (A'.shape.set ax B'.cells.length) (rB ax A' B'.cells))) Q := by
      have e5 : Ad.taken ax A' (B'.cells.map Int.toNat) = Ad.build (A'.shape.set ax B'.cells.length) (rB ax A' B'.cells) := by
       unfold Ad.taken; rw [List.length_map]; rfl
      rw [e5] at k; exact k
     clear k; generalize B'.cells = zs at *; refine ⟨Nat.zero_le _,fun d hd => ?_⟩; have s4 : ak H3 (upd H3 d (.lst [])) := ak.new hd; have hd4 : (upd H3 d (.lst [])) d = some (.lst []) := am; generalize upd H3 d (.lst []) = H4 at *; have s34 := s3.trans s4; refine ⟨_,rfl,_,rfl,x,A',ax,rfl,hA.keep s34,ho,hx,fun H5 u s5 hu hX => ?_⟩; have s35 := s34.trans s5; obtain ⟨us,hu5,hul,hus⟩ := id hX; rw [cq] at hul; have hd1 : H1 d = none := s3.free hd; have hd5 := s5 _ _ hd4; have hud : u ≠ d := fun e => by rw [e,hd4] at hu; cases hu
     refine ⟨u,rfl,⟨_,ag.of hu5⟩,d7 (K := K) (a := u) (xs := us.map V.ref) (fun n σ H' => ∃ (v1 : Option V) (qs : List Addr),σ = [some (.ref l),some (.int kk),some (.int ax),some (.int i),some (.int j),some (.int (cw t kk i [j] ax)),some (.ref x),some (.ref b2),some (.ref r),some (.ref d),v1,none] /\ H' d = some (.lst (qs.map V.ref)) /\ qs.length = n /\ (∀ (c : Nat) q,qs[c]? = some q -> q ≠ d /\ H' q = some (.lst (vi (wb zs ((Ad.rowsBy ax A').getD c []))))) /\ aM d H5 H')
      ⟨none,[],rfl,hd5,rfl,(fun c q e => by simp at e),(ak.refl H5).keep⟩ (fun n σ H' _ ⟨_,_,_,_,_,_,e⟩ => ag.of (e _ _ hu5 hud)) ?_ ?_⟩
     ·rintro n v σ H' hv ⟨v1,qs,rfl,hd',hql,hqs,kp⟩; rw [List.getElem?_map] at hv
      cases e5 : us[n]? with
      | none => rw [e5] at hv; cases hv
      | some p1 =>
       rw [e5] at hv; have e6 : V.ref p1 = v := Option.some.inj hv; subst e6; have hn : n < us.length := (List.getElem?_eq_some_iff.mp e5).1; have e7 : (dC ax A')[n]? = some ((dC ax A')[n]'(by rw [cq]; omega)) := List.getElem?_eq_getElem _; have e8 := hus n p1 _ e5 e7; generalize (dC ax A')[n]'(by rw [cq]; omega) = r0 at e7 e8; obtain ⟨r1,rfl,e9,l1,l2,l3,_⟩ := dE ho hx e7
       have hpd : p1 ≠ d := fun z => by
        rw [z,hd5] at e8; have h9 : ([] : List V) = vi r1 := HO.lst.inj (Option.some.inj e8); have := congrArg List.length h9; rw [aN,List.length_nil] at this; omega
       have hb2d : b2 ≠ d := aJ h3' hd1; have hp' : H' p1 = some (.lst (vi r1)) := kp _ _ e8 hpd; have hb' : H' b2 = some (.lst (vi zs)) := kp _ _ (s35 _ _ h3') hb2d; refine ⟨_,rfl,.inl ⟨rfl,_,ag.of hd'⟩,_,rfl,b2,rfl,⟨_,ag.of hb'⟩,fun D hD => ?_⟩; refine cz (bW (ag.of hb')) (fun m => V.int (r1.getD (zs.getD m 0).toNat 0)) hD (by rw [aN]; show _ <= 2 ^ 24; omega) ?_ bf ?_
       ·rintro m H6 v H7 hm sm ⟨rfl,hv0⟩ Q' kq; obtain ⟨z,hz0,rfl⟩ := dN hv0; obtain ⟨b3,b4⟩ := hz z (List.mem_of_getElem? hz0); have kq2 := kq _ (ak.refl _); rw [bp hz0] at kq2; have e10 : (z.toNat : Int) = z := by omega
        have e11 : fj (vi r1) z = some (.int (r1.getD z.toNat 0)) := by
         have h12 := bC (cy (lH (l := r1) (i := z.toNat) (by omega))); rw [e10] at h12; exact h12
        exact ⟨rfl,_,rfl,_,rfl,p1,_,_,_,rfl,rfl,ag.of (sm _ _ hp'),e11,kq2⟩
       ·intro H6 sm hd6; have hDd : D ≠ d := fun z => by rw [z,hd'] at hD; cases hD
        refine ⟨d,_,_,rfl,rfl,sm _ _ hd',(by rw [List.length_map,hql]; show _ < 2 ^ 24; omega),_,qs ++ [D],rfl,?_,by simp [hql],?_,(kp.trans sm.keep).trans aM.upd⟩
        ·rw [am,List.map_append]; rfl
        ·intro c q hc
         by_cases hcl : c < qs.length
         ·rw [List.getElem?_append_left hcl] at hc; obtain ⟨g3,g4⟩ := hqs c q hc; exact ⟨g3,by rw [aK g3]; exact sm _ _ g4⟩
         ·have hc2 : c = n := by
           have := (List.getElem?_eq_some_iff.mp hc).1; simp at this; omega
          subst hc2; rw [← hql,List.getElem?_append_right (Nat.le_refl _),Nat.sub_self] at hc; cases hc; refine ⟨hDd,?_⟩; rw [aK hDd,hd6,bp e9,aN]; unfold wb; show _ = some (HO.lst (List.map V.int (List.map _ _))); rw [List.map_map]; rfl
     ·rintro σ H' ⟨v1,qs,rfl,hd',hql,hqs,kp⟩; rw [List.length_map,hul,hra] at hql; have s15 : ak H1 H' := fun b o e => kp _ _ (s35 _ _ e) (aJ e hd1)
      have hrd : r ≠ d := aJ hr4 hd; refine ⟨_,rfl,_,rfl,_,rfl,_,rfl,_,rfl,r,d,A'.shape.set ax zs.length,ax,_,fun p => V.int (rB ax A' zs p),rfl,kp _ _ ((s4.trans s5) _ _ hr4) hrd,e4,hjx,dq.ofF hd' hql (fun c q e => (hqs c q e).2),?_,fun H7 yy s7 hyy hA7 => ?_⟩
      ·intro p hp; refine ⟨_,d4 (og hp) _,?_⟩; rw [bp (h_ hra hp hjx)]; exact (wl hp hx hz).1
      ·have s17 := s15.trans s7; exact ⟨l,yy,t,kk,_,rfl,hk,S.keep s17,j6 (h := rB ax A' zs) hA7,fc e4 fun p hp => fu ho (wl hp hx hz).2,hk5.same s17⟩
  ·refine bx (a5 (by omega)) ?_; rw [if_pos e1] at k; exact ⟨ba,aQ.no S (ak.refl H1) k rfl⟩
 ·obtain ⟨n,h2,ef⟩ := aau h0; rw [Ay.step,ef] at k; refine bx (a5 h0) ?_; exact ⟨_,rfl,ba,aQ.no S (ak.refl H1) k h2⟩
end
end Go

namespace Go
open PySem PySem.Spec PyProof.Rows L2
section
variable {P : Program} {w : World} {K : Fg} {mg : Str -> Option Value} {base : Heap} {C al : Addr}
theorem sz3 : 3 <= sizeLine := by decide
def p6 (K : Fg) (C : Addr) : Sp := fun vs H Q _ => ∃ (l : Addr) (t : Ay.State) (i m j n : Nat),vs = [.ref l,.int i,.int m,.int j,.int n] /\ aB C H l t /\ aQ C H l (Ay.step t (.land i m j n)) Q
theorem sc_call_land : aq ["slots","i","mode","j","l","refusal","numbers"] ["slots","i","mode","j","l"] (aj jH) := fs
theorem xu (D : Df K mg "call_land" "call_land" jH ["slots","i","mode","j","l"]) (T : Txt K mg C) (bt : Ok P w K mg base 2 "sources_refusal" ["slots","sources"] (cY K C)) (fw : Ok P w K mg base 1 "are_below" ["numbers","bound"] (lu K)) (jp : Ok P w K mg base 4 "landed_array" ["array","mode","numbers","landing"] (mC K C)) (bh : Ok P w K mg base 2 "keep_reckoned" ["slots","k","array"] (bU C)) : Ok P w K mg base 5 "call_land" ["slots","i","mode","j","l"] (p6 K C) := by
 refine D.ok sc_call_land (fun _ _ _ _ h => by obtain ⟨_,_,_,_,_,_,rfl,_⟩ := h; rfl) (fun f cdv A outer s H vs Q E hr h => ?_); obtain ⟨l,t,i,m,j,n,rfl,S0,k0⟩ := h
 refine ⟨_,(ad (aH 5 sc_call_land.nd (ap bt hr (ab (pv 0) (ab (az (ab (pv 1) (ab (pv 3) (ab (pv 4) ac)))) ac))))
  (ad (aw (aE bz (pv 5) ai) (ae (ah (az (ab (pv 5) ac)))) ao)
  (ad (aw (aE k7 (pv 2) (aP T.g_GREATEST_MODE)) (ae (ah (az (ab (aP T.g_WRONG) ac)))) ao)
  (ad (aw (aE (t9 hr.units) (aD (au (pv 0) (pv 3)) rfl) (aD (au (pv 0) (pv 4)) rfl)) (ae (ah (az (ab (aP T.g_UNLIKE) ac)))) ao)
  (ad (aH 6 sc_call_land.nd (aD (au (pv 0) (pv 3)) rfl))
  (ad (aw (bw (bg (ap fw hr (ab (pv 6) (ab (bA T.b_len (aD (au (pv 0) (pv 1)) rfl)) ac))))) (ae (ah (az (ab (aP T.g_NOWHERE) ac)))) ao)
  (ae (ah (ap bh hr (ab (pv 0) (ab (pv 1) (ab (ap jp hr (ab (au (pv 0) (pv 1)) (ab (pv 2) (ab (pv 6) (ab (aD (au (pv 0) (pv 4)) rfl) ac))))) ac)))))))))))),?_⟩
 refine ⟨_,rfl,_,rfl,_,rfl,_,rfl,sz3,fun q hq => ?_⟩; have s0 : ak H (upd H q (.lst [.int i,.int j,.int n])) := ak.new hq; have hq1 : (upd H q (.lst [.int i,.int j,.int n])) q = some (.lst (vn [i,j,n])) := am; generalize upd H q (.lst [.int i,.int j,.int n]) = H1 at *; have S := S0.keep s0; have k := k0.same s0; refine ⟨l,q,t,[i,j,n],rfl,S,ag.of hq1,_,rfl,rfl,_,rfl,?_⟩
 by_cases h0 : cg t [i,j,n] = 0
 ·refine bq (congrArg V.int h0) ?_; obtain ⟨hi,hj,hn,A',B',D',ea,eb,ed,ef⟩ := abV h0; rw [Ay.step,ef] at k; obtain ⟨vs,x,g1,g2,hA,ho⟩ := aB.arr S hi ea; obtain ⟨dx,a1,b1,h1,h2,h3⟩ := id hA; obtain ⟨vs',y,g1',g2',hB,ho'⟩ := aB.arr S hj eb; obtain ⟨dy,a2,b2,h1',h2',h3'⟩ := id hB; obtain ⟨ws,z,f1,f2,hD,od⟩ := aB.arr S hn ed; obtain ⟨dz,a3,b3,e1,e2,e3⟩ := id hD; refine ⟨_,rfl,_,_,rfl,rfl,_,rfl,a_ (fun h => ?_) (fun h => ?_)⟩
  ·have h4 : (3 : Int) < (m : Int) := of_decide_eq_true h; rw [if_pos (by omega)] at k; exact ⟨ba,aQ.no S (ak.refl H1) k rfl⟩
  have h4 : ¬ (3 : Int) < (m : Int) := fun z => h (decide_eq_true z)
  rw [if_neg (by omega)] at k; refine ⟨_,rfl,_,rfl,l,vs',_,_,rfl,rfl,ag.of g1',g2',y,C,dy,_,_,rfl,h1',T.cl,T.nL,aU a2 b2,_,rfl,_,rfl,l,ws,_,_,rfl,rfl,ag.of f1,f2,z,C,dz,_,_,rfl,e1,T.cl,T.nL,aU a3 b3,a2,a3,Ma.nz B'.shape,Ma.nz D'.shape,rfl,rfl,ag.of h2',ag.of e2,_,rfl,?_⟩
  by_cases es : B'.shape = D'.shape
  ·refine bq (by rw [es]) ?_; rw [if_neg (by rw [es]; simp)] at k; have hla := (aG ho).2.1; refine ⟨_,rfl,_,rfl,l,vs',_,_,rfl,rfl,ag.of g1',g2',y,C,dy,_,_,rfl,h1',T.cl,T.nC,cr a2 b2,?_⟩; refine ⟨_,rfl,_,rfl,_,rfl,l,vs,_,_,rfl,rfl,ag.of g1,g2,x,C,dx,_,_,rfl,h1,T.cl,T.nC,cr a1 b1,b1,_,rfl,.inl (ag.of h3),b2,B'.cells,A'.cells.length,by rw [aN]; rfl,ag.of h3',_,rfl,?_⟩; rw [hla]
   cases e2 : Ay.numbersIn (Ad.product_ A'.shape) B'.cells with
   | false =>
    rw [if_pos e2] at k; exact ⟨ba,aQ.no S (ak.refl H1) k rfl⟩
   | true =>
    rw [if_neg (by rw [e2]; simp)] at k; have hz := Ma.nk e2; rw [← hla] at hz; have hlen : B'.cells.length = D'.cells.length := by rw [(aG ho').2.1,(aG od).2.1,es]
    refine ⟨_,rfl,_,rfl,_,rfl,_,rfl,l,vs,_,_,rfl,rfl,ag.of g1,g2,_,rfl,_,rfl,_,rfl,_,rfl,l,ws,_,_,rfl,rfl,ag.of f1,f2,z,C,dz,_,_,rfl,e1,T.cl,T.nC,cr a3 b3,x,b2,b3,A',m,B'.cells,D'.cells,rfl,hA,ho,by omega,ag.of h3',ag.of e3,hlen,hz,(aG od).2.2,fun H2 u t2 hu hA2 => ?_⟩
    have e4 : Ad.landOn m B'.cells D'.cells A'.cells = Ad.allOf (Ma.cW m (A'.cells.map some) (B'.cells.zip D'.cells)) := by
     rw [Ma.xl _ _ (fun z hz2 => by
      have := hz _ (List.of_mem_zip hz2).1
      omega)]
     rfl
    rw [e4] at k; refine ⟨l,u,t,i,A'.shape,_,rfl,hi,S.keep t2,hA2,(aG ho).1,?_,?_,k.same t2⟩
    ·rw [Ma.ql,List.length_map,hla]
    ·refine Ma.pw _ _ (fun w hw => ?_) (fun w hw => (aG od).2.2 _ (List.of_mem_zip hw).2); obtain ⟨y,hy,e⟩ := List.mem_map.mp hw; cases e; exact (aG ho).2.2 _ hy
  ·refine bx (fun z => es (Ma.ou z)) ?_; rw [if_pos es] at k; exact ⟨ba,aQ.no S (ak.refl H1) k rfl⟩
 ·obtain ⟨n',h2,ef⟩ := ach h0; rw [Ay.step,ef] at k; refine bx (a5 h0) ?_; exact ⟨_,rfl,ba,aQ.no S (ak.refl H1) k h2⟩
def pG (K : Fg) : Sp := fun vs H Q _ => ∃ (a b : Addr) (s g : List Nat),vs = [.ref a,.ref b] /\ ag K H a (vn s) /\ ag K H b (vn g) /\ Q (.bl (decide (s.length = 2 /\ g.length = 2 /\ Ad.along s 1 = Ad.along g 0))) H
theorem v5 : aq ["first","second"] ["first","second"] (aj iH) := fs
theorem vO (D : Df K mg "tables_fit" "tables_fit" iH ["first","second"]) (T : Txt K mg C) : Ok P w K mg base 1 "tables_fit" ["first","second"] (pG K) := by
 refine D.ok v5 (fun _ _ _ _ h => by obtain ⟨_,_,_,_,rfl,_⟩ := h; rfl) (fun f cdv A outer s H vs Q E hr h => ?_); obtain ⟨a,b,s1,g1,rfl,ha,hb,k⟩ := h; refine ⟨_,(ae (ah (qX (lF bB (bA T.b_len (pv 0)) ai) (qX (lF bB (bA T.b_len (pv 1)) ai) (tq (lF bB (au (pv 0) ai) (au (pv 1) ai))))))),?_⟩; refine ⟨_,rfl,a,_,rfl,.inl ha,rfl,_,rfl,?_⟩; rw [aI]
 by_cases e1 : s1.length = 2
 ·refine dA (by rw [e1]; rfl) ?_; refine ⟨_,rfl,b,_,rfl,.inl hb,rfl,_,rfl,?_⟩; rw [aI]
  by_cases e2 : g1.length = 2
  ·refine dA (by rw [e2]; rfl) ?_; refine ⟨_,rfl,a,_,_,_,rfl,rfl,ha,(bC (j := 1) (dn (bv (s := s1) (ax := 1) (by omega))) : fj _ 1 = _),_,rfl,b,_,_,_,rfl,rfl,hb,(bC (j := 0) (dn (bv (s := g1) (ax := 0) (by omega))) : fj _ 0 = _),rfl,?_⟩
   have e3 : decide (V.int ((Ad.along s1 1 : Nat) : Int) = V.int ((Ad.along g1 0 : Nat) : Int)) = decide (s1.length = 2 /\ g1.length = 2 /\ Ad.along s1 1 = Ad.along g1 0) := by
    by_cases q : Ad.along s1 1 = Ad.along g1 0
    ·rw [q,decide_eq_true rfl,decide_eq_true ⟨e1,e2,rfl⟩]
    ·rw [decide_eq_false (a5 (by omega)),decide_eq_false (fun z => q z.2.2)]
   rw [← e3] at k; exact k
  ·refine dw (a5 (by omega)) ?_; rw [decide_eq_false (fun z => e2 z.2.1)] at k; exact k
 ·refine dw (a5 (by omega)) ?_; rw [decide_eq_false (fun z => e1 z.1)] at k; exact k
def oa (K : Fg) : Sp := fun vs H Q _ => ∃ (a b : Addr) (xs ys : List Int),vs = [.ref a,.ref b] /\ ag K H a (vi xs) /\ ag K H b (vi ys) /\ xs.length = ys.length /\ (∀ z ∈ xs,Ad.cellFine z = true) /\ (∀ z ∈ ys,Ad.cellFine z = true) /\ ∀ H',ak H H' -> Q (ov (Ma.jn xs ys)) H'
theorem sc_product_sum : aq ["row","column","total","x","y"] ["row","column"] (aj gS) := fs
theorem ur (D : Df K mg "product_sum" "product_sum" gS ["row","column"]) (T : Txt K mg C) (cu : Ok P w K mg base 2 "op_cell" ["op","x","y"] (iQ)) : Ok P w K mg base 3 "product_sum" ["row","column"] (oa K) := by
 refine D.ok sc_product_sum (fun _ _ _ _ h => by obtain ⟨_,_,_,_,rfl,_⟩ := h; rfl) (fun f cdv A outer s H vs Q E hr h => ?_); obtain ⟨a,b,xs,ys,rfl,ha,hb,hl,hfx,hfy,k⟩ := h
 refine ⟨_,(ad (aH 2 sc_product_sum.nd ai)
  (ad (bQ PassesOwn.never rfl (fk rfl T.b_zip (ab (pv 0) (ab (pv 1) ac))) (gF rfl (bd (a0 3 sc_product_sum.nd) (bd (a0 4 sc_product_sum.nd) cQ))) (ae (aH 2 sc_product_sum.nd (ap cu hr (ab (aP T.g_SUM) (ab (pv 2) (ab (ap cu hr (ab (aP T.g_PRODUCT) (ab (pv 3) (ab (pv 4) ac)))) ac)))))))
  (ae (ah (pv 2))))),?_⟩
 refine ⟨_,rfl,_,rfl,a,b,_,_,rfl,ha,hb,im (K := K) (a := a) (b := b) (xs := vi xs) (ys := vi ys)
  (fun i σ H' => ∃ (v1 v2 : Option V),σ = [some (.ref a),some (.ref b),some (ov (((xs.zip ys).take i).foldl (fun o z => Ma.fh 0 o (Ma.fh 2 (some z.1) (some z.2))) (some 0))),v1,v2] /\ ak H H')
  ⟨none,none,rfl,ak.refl H⟩ (by rw [aN,aN,hl]) (fun i σ H' _ ⟨_,_,_,e⟩ => ⟨e.seq ha,e.seq hb⟩) ?_ ?_⟩
 ·rintro i z1 z2 σ H' TT hy1 hy2 hT ⟨v1,v2,rfl,sm⟩; obtain ⟨z1,hz1,rfl⟩ := dN hy1; obtain ⟨z2,hz2,rfl⟩ := dN hy2; have hz : (xs.zip ys)[i]? = some (z1,z2) := List.getElem?_zip_eq_some.mpr ⟨hz1,hz2⟩; refine ⟨TT,_,rfl,cx.of am,rfl,_,_,rfl,_,_,rfl,rfl,?_⟩; refine ⟨_,rfl,_,rfl,_,rfl,2,some z1,some z2,rfl,mj hfx hz1,mj hfy hz2,0,((xs.zip ys).take i).foldl (fun o z => Ma.fh 0 o (Ma.fh 2 (some z.1) (some z.2))) (some 0),Ma.fh 2 (some z1) (some z2),rfl,fun z hz => Ma.y8 hz,fun z hz => Ma.sJ hz,?_⟩; refine ⟨some (.int z1),some (.int z2),?_,sm.upd (sm.free hT)⟩; rw [bT hz,Ma.zY]; rfl
 ·rintro σ H' ⟨v1,v2,rfl,sm⟩; rw [aN,show xs.length = (xs.zip ys).length by rw [List.length_zip,← hl,Nat.min_self],List.take_length]; exact ⟨_,rfl,k H' sm⟩
def i3 (K : Fg) (C : Addr) : Sp := fun vs H Q _ => ∃ (x y : Addr) (A B : Ad.Arr) (n c m : Nat),vs = [.ref x,.ref y] /\ b0 C H x A /\ b0 C H y B /\ A.ok = true /\ B.ok = true /\ A.shape = [n,c] /\ B.shape = [c,m] /\ n * m <= 1024 /\ ∀ H' q,ak H H' -> H q = none -> H' q = some (.lst (vo (Ma.fW A B n m))) -> Q (.ref q) H'
theorem sc_multiplied_cells : aq ["first","second","columns","cells","row","column"] ["first","second"] (aj c9) := fs
theorem pN (D : Df K mg "multiplied_cells" "multiplied_cells" c9 ["first","second"]) (T : Txt K mg C) (be : Ok P w K mg base 4 "rows_of" ["array","axis"] (dr K C)) (kj : Ok P w K mg base 3 "product_sum" ["row","column"] (oa K)) : Ok P w K mg base 5 "multiplied_cells" ["first","second"] (i3 K C) := by
 refine D.ok sc_multiplied_cells (fun _ _ _ _ h => by obtain ⟨_,_,_,_,_,_,_,rfl,_⟩ := h; rfl) (fun f cdv A outer s H vs Q E hr h => ?_); obtain ⟨x,y,A',B',n,c,m,rfl,hA,hB,ho,ho',ha,hb,hnm,k⟩ := h
 refine ⟨_,(ad (aH 2 sc_multiplied_cells.nd (ap be hr (ab (pv 1) (ab ai ac))))
  (ad (aH 3 sc_multiplied_cells.nd (az ac))
  (ad (bQ PassesOwn.never rfl (bD (ap be hr (ab (pv 0) (ab ai ac)))) (a0 4 sc_multiplied_cells.nd) (ae (cE (gn PySem.F.plainAttrs_list PySem.F.slot_list_extend PySem.F.type_list_extend vE (pv 3) (ab (dt rfl sc_multiplied_cells.nd (bD (pv 2)) (a8 (N := ["first","second","columns","cells","row","column"]) (sc := aj c9) (own := [("column",5)]) (by decide +kernel)) (fun _ _ _ _ _ => (a0 5 sc_multiplied_cells.nd)) (fun _ _ _ _ _ => br) (fun _ _ _ _ _ => (ap kj hr (ab (pv 4) (ab (pv 5) ac))))) ac)))))
  (ae (ah (pv 3)))))),?_⟩
 have hx1 : 1 < A'.shape.length := by rw [ha]; exact Nat.lt_succ_self 1
 have hx0 : 0 < B'.shape.length := by rw [hb]; exact Nat.succ_pos 1
 have lA : (dC 1 A').length = n := by
  rw [cq,ha]; show n * 1 = n; omega
 have lB : (dC 0 B').length = m := by
  rw [cq,hb]; show m * 1 = m; omega
 refine ⟨_,rfl,y,B',0,rfl,hB,ho',hx0,fun H1 u t1 hu hU => ?_⟩; refine ⟨Nat.zero_le _,fun d hd => ?_⟩; have t2 : ak H1 (upd H1 d (.lst [])) := ak.new hd; have hd2 : (upd H1 d (.lst [])) d = some (.lst []) := am; generalize upd H1 d (.lst []) = H2 at *; have t12 := t1.trans t2; have hd0 : H d = none := t1.free hd; refine ⟨_,rfl,x,A',1,rfl,hA.keep t12,ho,hx1,fun H3 v t3 hv hV => ?_⟩; have t13 := t12.trans t3; have hd3 := t3 _ _ hd2; have hU3 := hU.keep (t2.trans t3); obtain ⟨us,hu3,hul,hus⟩ := id hU3; obtain ⟨vs3,hv3,hvl,hvs⟩ := id hV; rw [lA] at hvl; rw [lB] at hul; have hvd : v ≠ d := fun e => by rw [e,hd2] at hv; cases hv
 have hu1 : H1 u = some (.lst (us.map V.ref)) := by
  obtain ⟨us',hu',_⟩ := id hU; have := (t2.trans t3) _ _ hu'; rw [hu3] at this; rw [hu',← Option.some.inj this]
 have hud : u ≠ d := aJ hu1 hd
 have rowA : ∀ (i : Nat) p,vs3[i]? = some p -> ∃ r,H3 p = some (.lst (vi r)) /\ p ≠ d /\ (Ad.rowsBy 1 A')[i]? = some r /\ r.length = c /\ ∀ z ∈ r,Ad.cellFine z = true := fun i p hp => by
  have hi : i < vs3.length := (List.getElem?_eq_some_iff.mp hp).1; have e7 : (dC 1 A')[i]? = some ((dC 1 A')[i]'(by omega)) := List.getElem?_eq_getElem _; have e8 := hvs i p _ hp e7; generalize (dC 1 A')[i]'(by omega) = r0 at e7 e8; obtain ⟨r1,rfl,e9,l1,l2,l3,l4⟩ := dE ho hx1 e7; refine ⟨r1,e8,fun z => ?_,e9,by rw [l1,ha]; rfl,l4⟩; rw [z,hd3] at e8; have h9 : ([] : List V) = vi r1 := HO.lst.inj (Option.some.inj e8); have := congrArg List.length h9; rw [aN,List.length_nil] at this; omega
 have rowB : ∀ (i : Nat) p,us[i]? = some p -> ∃ r,H3 p = some (.lst (vi r)) /\ p ≠ d /\ (Ad.rowsBy 0 B')[i]? = some r /\ r.length = c /\ ∀ z ∈ r,Ad.cellFine z = true := fun i p hp => by
  have hi : i < us.length := (List.getElem?_eq_some_iff.mp hp).1; have e7 : (dC 0 B')[i]? = some ((dC 0 B')[i]'(by omega)) := List.getElem?_eq_getElem _; have e8 := hus i p _ hp e7; generalize (dC 0 B')[i]'(by omega) = r0 at e7 e8; obtain ⟨r1,rfl,e9,l1,l2,l3,l4⟩ := dE ho' hx0 e7; refine ⟨r1,e8,fun z => ?_,e9,by rw [l1,hb]; rfl,l4⟩; rw [z,hd3] at e8; have h9 : ([] : List V) = vi r1 := HO.lst.inj (Option.some.inj e8); have := congrArg List.length h9; rw [aN,List.length_nil] at this; omega
 have hmc : m <= 100000 := by
  obtain ⟨w1,w2,w3⟩ := Ma.aF (aG ho').1; have := Ma.b_ w2 m (by rw [hb]; simp); omega
 refine ⟨v,rfl,⟨_,ag.of hv3⟩,d7 (K := K) (a := v) (xs := vs3.map V.ref) (fun i σ H' => ∃ (v1 : Option V),σ = [some (.ref x),some (.ref y),some (.ref u),some (.ref d),v1,none] /\ H' d = some (.lst (vo (Ma.fW A' B' i m))) /\ aM d H3 H')
  ⟨none,rfl,(by rw [hd3]; unfold Ma.fW; rw [Nat.zero_mul]; rfl),(ak.refl H3).keep⟩ (fun i σ H' _ ⟨_,_,_,e⟩ => ag.of (e _ _ hv3 hvd)) ?_ ?_⟩
 ·rintro i x0 σ H' hi ⟨v1,rfl,hd',kp⟩; rw [List.getElem?_map] at hi
  cases e5 : vs3[i]? with
  | none => rw [e5] at hi; cases hi
  | some p1 =>
   rw [e5] at hi; have e6 : V.ref p1 = x0 := Option.some.inj hi; subst e6; obtain ⟨r1,b1,b2,b3,b4,b5⟩ := rowA i p1 e5; have hin : i < n := by rw [← hvl]; exact (List.getElem?_eq_some_iff.mp e5).1
   have hu' : H' u = some (.lst (us.map V.ref)) := kp _ _ hu3 hud; refine ⟨_,rfl,.inl ⟨rfl,_,ag.of hd'⟩,_,rfl,u,rfl,⟨_,ag.of hu'⟩,fun D hD => ?_⟩; refine cz (bW (ag.of hu')) (fun j => ov (Ma.lV A' B' m i j)) hD (by rw [List.length_map,hul]; show _ <= 2 ^ 24; omega) ?_ bf ?_
   ·rintro j H4 v4 H5 hj sm ⟨rfl,hv4⟩ Q' kq; rw [List.getElem?_map] at hv4
    cases e7 : us[j]? with
    | none => rw [e7] at hv4; cases hv4
    | some p2 =>
     rw [e7] at hv4; have e8 : V.ref p2 = v4 := Option.some.inj hv4; subst e8; obtain ⟨r2,c1,c2,c3,c4,c5⟩ := rowB j p2 e7; refine ⟨rfl,_,rfl,_,rfl,p1,p2,r1,r2,rfl,ag.of (sm _ _ (kp _ _ b1 b2)),ag.of (sm _ _ (kp _ _ c1 c2)),by rw [b4,c4],b5,c5,fun H6 t6 => ?_⟩; have kq2 := kq H6 t6; unfold Ma.lV at kq2; rw [bp b3,bp c3] at kq2; exact kq2
   ·intro H4 sm hd4; have hDd : D ≠ d := fun z => by rw [z,hd'] at hD; cases hD
    have hlen : (vo (Ma.fW A' B' i m)).length + ((List.range (us.map V.ref).length).map fun j => ov (Ma.lV A' B' m i j)).length <= 2 ^ 24 := by
     rw [List.length_map,List.length_map,List.length_range,List.length_map,hul]; unfold Ma.fW; rw [List.length_map,List.length_range]; have := Nat.mul_le_mul_right m (show i <= n by omega); omega
    refine ⟨d,D,_,_,rfl,rfl,sm _ _ hd',hd4,hlen,_,rfl,?_,(kp.trans sm.keep).trans aM.upd⟩; rw [am,Ma.x5,List.length_map,hul]; show _ = some (HO.lst (List.map ov (_ ++ List.map _ _))); rw [List.map_append,List.map_map]; rfl
 ·rintro σ H' ⟨v1,rfl,hd',kp⟩; rw [List.length_map,hvl] at hd'; have sm : ak H H' := fun b o e => kp _ _ (t13 _ _ e) (aJ e hd0)
  exact ⟨_,rfl,k H' d sm hd0 hd'⟩
end
end Go

namespace Go
open PySem PySem.Spec PyProof.Rows L2
section
variable {P : Program} {w : World} {K : Fg} {mg : Str -> Option Value} {base : Heap} {C al : Addr}
theorem aaC {s : List Nat} (h : s.length = 2) : s = [Ad.along s 0,Ad.along s 1] := by
 match s,h with
 | [a,b],_ => rfl
def pE (K : Fg) (C : Addr) : Sp := fun vs H Q _ => ∃ (l : Addr) (t : Ay.State) (kk i j : Nat),vs = [.ref l,.int kk,.int i,.int j] /\ aB C H l t /\ aQ C H l (Ay.step t (.times kk i j)) Q
theorem sc_call_times : aq ["slots","k","i","j","refusal","first","second","lengths"] ["slots","k","i","j"] (aj iT) := fs
theorem v8 (D : Df K mg "call_times" "call_times" iT ["slots","k","i","j"]) (T : Txt K mg C) (aR : Ok P w K mg base 3 "slots_refusal" ["slots","k","sources"] (bV K C)) (ln : Ok P w K mg base 1 "tables_fit" ["first","second"] (pG K)) (aW : Ok P w K mg base 2 "is_shape" ["lengths"] (ca K)) (fQ : Ok P w K mg base 5 "multiplied_cells" ["first","second"] (i3 K C)) (bh : Ok P w K mg base 2 "keep_reckoned" ["slots","k","array"] (bU C)) (aS : dO P w K mg base 1 "Array" C ["self","lengths","cells"] (bO C)) : Ok P w K mg base 6 "call_times" ["slots","k","i","j"] (pE K C) := by
 refine D.ok sc_call_times (fun _ _ _ _ h => by obtain ⟨_,_,_,_,_,rfl,_⟩ := h; rfl) (fun f cdv A outer s H vs Q E hr h => ?_); obtain ⟨l,t,kk,i,j,rfl,S0,k0⟩ := h
 refine ⟨_,(ad (aH 4 sc_call_times.nd (ap aR hr (ab (pv 0) (ab (pv 1) (ab (az (ab (pv 2) (ab (pv 3) ac))) ac)))))
  (ad (aw (aE bz (pv 4) ai) (ae (ah (az (ab (pv 4) ac)))) ao)
  (ad (aH 5 sc_call_times.nd (au (pv 0) (pv 2)))
  (ad (aH 6 sc_call_times.nd (au (pv 0) (pv 3)))
  (ad (aw (bw (bg (ap ln hr (ab (aD (pv 5) rfl) (ab (aD (pv 6) rfl) ac))))) (ae (ah (az (ab (aP T.g_UNLIKE) ac)))) ao)
  (ad (aH 7 sc_call_times.nd (az (ab (au (aD (pv 5) rfl) ai) (ab (au (aD (pv 6) rfl) ai) ac))))
  (ad (aw (bw (bg (ap aW hr (ab (pv 7) ac)))) (ae (ah (az (ab (aP T.g_BEYOND) ac)))) ao)
  (ae (ah (ap bh hr (ab (pv 0) (ab (pv 1) (ab (dZ aS hr (ab (pv 7) (ab (ap fQ hr (ab (pv 5) (ab (pv 6) ac))) ac))) ac))))))))))))),?_⟩
 refine ⟨_,rfl,_,rfl,_,rfl,_,rfl,lj,fun q hq => ?_⟩; have s0 : ak H (upd H q (.lst [.int i,.int j])) := ak.new hq; have hq1 : (upd H q (.lst [.int i,.int j])) q = some (.lst (vn [i,j])) := am; generalize upd H q (.lst [.int i,.int j]) = H1 at *; have S := S0.keep s0; have k := k0.same s0; refine ⟨l,q,t,kk,[i,j],rfl,S,ag.of hq1,_,rfl,rfl,_,rfl,?_⟩
 by_cases h0 : bJ t kk [i,j] = 0
 ·refine bq (congrArg V.int h0) ?_; obtain ⟨hk,hi,hj,A',B',ea,eb,ef⟩ := oo h0; rw [Ay.step,ef] at k; obtain ⟨vs,x,g1,g2,hA,ho⟩ := aB.arr S hi ea; obtain ⟨dx,a1,b1,h1,h2,h3⟩ := id hA; obtain ⟨vs',y,g1',g2',hB,ho'⟩ := aB.arr S hj eb; obtain ⟨dy,a2,b2,h1',h2',h3'⟩ := id hB; refine ⟨_,rfl,_,rfl,l,vs,_,_,rfl,rfl,ag.of g1,g2,_,rfl,_,rfl,l,vs',_,_,rfl,rfl,ag.of g1',g2',?_⟩; refine ⟨_,rfl,x,C,dx,_,_,rfl,h1,T.cl,T.nL,aU a1 b1,_,rfl,y,C,dy,_,_,rfl,h1',T.cl,T.nL,aU a2 b2,a1,a2,A'.shape,B'.shape,rfl,ag.of h2,ag.of h2',_,rfl,?_⟩
  by_cases e1 : A'.shape.length = 2 /\ B'.shape.length = 2 /\ Ad.along A'.shape 1 = Ad.along B'.shape 0
  ·obtain ⟨e2,e3,e4⟩ := id e1; rw [decide_eq_true e1]; rw [if_neg (by rw [e2,e3,e4]; simp)] at k; have hn0 := bv (s := A'.shape) (ax := 0) (by omega); have hm1 := bv (s := B'.shape) (ax := 1) (by omega); refine ⟨_,rfl,x,C,dx,_,_,rfl,h1,T.cl,T.nL,aU a1 b1,a1,_,_,_,rfl,rfl,ag.of h2,(bC (j := 0) (dn hn0) : fj _ 0 = _),_,rfl,y,C,dy,_,_,rfl,h1',T.cl,T.nL,aU a2 b2,a2,_,_,_,rfl,rfl,ag.of h2',(bC (j := 1) (dn hm1) : fj _ 1 = _),lj,fun u hu => ?_⟩
   have sA : A'.shape = [Ad.along A'.shape 0,Ad.along B'.shape 0] := by
    rw [← e4]; exact aaC e2
   have sB : B'.shape = [Ad.along B'.shape 0,Ad.along B'.shape 1] := aaC e3; have bn := cb (aG ho).1 _ (List.mem_of_getElem? hn0); have bm := cb (aG ho').1 _ (List.mem_of_getElem? hm1); have t2 : ak H1 (upd H1 u (.lst [.int ((Ad.along A'.shape 0 : Nat) : Int),.int ((Ad.along B'.shape 1 : Nat) : Int)])) := ak.new hu; have hu2 : (upd H1 u (.lst [.int ((Ad.along A'.shape 0 : Nat) : Int),.int ((Ad.along B'.shape 1 : Nat) : Int)])) u = some (.lst (vn [Ad.along A'.shape 0,Ad.along B'.shape 1])) := am; generalize upd H1 u (.lst [.int ((Ad.along A'.shape 0 : Nat) : Int),.int ((Ad.along B'.shape 1 : Nat) : Int)]) = H2 at *; generalize Ad.along A'.shape 0 = n at *; generalize Ad.along B'.shape 1 = m at *; generalize Ad.along B'.shape 0 = c at *
   refine ⟨_,rfl,u,[n,m],rfl,ag.of hu2,(fun z hz => by
    rcases List.mem_cons.mp hz with e | e
    ·rw [e]; exact bn
    ·rw [List.mem_singleton.mp e]; exact bm),_,rfl,?_⟩
   cases e5 : Ad.shapeOk [n,m] with
   | false =>
    rw [if_pos e5] at k; exact ⟨ba,aQ.no S t2 k rfl⟩
   | true =>
    rw [if_neg (by rw [e5]; simp)] at k
    have hprod : Ad.product_ [n,m] = n * m := by
     show n * (m * 1) = n * m; rw [Nat.mul_one]
    have hnm : n * m <= 1024 := by
     rw [← hprod]; exact (Ma.aF e5).2.2
    refine ⟨_,rfl,_,rfl,_,rfl,_,rfl,_,rfl,x,y,A',B',n,c,m,rfl,hA.keep t2,hB.keep t2,ho,ho',sA,sB,hnm,fun H3 d t3 hd hd3 => ?_⟩; have t13 := t2.trans t3; refine j4 (Q := fun v H5 => bU C ([.ref l,.int kk,v] ++ []) H5 Q E0) (s := [n,m]) (t3 _ _ hu2) hd3 fun z H5 hz t5 hA5 => ?_
    have t15 := t13.trans t5; rw [← Ma.aaF sA sB] at k; refine ⟨l,z,t,kk,_,_,rfl,hk,S.keep t15,hA5,e5,?_,?_,k.same t15⟩
    ·unfold Ma.fW; rw [List.length_map,List.length_range,hprod]
    ·intro w hw; obtain ⟨_,_,e⟩ := List.mem_map.mp hw; exact Ma.vj e
  ·rw [decide_eq_false e1]; rw [if_pos (by omega)] at k; exact ⟨ba,aQ.no S (ak.refl H1) k rfl⟩
 ·obtain ⟨n,h2,ef⟩ := tX h0; rw [Ay.step,ef] at k; refine bx (a5 h0) ?_; exact ⟨_,rfl,ba,aQ.no S (ak.refl H1) k h2⟩
def qZ (K : Fg) (C : Addr) : Sp := fun vs H Q _ => ∃ (l : Addr) (t : Ay.State) (i j : Nat),vs = [.ref l,.int i,.int j] /\ aB C H l t /\ aQ C H l (Ay.step t (.same i j)) Q
theorem sc_call_same : aq ["slots","i","j","refusal","are_same"] ["slots","i","j"] (aj jI) := fs
theorem wH (D : Df K mg "call_same" "call_same" jI ["slots","i","j"]) (T : Txt K mg C) (bt : Ok P w K mg base 2 "sources_refusal" ["slots","sources"] (cY K C)) : Ok P w K mg base 3 "call_same" ["slots","i","j"] (qZ K C) := by
 refine D.ok sc_call_same (fun _ _ _ _ h => by obtain ⟨_,_,_,_,rfl,_⟩ := h; rfl) (fun f cdv A outer s H vs Q E hr h => ?_); obtain ⟨l,t,i,j,rfl,S0,k0⟩ := h
 refine ⟨_,(ad (aH 3 sc_call_same.nd (ap bt hr (ab (pv 0) (ab (az (ab (pv 1) (ab (pv 2) ac))) ac))))
  (ad (aw (aE bz (pv 3) ai) (ae (ah (az (ab (pv 3) ac)))) ao)
  (ad (aH 4 sc_call_same.nd (qX (lF (wf hr.units) (aD (au (pv 0) (pv 1)) rfl) (aD (au (pv 0) (pv 2)) rfl)) (tq (lF (wf hr.units) (aD (au (pv 0) (pv 1)) rfl) (aD (au (pv 0) (pv 2)) rfl)))))
  (ae (ah (az (ab ai (ab (fV (bg (pv 4)) ai ai) ac)))))))),?_⟩
 refine ⟨_,rfl,_,rfl,_,rfl,lj,fun q hq => ?_⟩; have s0 : ak H (upd H q (.lst [.int i,.int j])) := ak.new hq; have hq1 : (upd H q (.lst [.int i,.int j])) q = some (.lst (vn [i,j])) := am; generalize upd H q (.lst [.int i,.int j]) = H1 at *; have S := S0.keep s0; have k := k0.same s0; refine ⟨l,q,t,[i,j],rfl,S,ag.of hq1,_,rfl,rfl,_,rfl,?_⟩
 by_cases h0 : cg t [i,j] = 0
 ·refine bq (congrArg V.int h0) ?_; obtain ⟨hi,hj,A',B',ea,eb,ef⟩ := rC h0; rw [Ay.step,ef] at k; obtain ⟨vs,x,g1,g2,hA,ho⟩ := aB.arr S hi ea; obtain ⟨dx,a1,b1,h1,h2,h3⟩ := id hA; obtain ⟨vs',y,g1',g2',hB,ho'⟩ := aB.arr S hj eb; obtain ⟨dy,a2,b2,h1',h2',h3'⟩ := id hB
  have fin : ∀ z : Int,z = (if A' = B' then 1 else 0) -> ∀ p,H1 p = none -> Q (.ref p) (upd H1 p (.lst [.int 0,.int z])) := fun z ez p hp => by
   have t2 : ak H1 (upd H1 p (.lst [.int 0,.int z])) := ak.new hp; refine k _ p t2.keep (S.keep t2) hp ?_; rw [am,ez]; rfl
  refine ⟨_,rfl,_,rfl,l,vs,_,_,rfl,rfl,ag.of g1,g2,x,C,dx,_,_,rfl,h1,T.cl,T.nL,aU a1 b1,_,rfl,_,rfl,l,vs',_,_,rfl,rfl,ag.of g1',g2',y,C,dy,_,_,rfl,h1',T.cl,T.nL,aU a2 b2,a1,a2,Ma.nz A'.shape,Ma.nz B'.shape,rfl,rfl,ag.of h2,ag.of h2',_,rfl,?_⟩
  by_cases e1 : A'.shape = B'.shape
  ·refine dA (by rw [e1]) ?_; refine ⟨_,rfl,_,rfl,l,vs,_,_,rfl,rfl,ag.of g1,g2,x,C,dx,_,_,rfl,h1,T.cl,T.nC,cr a1 b1,_,rfl,_,rfl,l,vs',_,_,rfl,rfl,ag.of g1',g2',y,C,dy,_,_,rfl,h1',T.cl,T.nC,cr a2 b2,b1,b2,A'.cells,B'.cells,rfl,rfl,ag.of h3,ag.of h3',?_⟩; refine ⟨_,rfl,_,rfl,?_⟩
   by_cases e2 : A'.cells = B'.cells
   ·refine dA e2 ?_; exact ⟨lj,fin 1 (by rw [if_pos (by cases A'; cases B'; simp only at e1 e2; rw [e1,e2])])⟩
   ·refine dw e2 ?_; exact ⟨lj,fin 0 (by rw [if_neg (fun e => e2 (by rw [e]))])⟩
  ·refine dw (fun z => e1 (Ma.ou z)) ?_; exact ⟨_,rfl,_,rfl,lj,fin 0 (by rw [if_neg (fun e => e1 (by rw [e]))])⟩
 ·obtain ⟨n,h2,ef⟩ := tD h0; rw [Ay.step,ef] at k; refine bx (a5 h0) ?_; exact ⟨_,rfl,ba,aQ.no S (ak.refl H1) k h2⟩
end
end Go

namespace Go
open PySem PySem.Spec PyProof.Rows L2
section
variable {P : Program} {w : World} {K : Fg} {mg : Str -> Option Value} {base : Heap} {C al : Addr}
theorem wT {s : List Nat} (h : s ≠ []) : s[s.length - 1]? = some (Ad.rowLength s) := by
 unfold Ad.rowLength; rw [List.getLast?_eq_getElem?]; have : 0 < s.length := List.length_pos_iff.mpr h; rw [List.getElem?_eq_getElem (by omega)]; rfl
theorem uP {s : List Nat} (h : Ad.shapeOk s = true) : 1 <= Ad.rowLength s /\ Ad.rowLength s <= 1024 := by
 obtain ⟨z1,z2,z3⟩ := Ma.aF h
 by_cases hs : s = []
 ·subst hs; exact ⟨Nat.le_refl _,by decide⟩
 ·have hm := List.mem_of_getElem? (wT hs); exact ⟨z2 _ hm,Nat.le_trans (Ma.b_ z2 _ hm) z3⟩
theorem yz (s : List Nat) : Ad.product_ s = Ad.product_ s.dropLast * Ad.rowLength s := by
 by_cases hs : s = []
 ·subst hs; rfl
 ·have h1 := List.dropLast_concat_getLast hs
  have h2 : Ad.rowLength s = s.getLast hs := by
   unfold Ad.rowLength; rw [List.getLast?_eq_getLast hs]; rfl
  rw [h2]
  conv => lhs; rw [← h1]
  rw [Ma.dD]; show _ * (_ * 1) = _; rw [Nat.mul_one]
def lS (K : Fg) : Sp := fun vs H Q _ => ∃ (a : Addr) (s : List Nat),vs = [.ref a] /\ ag K H a (vn s) /\ Q (.int (Ad.rowLength s)) H
theorem xr : aq ["lengths"] ["lengths"] (aj jx) := fs
theorem wK (D : Df K mg "line_size" "line_size" jx ["lengths"]) (T : Txt K mg C) : Ok P w K mg base 1 "line_size" ["lengths"] (lS K) := by
 refine D.ok xr (fun _ _ _ _ h => by obtain ⟨_,_,rfl,_⟩ := h; rfl) (fun f cdv A outer s H vs Q E hr h => ?_); obtain ⟨a,s1,rfl,ha,k⟩ := h
 refine ⟨_,(ad (aw (aE bB (bA T.b_len (pv 0)) ai) (ae (ah ai)) ao)
  (ae (ah (au (pv 0) (rk nZ ai))))),?_⟩
 refine ⟨_,rfl,a,_,rfl,.inl ha,rfl,_,rfl,?_⟩; rw [aI]
 by_cases hs : s1 = []
 ·subst hs; refine dA rfl ?_; exact k
 ·have hpos : 0 < s1.length := List.length_pos_iff.mpr hs; refine dw (a5 (by omega)) ?_; refine ⟨_,rfl,_,rfl,a,_,_,_,rfl,rfl,ha,?_,k⟩; unfold fj fU; rw [aI,if_neg (by omega),if_pos (by omega)]; show (vn s1)[((-1 : Int) + (s1.length : Nat)).toNat]? = _; rw [show ((-1 : Int) + (s1.length : Nat)).toNat = s1.length - 1 by omega]; exact dn (wT hs)
theorem vp {n : Nat} (h : n < 2 ^ 64) : n.log2 < 1920 := by
 by_cases h0 : n = 0
 ·subst h0
  decide
 ·have := (Nat.log2_lt h0).mpr h; omega
def lG (n : Nat) (l : List Int) (i : Nat) : List Nat := Ad.joinWith 32 (((l.drop (i * n)).take n).map Ad.decimal) ++ [10]
def ol (s : List Nat) : List Nat := 91 :: (Ad.joinWith 44 (s.map Ad.decNat) ++ [93,10])
theorem abY {A : Ad.Arr} (h : Ad.shapeOk A.shape = true) : A.text = (ol A.shape :: (List.range (Ad.product_ A.shape.dropLast)).map (lG (Ad.rowLength A.shape) A.cells)).flatten := by
 unfold Ad.Arr.text ol; have hp := uP h
 have e : Ad.product_ A.shape / Ad.rowLength A.shape = Ad.product_ A.shape.dropLast := by
  rw [yz A.shape,Nat.mul_div_cancel _ (by omega)]
 rw [e,vI,List.flatten_cons,List.flatMap_map]; show 91 :: (_ ++ ([93,10] ++ _)) = 91 :: ((_ ++ [93,10]) ++ _); rw [List.append_assoc]; congr 3
def tT (K : Fg) (C : Addr) : Sp := fun vs H Q _ => ∃ (x : Addr) (A : Ad.Arr),vs = [.ref x] /\ b0 C H x A /\ A.ok = true /\ ∀ H' (z : Str),ak H H' -> TL.tl z = A.text -> z.length <= 100000 -> Q (.str z) H'
theorem sc_text_of : aq ["array","lines","size","start","length","cell"] ["array"] (aj ip) := fs
theorem yP (D : Df K mg "text_of" "text_of" ip ["array"]) (T : Txt K mg C) (fv : Ok P w K mg base 1 "line_size" ["lengths"] (lS K)) : Ok P w K mg base 2 "text_of" ["array"] (tT K C) := by
 refine D.ok sc_text_of (fun _ _ _ _ h => by obtain ⟨_,_,rfl,_⟩ := h; rfl) (fun f cdv A outer s H vs Q E hr h => ?_); obtain ⟨x,A',rfl,hA,ho,k⟩ := h
 refine ⟨_,(ad (aH 1 sc_text_of.nd (az (ab (aV pi (aV pi cX (uR cX (dt rfl sc_text_of.nd (bD (aD (pv 0) rfl)) (a8 (N := ["array","lines","size","start","length","cell"]) (sc := aj ip) (own := [("length",4)]) (by decide +kernel)) (fun _ _ _ _ _ => (a0 4 sc_text_of.nd)) (fun _ _ _ _ _ => br) (fun _ _ _ _ _ => (f9 qV (by rfl) T.b_str aaH (ab (pv 4) ac)))))) cX) ac)))
  (ad (aH 2 sc_text_of.nd (ap fv hr (ab (aD (pv 0) rfl) ac)))
  (ad (bQ PassesOwn.never rfl (vd rfl T.b_range (ab ai (ab (bA T.b_len (aD (pv 0) rfl)) (ab (pv 2) ac)))) (a0 3 sc_text_of.nd) (ae (cE (gn PySem.F.plainAttrs_list PySem.F.slot_list_append PySem.F.type_list_append c7 (pv 1) (ab (aV pi (uR cX (dt rfl sc_text_of.nd (bD (e_ gf (aD (pv 0) rfl) (eL (pv 3)) (eL (aV cM (pv 3) (pv 2))))) (a8 (N := ["array","lines","size","start","length","cell"]) (sc := aj ip) (own := [("cell",5)]) (by decide +kernel)) (fun _ _ _ _ _ => (a0 5 sc_text_of.nd)) (fun _ _ _ _ _ => br) (fun _ _ _ _ _ => (f9 qV (by rfl) T.b_str aaH (ab (pv 5) ac))))) cX) ac)))))
  (ae (ah (uR cX (pv 1))))))),?_⟩
 obtain ⟨dx,a,b,h1,h2,h3⟩ := id hA; have hs := (aG ho).1; obtain ⟨z1,z2,z3⟩ := Ma.aF hs; have hrp := uP hs; have hrm := yz A'.shape; have hcl := (aG ho).2.1; have hcf := (aG ho).2.2; refine ⟨⟨_,rfl⟩,_,rfl,x,C,dx,_,_,rfl,h1,T.cl,T.nL,aU a b,a,rfl,⟨_,ag.of h2⟩,fun D hD => ?_⟩; refine cz (bW (ag.of h2)) (fun i => V.str (Str.ofString (toString ((A'.shape.getD i 0 : Nat) : Int)))) hD (by rw [aI]; show _ <= 2 ^ 24; omega) ?_ bf ?_
 ·rintro i H1 v H2 hi sm ⟨rfl,hx⟩ Q' kq; obtain ⟨n,hn,rfl⟩ := cJ hx; have hb := Ma.b_ z2 n (List.mem_of_getElem? hn); have kq2 := kq _ (ak.refl _); rw [bp hn] at kq2; exact ⟨rfl,_,rfl,_,rfl,vp (by omega),kq2⟩
 ·intro H1 t1 hD1; rw [aI,yG] at hD1
  have ety : ((List.range A'.shape.length).map fun i => Str.ofString (toString ((A'.shape.getD i 0 : Nat) : Int))).map TL.tl = A'.shape.map Ad.decNat := by
   rw [List.map_map]; have := Ma.gc (fun n : Nat => TL.tl (Str.ofString (toString (n : Int)))) 0 A'.shape
   have e2 : (fun n : Nat => TL.tl (Str.ofString (toString (n : Int)))) = Ad.decNat := by
    funext n; rw [wE,yB]
   rw [e2] at this; rw [← this]; apply List.map_congr_left; intro i _; show TL.tl (Str.ofString (toString _)) = _; rw [wE,yB]
  have eyl : ((List.range A'.shape.length).map fun i => Str.ofString (toString ((A'.shape.getD i 0 : Nat) : Int))).length = A'.shape.length := by rw [List.length_map,List.length_range]
  generalize ((List.range A'.shape.length).map fun i => Str.ofString (toString ((A'.shape.getD i 0 : Nat) : Int))) = ys at *
  have hyb : ∀ y ∈ ys,y.length <= 17 := fun y hy => by
   rw [TL.cN]; have hm : TL.tl y ∈ ys.map TL.tl := List.mem_map.mpr ⟨y,hy,rfl⟩; rw [ety] at hm; obtain ⟨n,hn,e⟩ := List.mem_map.mp hm; rw [← e]; have hb := Ma.b_ z2 n hn; have := rz 15 n (by omega); omega
  have hsum := wx hyb
  have ej : TL.tl (Txt.join (Str.ofString ",") ys) = Ad.joinWith 44 (A'.shape.map Ad.decNat) := by
   rw [xb (c := 44) (by rw [TL.bZ]; rfl),ety]
  have ejl : (Ad.joinWith 44 (A'.shape.map Ad.decNat)).length <= 100 := by
   have := sO 44 17 (l := A'.shape.map Ad.decNat) fun y hy => by
    obtain ⟨n,hn,e⟩ := List.mem_map.mp hy; rw [← e]; have hb := Ma.b_ z2 n hn; have := rz 15 n (by omega); omega
   rw [List.length_map] at this; omega
  have l1 : (Str.ofString "[").length = 1 := by rw [TL.cN,TL.bZ]; rfl
  have l2 : (Str.ofString ",").length = 1 := by rw [TL.cN,TL.bZ]; rfl
  have l3 : (Str.ofString "]\n").length = 2 := by rw [TL.cN,TL.bZ]; rfl
  have l4 : (Txt.join (Str.ofString ",") ys).length <= 100 := by rw [TL.cN,ej]; exact ejl
  have l5 : (Str.ofString "[" ++ Txt.join (Str.ofString ",") ys).length <= 101 := by rw [TL.cN,TL.f6,List.length_append,← TL.cN,← TL.cN,l1]; omega
  have ehead : TL.tl (Str.ofString "[" ++ Txt.join (Str.ofString ",") ys ++ Str.ofString "]\n") = ol A'.shape := by
   rw [TL.f6,TL.f6,ej,TL.bZ,TL.bZ]; rfl
  have l6 : (ol A'.shape).length <= 103 := by
   unfold ol; rw [List.length_cons,List.length_append]; simp only [List.length_cons,List.length_nil]; omega
  refine ⟨_,D,ys,rfl,rfl,.inl (ag.of hD1),(by rw [l2]; omega),_,_,rfl,rfl,(by rw [l1]; show _ <= 2 ^ 24; omega),_,_,rfl,rfl,(by rw [l3]; show _ <= 2 ^ 24; omega),ba,fun d hd => ?_⟩; generalize Str.ofString "[" ++ Txt.join (Str.ofString ",") ys ++ Str.ofString "]\n" = hd0 at *; have t2 : ak H1 (upd H1 d (.lst [.str hd0])) := ak.new hd; have hd2 : (upd H1 d (.lst [.str hd0])) d = some (.lst ([hd0].map V.str)) := am; generalize upd H1 d (.lst [.str hd0]) = H2 at *; have t12 := t1.trans t2; refine ⟨_,rfl,x,C,dx,_,_,rfl,t12 _ _ h1,T.cl,T.nL,aU a b,a,A'.shape,rfl,ag.of (t12 _ _ h2),?_⟩; have hd0n : H d = none := t1.free hd; have hlen : (vi A'.cells).length = Ad.product_ A'.shape.dropLast * Ad.rowLength A'.shape := by rw [aN,hcl,hrm]
  have hkn : Ad.product_ A'.shape.dropLast * Ad.rowLength A'.shape <= 1024 := by rw [← hrm]; exact z3
  have etext := abY hs; rw [etext] at k; have hcl2 : A'.cells.length = Ad.product_ A'.shape.dropLast * Ad.rowLength A'.shape := by rw [hcl,hrm]
  generalize Ad.product_ A'.shape.dropLast = kk at *; generalize Ad.rowLength A'.shape = nn at *; have hkk : kk <= 1024 := Nat.le_trans (Nat.le_mul_of_pos_right kk hrp.1) hkn
  have hline : ∀ i,(lG nn A'.cells i).length <= nn * 18 + 1 := fun i => by
   unfold lG; rw [List.length_append]
   have := sO 32 17 (l := ((A'.cells.drop (i * nn)).take nn).map Ad.decimal) fun y hy => by
    obtain ⟨z,hz,e⟩ := List.mem_map.mp hy; rw [← e]; exact rX (hcf z (List.mem_of_mem_drop (List.mem_of_mem_take hz)))
   rw [List.length_map,List.length_take] at this; have h5 := Nat.mul_le_mul_right 18 (Nat.min_le_left nn (A'.cells.drop (i * nn)).length); simp only [List.length_cons,List.length_nil]; omega
  refine ⟨_,rfl,x,C,dx,_,_,rfl,t12 _ _ h1,T.cl,T.nC,cr a b,b,_,rfl,.inl (ag.of (t12 _ _ h3)),_,rfl,0,_,_,kk,rfl,?_,yQ (n := kk) (fun i σ H' => ∃ (v1 : Option V) (ls : List Str),σ = [some (.ref x),some (.ref d),some (.int nn),v1,none,none] /\ H' d = some (.lst (ls.map V.str)) /\ ls.map TL.tl = ol A'.shape :: (List.range i).map (lG nn A'.cells) /\ aM d H2 H')
   ⟨none,[hd0],rfl,hd2,(by rw [List.map_cons,ehead]; rfl),(ak.refl H2).keep⟩ ?_ ?_⟩
  ·rw [hlen]; exact wg.mul hrp.1 hrp.2 hkn
  ·rintro i σ H' hi ⟨v1,ls,rfl,hd',els,kp⟩; have hbd : b ≠ d := aJ h3 hd0n; have hxd : x ≠ d := aJ h1 hd0n; have hb' : H' b = some (.lst (vi A'.cells)) := kp _ _ (t12 _ _ h3) hbd; have hx' : H' x = some (.ins C dx (af a b)) := kp _ _ (t12 _ _ h1) hxd
   have hin : i * nn + nn <= A'.cells.length := by
    have := Nat.mul_le_mul_right nn (show i + 1 <= kk by omega); rw [Nat.succ_mul] at this; omega
   refine ⟨_,rfl,.inl ⟨rfl,_,ag.of hd'⟩,⟨_,rfl⟩,_,rfl,x,C,dx,_,_,rfl,hx',T.cl,T.nC,cr a b,_,rfl,_,rfl,_,rfl,_,rfl,_,_,rfl,rfl,_,rfl,b,_,rfl,ag.of hb',fun q hq => ?_⟩
   have ecut : eN (vi A'.cells) (some ((0 : Int) + (i : Nat) * (nn : Int))) (some ((0 : Int) + (i : Nat) * (nn : Int) + (nn : Int))) = vi ((A'.cells.drop (i * nn)).take nn) := by
    have := vt (vi A'.cells) (i * nn) nn (by rw [aN]; exact hin); rw [uV,yk] at this; rw [← this,Int.natCast_add,Int.natCast_mul,Int.zero_add]
   rw [ecut]; have elo : lG nn A'.cells i = Ad.joinWith 32 (((A'.cells.drop (i * nn)).take nn).map Ad.decimal) ++ [10] := rfl; have hrl : ((A'.cells.drop (i * nn)).take nn).length = nn := by rw [List.length_take,List.length_drop]; omega
   have hrf : ∀ z ∈ (A'.cells.drop (i * nn)).take nn,Ad.cellFine z = true := fun z hz => hcf z (List.mem_of_mem_drop (List.mem_of_mem_take hz))
   generalize (A'.cells.drop (i * nn)).take nn = rr at *; have t3 : ak H' (upd H' q (.lst (vi rr))) := ak.new hq; have hq3 : (upd H' q (.lst (vi rr))) q = some (.lst (vi rr)) := am; generalize upd H' q (.lst (vi rr)) = H3 at *; refine ⟨q,rfl,⟨_,ag.of hq3⟩,fun D2 hD2 => ?_⟩; refine cz (bW (ag.of hq3)) (fun j => V.str (Str.ofString (toString (rr.getD j 0)))) hD2 (by rw [aN]; show _ <= 2 ^ 24; omega) ?_ bf ?_
   ·rintro j H4 v H5 hj sm ⟨rfl,hx2⟩ Q' kq; obtain ⟨z,hz,rfl⟩ := dN hx2; have hb2 := wW (hrf z (List.mem_of_getElem? hz)); have kq2 := kq _ (ak.refl _); rw [bp hz] at kq2; exact ⟨rfl,_,rfl,_,rfl,vp (by omega),kq2⟩
   ·intro H4 t4 hD4; rw [aN,yG] at hD4
    have etw : ((List.range rr.length).map fun j => Str.ofString (toString (rr.getD j 0))).map TL.tl = rr.map Ad.decimal := by
     rw [List.map_map]; have := Ma.gc (fun z : Int => TL.tl (Str.ofString (toString z))) 0 rr
     have e2 : (fun z : Int => TL.tl (Str.ofString (toString z))) = Ad.decimal := by
      funext z; exact wE z
     rw [e2] at this; rw [← this]; apply List.map_congr_left; intro j _; rfl
    have ewl : ((List.range rr.length).map fun j => Str.ofString (toString (rr.getD j 0))).length = rr.length := by rw [List.length_map,List.length_range]
    generalize ((List.range rr.length).map fun j => Str.ofString (toString (rr.getD j 0))) = ws at *
    have hwb : ∀ y ∈ ws,y.length <= 17 := fun y hy => by
     rw [TL.cN]; have hm : TL.tl y ∈ ws.map TL.tl := List.mem_map.mpr ⟨y,hy,rfl⟩; rw [etw] at hm; obtain ⟨z,hz,e⟩ := List.mem_map.mp hm; rw [← e]; exact rX (hrf z hz)
    have hsum2 := wx hwb; have m1 : (Str.ofString " ").length = 1 := by rw [TL.cN,TL.bZ]; rfl
    have m2 : (Str.ofString "\n").length = 1 := by rw [TL.cN,TL.bZ]; rfl
    have ew : TL.tl (Txt.join (Str.ofString " ") ws ++ Str.ofString "\n") = lG nn A'.cells i := by
     rw [TL.f6,xb (c := 32) (by rw [TL.bZ]; rfl),etw,TL.bZ,elo]; rfl
    have m3 : (Txt.join (Str.ofString " ") ws).length + 1 <= nn * 18 + 1 := by
     have h6 := hline i; rw [← ew,TL.f6,List.length_append,← TL.cN,← TL.cN,m2] at h6; exact h6
    refine ⟨_,D2,ws,rfl,rfl,.inl (ag.of hD4),(by rw [m1]; omega),_,_,rfl,rfl,(by rw [m2]; show _ <= 2 ^ 24; omega),?_⟩; generalize Txt.join (Str.ofString " ") ws ++ Str.ofString "\n" = nl at *; have t34 := t3.trans t4
    have hll : ls.length = i + 1 := by
     have := congrArg List.length els; rw [List.length_map,List.length_cons,List.length_map,List.length_range] at this; exact this
    refine ⟨d,_,_,rfl,rfl,t34 _ _ hd',(by rw [List.length_map,hll]; show _ < 2 ^ 24; omega),_,ls ++ [nl],rfl,?_,?_,(kp.trans t34.keep).trans aM.upd⟩
    ·rw [am,List.map_append]; rfl
    ·rw [List.map_append,els,List.range_succ,List.map_append,List.map_cons,List.map_nil,ew]; rfl
  ·rintro σ H' ⟨v1,ls,rfl,hd',els,kp⟩; have sm : ak H H' := fun b o e => kp _ _ (t12 _ _ e) (aJ e hd0n)
   have hll : ls.length = kk + 1 := by
    have := congrArg List.length els; rw [List.length_map,List.length_cons,List.length_map,List.length_range] at this; exact this
   have e0 : TL.tl (Str.ofString "") = [] := by rw [TL.bZ]; rfl
   have e0l : (Str.ofString "").length = 0 := by rw [TL.cN,e0]; rfl
   have hsum3 : (ls.map (·.length)).sum <= 103 + kk * (nn * 18 + 1) := by
    have h7 : ls.map (·.length) = (ls.map TL.tl).map List.length := by
     rw [List.map_map]; apply List.map_congr_left; intro y _; exact TL.cN y
    rw [h7,els,List.map_cons,List.sum_cons]
    have h8 : ∀ m : Nat,(((List.range m).map (lG nn A'.cells)).map List.length).sum <= m * (nn * 18 + 1) := by
     intro m
     induction m with
     | zero => simp
     | succ m ih =>
      rw [List.range_succ,List.map_append,List.map_append,List.sum_append,Nat.succ_mul]; have := hline m; simp only [List.map_cons,List.map_nil,List.sum_cons,List.sum_nil]; omega
    have := h8 kk; omega
   have hmul : kk * (nn * 18 + 1) <= 1024 * 18 + 1024 := by
    rw [Nat.mul_add,Nat.mul_one,← Nat.mul_assoc]; omega
   refine ⟨⟨_,rfl⟩,_,rfl,_,d,ls,rfl,rfl,.inl (ag.of hd'),(by rw [e0l]; omega),?_⟩; have ejoin := aaS e0 ls; refine k H' _ sm (by rw [ejoin,els]) ?_; rw [TL.cN,ejoin,List.length_flatten]
   have h9 : (ls.map TL.tl).map List.length = ls.map (·.length) := by
    rw [List.map_map]; apply List.map_congr_left; intro y _; exact (TL.cN y).symm
   rw [h9]; omega
end
end Go

namespace Go
open PySem PySem.Spec PyProof.Rows L2
section
variable {P : Program} {w : World} {K : Fg} {mg : Str -> Option Value} {base : Heap} {C al : Addr}
def qx (K : Fg) (C : Addr) : Sp := fun vs H Q _ => ∃ (l : Addr) (t : Ay.State) (i : Nat),vs = [.ref l,.int i] /\ aB C H l t /\ aQ C H l (Ay.step t (.text i)) Q
theorem sc_call_text : aq ["slots","i","refusal","sign"] ["slots","i"] (aj gJ) := fs
theorem wo (D : Df K mg "call_text" "call_text" gJ ["slots","i"]) (T : Txt K mg C) (aY : Ok P w K mg base 1 "source_refusal" ["slots","i"] (b7 C)) (pW : Ok P w K mg base 2 "text_of" ["array"] (tT K C)) : Ok P w K mg base 3 "call_text" ["slots","i"] (qx K C) := by
 refine D.ok sc_call_text (fun _ _ _ _ h => by obtain ⟨_,_,_,rfl,_⟩ := h; rfl) (fun f cdv A outer s H vs Q E hr h => ?_); obtain ⟨l,t,i,rfl,S,k⟩ := h
 refine ⟨_,(ad (aH 2 sc_call_text.nd (ap aY hr (ab (pv 0) (ab (pv 1) ac))))
  (ad (aw (aE bz (pv 2) ai) (ae (ah (az (ab (pv 2) ac)))) ao)
  (ae (ah (aV iE (az (ab ai ac)) (dt rfl sc_call_text.nd (acn (ap pW hr (ab (au (pv 0) (pv 1)) ac))) (a8 (N := ["slots","i","refusal","sign"]) (sc := aj gJ) (own := [("sign",3)]) (by decide +kernel)) (fun _ _ _ _ _ => (a0 3 sc_call_text.nd)) (fun _ _ _ _ _ => br) (fun _ _ _ _ _ => (bG dg (by rfl) T.b_ord fq (ab (pv 3) ac))))))))),?_⟩
 refine ⟨_,rfl,_,rfl,l,t,i,rfl,S,_,rfl,rfl,_,rfl,?_⟩
 by_cases h0 : ck t i = 0
 ·refine bq (congrArg V.int h0) ?_; obtain ⟨hi,A',ea,ef⟩ := eD h0; rw [Ay.step,ef] at k; obtain ⟨vs,x,g1,g2,hA,ho⟩ := aB.arr S hi ea; refine ⟨ba,fun p hp => ?_⟩; have t1 : ak H (upd H p (.lst [.int 0])) := ak.new hp; have hp1 : (upd H p (.lst [.int 0])) p = some (.lst [.int 0]) := am; generalize upd H p (.lst [.int 0]) = H1 at *; refine ⟨_,rfl,_,rfl,l,vs,_,_,rfl,rfl,ag.of (t1 _ _ g1),g2,x,A',rfl,hA.keep t1,ho,fun H2 z t2 hz hzl => ⟨z,rfl,fun D hD => ?_⟩⟩; have hsz : z.cps.size = (TL.tl z).length := by simp [TL.tl]
  have hzl2 : (TL.tl z).length <= 100000 := by rw [← TL.cN]; exact hzl
  refine cz (aca) (fun j => V.int (((TL.tl z).getD j 0 : Nat) : Int)) hD (by rw [hsz]; show _ <= 2 ^ 24; omega) ?_ bf ?_
  ·rintro j H3 v H4 hj sm ⟨rfl,c,hc,rfl⟩ Q' kq
   have hc2 : (TL.tl z)[j]? = some c := by
    unfold TL.tl; rw [Array.getElem?_toList]; exact hc
   have kq2 := kq _ (ak.refl _); rw [bp hc2] at kq2; exact ⟨rfl,_,rfl,_,rfl,rfl,kq2⟩
  ·intro H3 t3 hD3; have t12 := t1.trans t2; have t13 := t12.trans t3; rw [hsz] at hD3
   have e : (List.range (TL.tl z).length).map (fun j => V.int (((TL.tl z).getD j 0 : Nat) : Int)) = vn (TL.tl z) := by
    show _ = List.map V.int (List.map _ _); rw [List.map_map]; exact Ma.gc (fun n : Nat => V.int (n : Int)) 0 (TL.tl z)
   rw [e,hz] at hD3; rw [hz] at hzl2; refine ⟨p,D,_,_,rfl,rfl,(t2.trans t3) _ _ hp1,hD3,(by rw [aI]; show _ <= 2 ^ 24; simp only [List.length_cons,List.length_nil]; omega),fun q hq => ?_⟩; have t14 := t13.upd (o := .lst ([.int 0] ++ vn A'.text)) (t13.free hq); exact k _ q t14.keep (S.keep t14) (t13.free hq) (by rw [am]; rfl)
 ·obtain ⟨n,h2,ef⟩ := jQ h0; rw [Ay.step,ef] at k; refine bx (a5 h0) ?_; exact ⟨_,rfl,ba,aQ.no S (ak.refl H) k h2⟩
end
end Go

namespace Go
open PySem PySem.Spec PyProof.Rows L2
section
variable {P : Program} {w : World} {K : Fg} {mg : Str -> Option Value} {base : Heap} {C al : Addr}
def yo : Option Nat -> V
 | none => .non
 | some c => .int (c : Int)
def mL (K : Fg) (R : Addr) : Sp := fun vs H Q _ => ∃ (r a : Addr) (n : Nat) (bs : List Nat),vs = [.ref r] /\ aO R H r a n /\ ag K H a (vn bs) /\ Q (yo bs[n]?) H
theorem qO : aq ["self"] ["self"] (aj eu) := fs
theorem xZ (D : oz K al "upcoming" "Reader.upcoming" eu ["self"]) (T : Txt K mg C) (aA : iy K al) (bN : gv P w K mg base 1 al "is_done" ["self"] (kU K al)) : gv P w K mg base 2 al "upcoming" ["self"] (mL K al) := by
 refine D.ok qO (fun _ _ _ _ h => by obtain ⟨_,_,_,_,rfl,_⟩ := h; rfl) (fun f cdv A outer s H vs Q E hr h => ?_); obtain ⟨r,a,n,bs,rfl,hR,ha,k⟩ := h
 refine ⟨_,(ad (aw (bg (fK aA.cl bN hr.m (pv 0))) (ae (ah cP)) ao)
  (ae (ah (au (aD (pv 0) rfl) (aD (pv 0) rfl))))),?_⟩
 obtain ⟨dx,hr0⟩ := id hR; refine ⟨_,rfl,r,dx,_,rfl,hr0,cV _ _ (by decide +kernel) (by decide +kernel),r,a,n,Ma.nz bs,rfl,hR,ha,_,rfl,?_⟩; rw [aab]
 by_cases h : bs.length <= n
 ·refine dA h ?_; rw [List.getElem?_eq_none h] at k; exact k
 ·refine dw h ?_; have hn : bs[n]? = some (bs[n]'(by omega)) := List.getElem?_eq_getElem _; rw [hn] at k; refine ⟨_,rfl,r,al,dx,_,_,rfl,hr0,aA.cl,aA.nN,tO a n,_,rfl,r,al,dx,_,_,rfl,hr0,aA.cl,aA.nR,lX a n,a,_,_,_,rfl,rfl,ha,bC (dn hn),k⟩
def jS (K : Fg) (R : Addr) : Sp := fun vs H Q _ => ∃ (r a : Addr) (n c : Nat) (bs : List Nat),vs = [.ref r,.int (c : Int)] /\ aO R H r a n /\ ag K H a (vn bs) /\ (bs[n]? = some c -> ∀ H',aM r H H' -> aO R H' r a (n + 1) -> Q (.bl true) H') /\ (bs[n]? ≠ some c -> Q (.bl false) H)
theorem sS : aq ["self","number"] ["self","number"] (aj fC) := fs
theorem aat (D : oz K al "passes" "Reader.passes" fC ["self","number"]) (T : Txt K mg C) (aA : iy K al) (cF : gv P w K mg base 2 al "upcoming" ["self"] (mL K al)) : gv P w K mg base 3 al "passes" ["self","number"] (jS K al) := by
 refine D.ok sS (fun _ _ _ _ h => by obtain ⟨_,_,_,_,_,rfl,_⟩ := h; rfl) (fun f cdv A outer s H vs Q E hr h => ?_); obtain ⟨r,a,n,c,bs,rfl,hR,ha,ky,kn⟩ := h
 refine ⟨_,(ad (aw (aE bz (fK aA.cl cF hr.m (pv 0)) (pv 1)) (ae (ah dB)) ao)
  (ad (lm (pv 0) (aV cM (aD (pv 0) rfl) ai) rfl)
  (ae (ah dB)))),?_⟩
 obtain ⟨dx,hr0⟩ := id hR; refine ⟨_,rfl,r,dx,_,rfl,hr0,cV _ _ (by decide +kernel) (by decide +kernel),r,a,n,bs,rfl,hR,ha,_,rfl,?_,_,rfl,?_⟩
 ·cases bs[n]? <;> rfl
 ·by_cases h : bs[n]? = some c
  ·refine bq (by rw [h]; rfl) ?_; refine ⟨_,rfl,r,al,dx,_,_,rfl,hr0,aA.cl,aA.nR,lX a n,_,_,rfl,rfl,_,rfl,r,al,dx,_,rfl,hr0,aA.cl,aA.nR,(by show 2 < 1000; decide),?_⟩; refine ky h _ aM.upd ⟨dx,?_⟩; rw [am]; have := xa a n (n + 1); rw [Int.natCast_add] at this; exact congrArg (fun z => some (HO.ins al dx z)) this
  ·refine bx (fun e => h ?_) ?_
   ·cases hc : bs[n]? with
    | none => rw [hc] at e; cases e
    | some d =>
     rw [hc] at e; have := V.int.inj e; congr 1; omega
   ·exact kn h
theorem abG : (((Str.ofString "0").cps.getD 0 0 : Nat) : Int) = 48 := by decide +kernel
theorem adt : (((Str.ofString "9").cps.getD 0 0 : Nat) : Int) = 57 := by decide +kernel
def px (K : Fg) (R : Addr) : Sp := fun vs H Q _ => ∃ (r a : Addr) (n : Nat) (bs : List Nat),vs = [.ref r] /\ aO R H r a n /\ ag K H a (vn bs) /\ Q (yo (bs[n]?.bind Ad.digitOf)) H
theorem sc_next_digit : aq ["reader","byte"] ["reader"] (aj iR) := fs
theorem v7 (D : Df K mg "next_digit" "next_digit" iR ["reader"]) (T : Txt K mg C) (aA : iy K al) (cF : gv P w K mg base 2 al "upcoming" ["self"] (mL K al)) : Ok P w K mg base 3 "next_digit" ["reader"] (px K al) := by
 refine D.ok sc_next_digit (fun _ _ _ _ h => by obtain ⟨_,_,_,_,rfl,_⟩ := h; rfl) (fun f cdv A outer s H vs Q E hr h => ?_); obtain ⟨r,a,n,bs,rfl,hR,ha,k⟩ := h
 refine ⟨_,(ad (aH 1 sc_next_digit.nd (fK aA.cl cF hr.m (pv 0)))
  (ad (aw (PW.pt (dv (dS (eF (pv 1))) (dv (aE iG (pv 1) (bG dg (by rfl) T.b_ord fq (ab cX ac))) (dm (aE k7 (pv 1) (bG dg (by rfl) T.b_ord fq (ab cX ac))))))) (ae (ah cP)) ao)
  (ae (ah (aV jY (pv 1) (bG dg (by rfl) T.b_ord fq (ab cX ac))))))),?_⟩
 obtain ⟨dx,hr0⟩ := id hR; refine ⟨_,rfl,r,dx,_,rfl,hr0,cV _ _ (by decide +kernel) (by decide +kernel),r,a,n,bs,rfl,hR,ha,?_⟩
 cases hc : bs[n]? with
 | none =>
  rw [hc] at k; exact ⟨_,rfl,_,rfl,k⟩
 | some c =>
  rw [hc] at k; have k : Q (yo (Ad.digitOf c)) H := k; refine ⟨_,rfl,_,rfl,_,rfl,_,rfl,rfl,_,_,rfl,rfl,_,rfl,?_⟩; rw [abG]
  by_cases h1 : (c : Int) < 48
  ·refine dA h1 ?_; have e : Ad.digitOf c = none := if_neg (by omega); rw [e] at k; exact k
  ·refine dw h1 ?_; refine ⟨_,rfl,_,rfl,rfl,_,_,rfl,rfl,_,rfl,?_⟩; rw [adt]
   by_cases h2 : (57 : Int) < (c : Int)
   ·refine dA h2 ?_; have e : Ad.digitOf c = none := if_neg (by omega); rw [e] at k; exact k
   ·refine dw h2 ?_; have e : Ad.digitOf c = some (c - 48) := if_pos (by omega); rw [e] at k; refine ⟨_,rfl,_,rfl,rfl,_,_,rfl,rfl,?_⟩; rw [abG]
    have e2 : yo (some (c - 48)) = V.int ((c : Int) - 48) := by
     show V.int ((c - 48 : Nat) : Int) = _; congr 1; omega
    rw [e2] at k; exact k
end
end Go

namespace Go
open PySem PySem.Spec PyProof.Rows L2
section
variable {P : Program} {w : World} {K : Fg} {mg : Str -> Option Value} {base : Heap} {C al : Addr}
theorem zg {bs : List Nat} {most x q : Nat} (h : bs[q]?.bind Ad.digitOf = none) : Ad.digits most x (bs.drop q) q = (x,bs.drop q,q) := by
 cases hc : bs[q]? with
 | none => rw [Ma.fY hc]; rfl
 | some c =>
  rw [hc] at h; have h : Ad.digitOf c = none := h; rw [Ma.cZ hc]; simp only [Ad.digits,h]
theorem aaL {bs : List Nat} {most x q d : Nat} (h : bs[q]?.bind Ad.digitOf = some d) : Ad.digits most x (bs.drop q) q = if 10 * x + d <= most then Ad.digits most (10 * x + d) (bs.drop (q + 1)) (q + 1) else (x,bs.drop q,q) := by
 cases hc : bs[q]? with
 | none => rw [hc] at h; cases h
 | some c =>
  rw [hc] at h; have h : Ad.digitOf c = some d := h; rw [Ma.cZ hc]; simp only [Ad.digits,h]
theorem aaZ {bs : List Nat} {least most n : Nat} (h : bs[n]?.bind Ad.digitOf = none) : ∃ e,Ma.cv least most (bs.drop n) n = .error e := by
 cases hc : bs[n]? with
 | none => rw [Ma.fY hc]; exact ⟨n,rfl⟩
 | some c =>
  rw [hc] at h; have h : Ad.digitOf c = none := h; rw [Ma.cZ hc]; exact ⟨n,by simp only [Ma.cv,h]⟩
theorem abm {bs : List Nat} {least most n d : Nat} (h : bs[n]?.bind Ad.digitOf = some d) : Ma.cv least most (bs.drop n) n = if least <= d /\ d <= most then .ok (if d = 0 then (0,bs.drop (n + 1),n + 1) else Ad.digits most d (bs.drop (n + 1)) (n + 1)) else .error n := by
 cases hc : bs[n]? with
 | none => rw [hc] at h; cases h
 | some c =>
  rw [hc] at h; have h : Ad.digitOf c = some d := h; rw [Ma.cZ hc]; simp only [Ma.cv,h]
theorem aaf {bs : List Nat} {n d : Nat} (h : bs[n]?.bind Ad.digitOf = some d) : n < bs.length /\ d <= 9 /\ ∃ c,bs[n]? = some c := by
 cases hc : bs[n]? with
 | none => rw [hc] at h; cases h
 | some c =>
  rw [hc] at h; have h : Ad.digitOf c = some d := h; have := Ma.tK h; exact ⟨(List.getElem?_eq_some_iff.mp hc).1,by omega,c,rfl⟩
def jq (K : Fg) (R : Addr) : Sp := fun vs H Q _ => ∃ (r a : Addr) (n least most : Nat) (bs : List Nat),vs = [.ref r,.int least,.int most] /\ aO R H r a n /\ ag K H a (vn bs) /\ most <= 1000000000000000 ∧
 (∀ e,Ma.cv least most (bs.drop n) n = .error e -> Q .non H) /\ ∀ x rest q,Ma.cv least most (bs.drop n) n = .ok (x,rest,q) -> ∀ H',aM r H H' -> aO R H' r a q -> Q (.int x) H'
theorem sc_read_number : aq ["reader","least","most","number","digit"] ["reader","least","most"] (aj gZ) := fs
theorem uB (D : Df K mg "read_number" "read_number" gZ ["reader","least","most"]) (T : Txt K mg C) (aA : iy K al) (fI : Ok P w K mg base 3 "next_digit" ["reader"] (px K al)) (a7 : gv P w K mg base 1 al "read_whole" ["self"] (fm K al)) : Ok P w K mg base 4 "read_number" ["reader","least","most"] (jq K al) := by
 refine D.ok sc_read_number (fun _ _ _ _ h => by obtain ⟨_,_,_,_,_,_,rfl,_⟩ := h; rfl) (fun f cdv A outer s H vs Q E hr h => ?_); obtain ⟨r,a,n,least,most,bs,rfl,hR,ha,hm,kn,ky⟩ := h
 refine ⟨_,(ad (aH 3 sc_read_number.nd (ap fI hr (ab (pv 0) ac)))
  (ad (aw (PW.pt (dv (dS (eF (pv 3))) (dv (aE iG (pv 3) (pv 1)) (dm (aE k7 (pv 3) (pv 2)))))) (ae (ah cP)) ao)
  (ad (cE (fK aA.cl a7 hr.m (pv 0)))
  (ad (aH 4 sc_read_number.nd (ap fI hr (ab (pv 0) ac)))
  (ad (sX PassesOwn.never (PW.pt (oh (aE k7 (pv 3) ai) (oh (dS (abS (pv 4))) (rl (aE iW (aV cM (aV dj (pv 3) ai) (pv 4)) (pv 2)))))) (ad (aH 3 sc_read_number.nd (aV cM (aV dj (pv 3) ai) (pv 4)))
  (ad (cE (fK aA.cl a7 hr.m (pv 0)))
  (ae (aH 4 sc_read_number.nd (ap fI hr (ab (pv 0) ac)))))))
  (ae (ah (pv 3)))))))),?_⟩
 obtain ⟨dx,hr0⟩ := id hR; refine ⟨_,rfl,r,a,n,bs,rfl,hR,ha,?_⟩
 cases hd : bs[n]?.bind Ad.digitOf with
 | none =>
  obtain ⟨e,he⟩ := aaZ (least := least) (most := most) hd; exact ⟨_,rfl,_,rfl,kn e he⟩
 | some d =>
  have hnum := abm (least := least) (most := most) hd; obtain ⟨hlt,hd9,c,hc⟩ := aaf hd; refine ⟨_,rfl,_,rfl,_,rfl,_,rfl,_,_,rfl,rfl,_,rfl,?_⟩
  by_cases h1 : (d : Int) < (least : Int)
  ·refine dA h1 ?_; rw [if_neg (by omega)] at hnum; exact kn _ hnum
  refine dw h1 ?_; refine ⟨_,rfl,_,rfl,_,_,rfl,rfl,_,rfl,?_⟩
  by_cases h2 : (most : Int) < (d : Int)
  ·refine dA h2 ?_; rw [if_neg (by omega)] at hnum; exact kn _ hnum
  refine dw h2 ?_; rw [if_pos (by omega)] at hnum; have hz : (Ma.nz bs)[n]? = some (c : Int) := by rw [List.getElem?_map,hc]; rfl
  refine ⟨_,rfl,r,dx,_,rfl,hr0,cV _ _ (by decide +kernel) (by decide +kernel),r,a,n,Ma.nz bs,(c : Int),rfl,hR,ha,hz,fun H1 k1 hR1 f1 => ?_⟩; have ha1 := aO.seq k1 hR ha; refine ⟨_,rfl,r,a,n + 1,bs,rfl,hR1,ha1,?_⟩; have kF := fun (H' : Hp) (F : Nat × List Nat × Nat) (hF : Ma.cv least most (bs.drop n) n = .ok F) => ky F.1 F.2.1 F.2.2 hF H'
  generalize hF : (if d = 0 then (0,bs.drop (n + 1),n + 1) else Ad.digits most d (bs.drop (n + 1)) (n + 1)) = F at hnum; have kF := fun (H' : Hp) => kF H' F hnum
  clear ky kn hnum
  refine ⟨fun m σ H' => ∃ (x q : Nat),m = bs.length - q /\ σ = [some (.ref r),some (.int least),some (.int most),some (.int (x : Int)),some (yo (bs[q]?.bind Ad.digitOf))] /\ aO al H' r a q /\ aM r H H' /\ x <= most /\ (if x = 0 then (0,bs.drop q,q) else Ad.digits most x (bs.drop q) q) = F,
   ⟨_,d,n + 1,rfl,rfl,hR1,k1,by omega,hF⟩,?_⟩
  rintro m σ H' ⟨x,q,rfl,rfl,hR',kp,hxm,hFF⟩; have ha' := aO.seq kp hR ha; refine ⟨_,rfl,_,_,rfl,rfl,_,rfl,?_⟩
  by_cases hx0 : x = 0
  ·refine dw (by omega) ?_; rw [if_pos hx0] at hFF; subst hx0; refine ⟨_,rfl,?_⟩; have := kF H' kp (by rw [← hFF]; exact hR'); rw [← hFF] at this; exact this
  refine dA (by omega) ?_; rw [if_neg hx0] at hFF
  have stop : (x,bs.drop q,q) = F -> Q (.int (x : Int)) H' := fun e => by
   have := kF H' kp (by rw [← e]; exact hR'); rw [← e] at this; exact this
  cases hdq : bs[q]?.bind Ad.digitOf with
  | none =>
   rw [zg hdq] at hFF; exact ⟨_,rfl,_,rfl,_,rfl,stop hFF⟩
  | some d2 =>
   rw [aaL hdq] at hFF; obtain ⟨hlt2,hd92,c2,hc2⟩ := aaf hdq; refine ⟨_,rfl,_,rfl,_,rfl,_,_,rfl,rfl,.inl ⟨by omega,by omega⟩,_,rfl,_,_,rfl,rfl,_,rfl,_,_,rfl,rfl,_,rfl,?_⟩
   by_cases hle : 10 * x + d2 <= most
   ·refine dA (by omega) ?_; rw [if_pos hle] at hFF; refine ⟨fun σ' H'' => ∃ m',m' < bs.length - q /\ ∃ (x q : Nat),m' = bs.length - q /\ σ' = [some (.ref r),some (.int least),some (.int most),some (.int (x : Int)),some (yo (bs[q]?.bind Ad.digitOf))] /\ aO al H'' r a q /\ aM r H H'' /\ x <= most /\ (if x = 0 then (0,bs.drop q,q) else Ad.digits most x (bs.drop q) q) = F,fun _ _ h => h,?_⟩; obtain ⟨dx',hr'⟩ := id hR'; have hz2 : (Ma.nz bs)[q]? = some (c2 : Int) := by rw [List.getElem?_map,hc2]; rfl
    refine ⟨_,rfl,_,_,rfl,rfl,.inl ⟨by omega,by omega⟩,_,rfl,_,_,rfl,rfl,?_⟩; refine ⟨_,rfl,r,dx',_,rfl,hr',cV _ _ (by decide +kernel) (by decide +kernel),r,a,q,Ma.nz bs,(c2 : Int),rfl,hR',ha',hz2,fun H2 k2 hR2 f2 => ?_⟩; have ha2 := aO.seq k2 hR' ha'; refine ⟨_,rfl,r,a,q + 1,bs,rfl,hR2,ha2,?_⟩; refine ⟨bs.length - (q + 1),by omega,10 * x + d2,q + 1,rfl,?_,hR2,kp.trans k2,hle,?_⟩
    ·have e : ((10 * x + d2 : Nat) : Int) = (x : Int) * 10 + (d2 : Int) := by omega
     rw [e]; rfl
    ·rw [if_neg (by omega)]; exact hFF
   ·refine dw (by omega) ?_; rw [if_neg hle] at hFF; exact ⟨_,rfl,stop hFF⟩
end
end Go

namespace Go
open PySem PySem.Spec PyProof.Rows L2
section
variable {P : Program} {w : World} {K : Fg} {mg : Str -> Option Value} {base : Heap} {C al : Addr}
theorem acS : (((Str.ofString "-").cps.getD 0 0 : Nat) : Int) = ((45 : Nat) : Int) := by decide +kernel
theorem ac8 : (((Str.ofString "[").cps.getD 0 0 : Nat) : Int) = ((91 : Nat) : Int) := by decide +kernel
theorem zm : (((Str.ofString "]").cps.getD 0 0 : Nat) : Int) = ((93 : Nat) : Int) := by decide +kernel
theorem adr : (((Str.ofString ",").cps.getD 0 0 : Nat) : Int) = ((44 : Nat) : Int) := by decide +kernel
theorem abD : (((Str.ofString "\n").cps.getD 0 0 : Nat) : Int) = ((10 : Nat) : Int) := by decide +kernel
theorem ady : (((Str.ofString " ").cps.getD 0 0 : Nat) : Int) = ((32 : Nat) : Int) := by decide +kernel
def qS (K : Fg) (R : Addr) : Sp := fun vs H Q _ => ∃ (r a : Addr) (n : Nat) (bs : List Nat),vs = [.ref r] /\ aO R H r a n /\ ag K H a (vn bs) ∧
 (∀ e,Ad.cellIn (bs.drop n) n = .error e -> ∀ H',aM r H H' -> aO R H' r a e -> Q .non H') /\ ∀ z q,Ad.cellIn (bs.drop n) n = .ok (z,bs.drop q,q) -> Ad.cellFine z = true -> ∀ H',aM r H H' -> aO R H' r a q -> Q (.int z) H'
theorem sc_read_cell : aq ["reader","number"] ["reader"] (aj jJ) := fs
theorem xf (D : Df K mg "read_cell" "read_cell" jJ ["reader"]) (T : Txt K mg C) (aA : iy K al) (bi : gv P w K mg base 3 al "passes" ["self","number"] (jS K al)) (df : Ok P w K mg base 4 "read_number" ["reader","least","most"] (jq K al)) : Ok P w K mg base 5 "read_cell" ["reader"] (qS K al) := by
 refine D.ok sc_read_cell (fun _ _ _ _ h => by obtain ⟨_,_,_,_,rfl,_⟩ := h; rfl) (fun f cdv A outer s H vs Q E hr h => ?_); obtain ⟨r,a,n,bs,rfl,hR,ha,kn,ky⟩ := h
 refine ⟨_,(ad (aw (bw (bg (sF aA.cl bi hr.m (pv 0) (ab (bG dg (by rfl) T.b_ord fq (ab cX ac)) ac)))) (ae (ah (ap df hr (ab (pv 0) (ab ai (ab (aP T.g_GREATEST_CELL) ac)))))) ao)
  (ad (aH 1 sc_read_cell.nd (ap df hr (ab (pv 0) (ab ai (ab (aP T.g_GREATEST_CELL) ac)))))
  (ae (ah (fV (dS (eF (pv 1))) cP (rk nZ (pv 1))))))),?_⟩
 obtain ⟨dx,hr0⟩ := id hR; refine ⟨_,rfl,r,dx,_,rfl,hr0,cV _ _ (by decide +kernel) (by decide +kernel),_,rfl,rfl,r,a,n,45,bs,congrArg (fun z : Int => [V.ref r,V.int z]) acS,hR,ha,fun h45 H1 k1 hR1 => ⟨_,rfl,?_⟩,fun h45 => ⟨_,rfl,?_⟩⟩
 ·have ha1 := aO.seq k1 hR ha; rw [Ma.aa9 h45] at kn ky; refine ⟨_,rfl,r,a,n + 1,1,1000000000000000,bs,rfl,hR1,ha1,Nat.le_refl _,fun e he => ?_,fun x rest q hx H2 k2 hR2 => ?_⟩
  ·have hee := Ma.qU he; rw [he] at kn; refine ⟨_,rfl,_,rfl,kn e rfl H1 k1 ?_⟩; rw [hee]; exact hR1
  ·obtain ⟨e1,e2,e3,e4,e5⟩ := Ma.oR hx; rw [hx] at ky; subst e1; exact ⟨_,rfl,_,rfl,_,rfl,_,rfl,ky (-(x : Int)) q rfl (Ma.iq.mpr ⟨by omega,by omega⟩) H2 (k1.trans k2) hR2⟩
 ·rw [Ma.abv h45] at kn ky; refine ⟨_,rfl,r,a,n,0,1000000000000000,bs,rfl,hR,ha,Nat.le_refl _,fun e he => ?_,fun x rest q hx H2 k2 hR2 => ?_⟩
  ·have hee := Ma.qU he; rw [he] at kn; refine kn e rfl H (ak.refl H).keep ?_; rw [hee]; exact hR
  ·obtain ⟨e1,e2,e3,e4,e5⟩ := Ma.oR hx; rw [hx] at ky; subst e1; exact ky (x : Int) q rfl (Ma.iq.mpr ⟨by omega,by omega⟩) H2 k2 hR2
def ge (bs : List Nat) (n : Nat) : Ad.Rd Ad.Shape := match bs[n]? with
 | some 91 => (match bs[n + 1]? with
  | some 93 => .ok ([],bs.drop (n + 2),n + 2)
  | _ => Ma.du [] (bs.drop (n + 1)) (n + 1))
 | _ => .error n
theorem sU {bs : List Nat} {n : Nat} (h91 : bs[n]? = some 91) (h93 : bs[n + 1]? ≠ some 93) : ge bs n = Ma.du [] (bs.drop (n + 1)) (n + 1) := by
 unfold ge; rw [h91]
 show (match bs[n + 1]? with
  | some 93 => Except.ok ([],bs.drop (n + 2),n + 2)
  | _ => Ma.du [] (bs.drop (n + 1)) (n + 1) : Ad.Rd Ad.Shape) = _
 split
 ·rename_i h; exact absurd h h93
 ·rfl
def mm (K : Fg) (R : Addr) : Sp := fun vs H Q _ => ∃ (r a : Addr) (n : Nat) (bs : List Nat),vs = [.ref r] /\ aO R H r a n /\ ag K H a (vn bs) ∧
 (∀ e,ge bs n = .error e -> ∀ H',aM r H H' -> aO R H' r a e -> Q .non H') /\ ∀ s q,ge bs n = .ok (s,bs.drop q,q) -> Ad.shapeOk s = true -> ∀ H' l,aM r H H' -> aO R H' r a q -> H l = none -> H' l = some (.lst (vn s)) -> Q (.ref l) H'
theorem u5 {R : Addr} {H : Hp} {r a l : Addr} {n : Nat} (hR : aO R H r a n) (hl : H l = none) : r ≠ l := by
 obtain ⟨dx,h⟩ := hR; exact aJ h hl
theorem sc_read_lengths : aq ["reader","lengths","length"] ["reader"] (aj gb) := fs
theorem up (D : Df K mg "read_lengths" "read_lengths" gb ["reader"]) (T : Txt K mg C) (aA : iy K al) (bi : gv P w K mg base 3 al "passes" ["self","number"] (jS K al)) (df : Ok P w K mg base 4 "read_number" ["reader","least","most"] (jq K al)) (a9 : Ok P w K mg base 1 "cell_count" ["lengths"] (cI K)) : Ok P w K mg base 5 "read_lengths" ["reader"] (mm K al) := by
 refine D.ok sc_read_lengths (fun _ _ _ _ h => by obtain ⟨_,_,_,_,rfl,_⟩ := h; rfl) (fun f cdv A outer s H vs Q E hr h => ?_); obtain ⟨r,a,n,bs,rfl,hR,ha,kn,ky⟩ := h
 refine ⟨_,(ad (aw (bw (bg (sF aA.cl bi hr.m (pv 0) (ab (bG dg (by rfl) T.b_ord fq (ab cX ac)) ac)))) (ae (ah cP)) ao)
  (ad (aw (bg (sF aA.cl bi hr.m (pv 0) (ab (bG dg (by rfl) T.b_ord fq (ab cX ac)) ac))) (ae (ah (az ac))) ao)
  (ad (aH 1 sc_read_lengths.nd (az ac))
  (ad (sX PassesOwn.never (PW.pt (dv (aE bB (bA T.b_len (pv 1)) ai) (dm (PW.pt (oh (aE iG (bA T.b_len (pv 1)) (aP T.g_MOST_LENGTHS)) (rl (bg (sF aA.cl bi hr.m (pv 0) (ab (bG dg (by rfl) T.b_ord fq (ab cX ac)) ac))))))))) (ad (aH 2 sc_read_lengths.nd (ap df hr (ab (pv 0) (ab ai (ab (aV x9 (aP T.g_MOST_CELLS) (ap a9 hr (ab (pv 1) ac))) ac)))))
  (ad (aw (dS (eF (pv 2))) (ae (ah cP)) ao)
  (ae (cE (gn PySem.F.plainAttrs_list PySem.F.slot_list_append PySem.F.type_list_append c7 (pv 1) (ab (pv 2) ac)))))))
  (ad (aw (bw (bg (sF aA.cl bi hr.m (pv 0) (ab (bG dg (by rfl) T.b_ord fq (ab cX ac)) ac)))) (ae (ah cP)) ao)
  (ae (ah (pv 1)))))))),?_⟩
 obtain ⟨dx,hr0⟩ := id hR; refine ⟨_,rfl,r,dx,_,rfl,hr0,cV _ _ (by decide +kernel) (by decide +kernel),_,rfl,rfl,r,a,n,91,bs,congrArg (fun z : Int => [V.ref r,V.int z]) ac8,hR,ha,fun h91 H1 k1 hR1 => ⟨_,rfl,?_⟩,fun h91 => ⟨_,rfl,?_⟩⟩
 rotate_left
 ·have e : ge bs n = .error n := by
   unfold ge
   split
   ·rename_i h; exact absurd h h91
   ·rfl
  exact kn n e H (ak.refl H).keep hR
 have ha1 := aO.seq k1 hR ha; obtain ⟨dx1,hr1⟩ := id hR1; refine ⟨_,rfl,r,dx1,_,rfl,hr1,cV _ _ (by decide +kernel) (by decide +kernel),_,rfl,rfl,r,a,n + 1,93,bs,congrArg (fun z : Int => [V.ref r,V.int z]) zm,hR1,ha1,fun h93 H2 k2 hR2 => ⟨_,rfl,?_⟩,fun h93 => ⟨_,rfl,?_⟩⟩
 ·have e : ge bs n = .ok ([],bs.drop (n + 2),n + 2) := by
   unfold ge; rw [h91]; simp only; rw [h93]; rfl
  refine ⟨Nat.zero_le _,fun l hl => ?_⟩; have hrl := u5 hR2 hl; have k12 := k1.trans k2; have hl0 : H l = none := aM.free k12 hl (by obtain ⟨d2,h2⟩ := hR2; exact ⟨_,h2⟩); refine ky [] (n + 2) e rfl _ l (k12.trans (ak.new hl).keep) (hR2.keepNew hrl) hl0 ?_; rw [am]; rfl
 ·have e : ge bs n = Ma.du [] (bs.drop (n + 1)) (n + 1) := sU h91 h93; rw [e] at kn ky; refine ⟨Nat.zero_le _,fun l hl => ?_⟩; have hrl := u5 hR1 hl; have hl0 : H l = none := aM.free k1 hl ⟨_,hr1⟩; have k2 : aM r H (upd H1 l (.lst [])) := k1.trans (ak.new hl).keep; have hl2 : (upd H1 l (.lst [])) l = some (.lst (vn [])) := am; have hR2 : aO al (upd H1 l (.lst [])) r a (n + 1) := hR1.keepNew hrl; generalize upd H1 l (.lst []) = H2 at *; generalize Ma.du [] (bs.drop (n + 1)) (n + 1) = F at kn ky e
  have hF0 : Ma.du [] (bs.drop (n + 1)) (n + 1) = F := by
   have e2 : ge bs n = Ma.du [] (bs.drop (n + 1)) (n + 1) := sU h91 h93; rw [← e2,e]
  have body : ∀ (sh : List Nat) (q : Nat) (v : Option V) (H3 : Hp) (N : L2.St -> Hp -> Prop),sh.length < 4 -> H3 l = some (.lst (vn sh)) -> aO al H3 r a q -> aM r H H3 -> (∀ z ∈ sh,1 <= z) -> Ad.product_ sh <= 1024 -> Ma.du sh (bs.drop q) q = F →
    (∀ (H4 : Hp) (x q' : Nat),H4 l = some (.lst (vn (sh ++ [x]))) -> aO al H4 r a q' -> aM r H H4 -> 1 <= x -> x <= 1024 / Ad.product_ sh -> Ma.kW bs (sh ++ [x]) q' = F -> N [some (.ref r),some (.ref l),some (.int (x : Int))] H4) →
    ∃ m1 : Nat,m1 <= 1000000000000000 /\ ((1024 : Int) / ((Ad.product_ sh : Nat) : Int) = (m1 : Int)) /\ (∀ e,Ma.cv 1 m1 (bs.drop q) q = .error e -> Q .non H3) /\ ∀ x rest q',Ma.cv 1 m1 (bs.drop q) q = .ok (x,rest,q') -> ∀ H4,aM r H3 H4 -> aO al H4 r a q' -> H4 l = some (.lst (vn sh)) /\ N [some (.ref r),some (.ref l),some (.int (x : Int))] (upd H4 l (.lst (vn sh ++ [.int (x : Int)]))) := by
   intro sh q v H3 N hlen hl3 hR3 k3 hpos hprod hL hN; have hp1 := Ma.l9 hpos; refine ⟨1024 / Ad.product_ sh,Nat.le_trans (Nat.div_le_self _ _) (by decide),rfl,fun e he => ?_,fun x rest q' hx H4 k4 hR4 => ?_⟩
   ·have hee := Ma.qU he; rw [Ma.aa6 hlen he] at hL; exact kn e hL.symm H3 k3 (by rw [hee]; exact hR3)
   ·obtain ⟨e1,e2,e3,e4,e5⟩ := Ma.oR hx; rw [Ma.abT hlen hx] at hL
    have hrl3 : l ≠ r := fun z => by
     obtain ⟨d3,h3⟩ := hR3; rw [z,h3] at hl3; cases hl3
    have hl4 := k4 _ _ hl3 hrl3; refine ⟨hl4,hN _ x q' ?_ (hR4.keepNew hrl3.symm) ?_ e4 e5 hL⟩
    ·rw [am,p9]; rfl
    ·intro b o eb hb
     by_cases hbl : b = l
     ·rw [hbl,hl0] at eb; cases eb
     ·rw [aK hbl]; exact k4 b o (k3 b o eb hb) hb
  refine ⟨fun m σ H' => ∃ (sh : List Nat) (q : Nat) (v : Option V),m = 4 - sh.length /\ σ = [some (.ref r),some (.ref l),v] /\ H' l = some (.lst (vn sh)) /\ aO al H' r a q /\ aM r H H' /\ (∀ z ∈ sh,1 <= z) /\ Ad.product_ sh <= 1024 /\ sh.length <= 4 /\ (if sh = [] then Ma.du [] (bs.drop q) q else Ma.kW bs sh q) = F,
   ⟨4,[],n + 1,none,rfl,rfl,hl2,hR2,k2,(fun z hz => by simp at hz),(by decide),(by decide),hF0⟩,?_⟩
  rintro m σ H' ⟨sh,q,v,rfl,rfl,hl',hR',kp,hpos,hprod,hlen,hG⟩; have hp1 := Ma.l9 hpos; have ha' := aO.seq kp hR ha; have hsm : ∀ z ∈ sh,z < 2 ^ 63 := fun z hz => Nat.lt_of_le_of_lt (Nat.le_trans (Ma.b_ hpos z hz) hprod) (by decide)
  obtain ⟨dx',hr'⟩ := id hR'
  let NN : L2.St -> Hp -> Prop := fun σ' H'' => ∃ m',m' < 4 - sh.length /\ ∃ (sh : List Nat) (q : Nat) (v : Option V),m' = 4 - sh.length /\ σ' = [some (.ref r),some (.ref l),v] /\ H'' l = some (.lst (vn sh)) /\ aO al H'' r a q /\ aM r H H'' /\ (∀ z ∈ sh,1 <= z) /\ Ad.product_ sh <= 1024 /\ sh.length <= 4 /\ (if sh = [] then Ma.du [] (bs.drop q) q else Ma.kW bs sh q) = F
  have hNN : ∀ (H4 : Hp) (x q' : Nat),sh.length < 4 -> H4 l = some (.lst (vn (sh ++ [x]))) -> aO al H4 r a q' -> aM r H H4 -> 1 <= x -> x <= 1024 / Ad.product_ sh -> Ma.kW bs (sh ++ [x]) q' = F -> NN [some (.ref r),some (.ref l),some (.int (x : Int))] H4 := fun H4 x q' hlen4 w1 w2 w3 w4 w5 w6 => by
   refine ⟨4 - (sh ++ [x]).length,by rw [List.length_append]; simp only [List.length_cons,List.length_nil]; omega,sh ++ [x],q',_,rfl,rfl,w1,w2,w3,fun z hz => ?_,?_,by rw [List.length_append]; simp only [List.length_cons,List.length_nil]; omega,?_⟩
   ·rcases List.mem_append.mp hz with z1 | z1
    ·exact hpos z z1
    ·rw [List.mem_singleton.mp z1]; exact w4
   ·rw [Ma.dD]; show _ * (x * 1) <= 1024; rw [Nat.mul_one]; exact Nat.le_trans (Nat.mul_le_mul_left _ w5) (Nat.mul_div_le 1024 _)
   ·rw [if_neg (by simp)]; exact w6
  refine ⟨_,rfl,l,_,rfl,.inl (ag.of hl'),rfl,_,rfl,?_⟩; rw [aI]
  by_cases hs0 : sh = []
  ·refine dA (by rw [hs0]; rfl) ?_; have hlen4 : sh.length < 4 := by rw [hs0]; decide
   rw [if_pos hs0] at hG; obtain ⟨m1,hm1,em1,b1,b2⟩ := body sh q v H' NN hlen4 hl' hR' kp hpos hprod (by rw [hs0]; exact hG) (fun H4 x q' => hNN H4 x q' hlen4); refine ⟨NN,fun _ _ h => h,?_⟩; refine ⟨_,rfl,_,rfl,l,sh,rfl,ag.of hl',hsm,_,_,rfl,rfl,⟨(by show (0 : Int) < ((Ad.product_ sh : Nat) : Int); omega),(by show ((Ad.product_ sh : Nat) : Int) < 1073741824; omega)⟩,r,a,q,1,m1,bs,congrArg (fun z : Int => [V.ref r,V.int 1,V.int z]) em1,hR',ha',hm1,fun e he => ?_,fun x rest q' hx H4 k4 hR4 => ?_⟩
   ·exact ⟨_,rfl,_,rfl,b1 e he⟩
   ·obtain ⟨c1,c2⟩ := b2 x rest q' hx H4 k4 hR4; exact ⟨_,rfl,_,rfl,_,rfl,.inl ⟨rfl,_,ag.of c1⟩,_,rfl,l,_,_,rfl,rfl,c1,(by rw [aI]; show _ < 2 ^ 24; omega),c2⟩
  ·have hpos1 : 0 < sh.length := List.length_pos_iff.mpr hs0; refine dw (a5 (by omega)) ?_; rw [if_neg hs0] at hG
   have fin : ∀ (H3 : Hp),H3 l = some (.lst (vn sh)) -> aO al H3 r a q -> aM r H H3 -> (bs[q]? = some 44 -> 4 <= sh.length) -> ∃ dx3,H3 r = some (.ins al dx3 (rf a q)) /\ ag K H3 a (vn bs) /\ (bs[q]? = some 93 -> ∀ H4,aM r H3 H4 -> aO al H4 r a (q + 1) -> Q (.ref l) H4) /\ (bs[q]? ≠ some 93 -> Q .non H3) := by
    intro H3 hl3 hR3 k3 h44; obtain ⟨dx3,hr3⟩ := id hR3; refine ⟨dx3,hr3,aO.seq k3 hR ha,fun h93 H4 k4 hR4 => ?_,fun h93 => ?_⟩
    ·have hG2 : F = .ok (sh,bs.drop (q + 1),q + 1) := by
      rw [← hG]; unfold Ma.kW; rw [h93]; exact if_pos rfl
     have hlr : l ≠ r := fun z => by rw [z,hr3] at hl3; cases hl3
     exact ky sh (q + 1) hG2 (Ma.shape_iff.mpr ⟨hlen,hpos,hprod⟩) H4 l (k3.trans k4) hR4 hl0 (k4 _ _ hl3 hlr)
    ·have hG2 : F = .error q := by
      rw [← hG]; unfold Ma.kW
      cases hc : bs[q]? with
      | none => rfl
      | some c =>
       simp only
       rw [if_neg (fun z => h93 (by rw [hc,z])),if_neg (fun z => by
        have := h44 (by rw [hc,z.1])
        omega)]
     exact kn q hG2 H3 k3 hR3
   refine ⟨_,rfl,l,_,rfl,.inl (ag.of hl'),_,_,rfl,rfl,_,rfl,?_⟩; rw [aI]
   by_cases hlen4 : sh.length < 4
   ·refine dA (show (sh.length : Int) < 4 by omega) ?_; refine ⟨_,rfl,r,dx',_,rfl,hr',cV _ _ (by decide +kernel) (by decide +kernel),_,rfl,rfl,r,a,q,44,bs,congrArg (fun z : Int => [V.ref r,V.int z]) adr,hR',ha',fun h44 H3 k3 hR3 => ⟨_,rfl,?_⟩,fun h44 => ⟨_,rfl,?_⟩⟩
    ·have hG2 : Ma.du sh (bs.drop (q + 1)) (q + 1) = F := by
      rw [← hG]; unfold Ma.kW; rw [h44]; show _ = (if (44 : Nat) = 93 then (.ok (sh,bs.drop (q + 1),q + 1) : Ad.Rd Ad.Shape) else if (44 : Nat) = 44 /\ sh.length < 4 then Ma.du sh (bs.drop (q + 1)) (q + 1) else .error q); rw [if_neg (by decide),if_pos ⟨rfl,hlen4⟩]
     have hlr : l ≠ r := fun z => by rw [z,hr'] at hl'; cases hl'
     have hl3 := k3 _ _ hl' hlr; have kp3 := kp.trans k3; have ha3 := aO.seq kp3 hR ha; obtain ⟨m1,hm1,em1,b1,b2⟩ := body sh (q + 1) v H3 NN hlen4 hl3 hR3 kp3 hpos hprod hG2 (fun H4 x q' => hNN H4 x q' hlen4); refine ⟨NN,fun _ _ h => h,?_⟩; refine ⟨_,rfl,_,rfl,l,sh,rfl,ag.of hl3,hsm,_,_,rfl,rfl,⟨(by show (0 : Int) < ((Ad.product_ sh : Nat) : Int); omega),(by show ((Ad.product_ sh : Nat) : Int) < 1073741824; omega)⟩,r,a,q + 1,1,m1,bs,congrArg (fun z : Int => [V.ref r,V.int 1,V.int z]) em1,hR3,ha3,hm1,fun e he => ?_,fun x rest q' hx H4 k4 hR4 => ?_⟩
     ·exact ⟨_,rfl,_,rfl,b1 e he⟩
     ·obtain ⟨c1,c2⟩ := b2 x rest q' hx H4 k4 hR4; exact ⟨_,rfl,_,rfl,_,rfl,.inl ⟨rfl,_,ag.of c1⟩,_,rfl,l,_,_,rfl,rfl,c1,(by rw [aI]; show _ < 2 ^ 24; omega),c2⟩
    ·obtain ⟨dx3,f1,f2,f3,f4⟩ := fin H' hl' hR' kp (fun z => absurd z h44); exact ⟨_,rfl,r,dx3,_,rfl,f1,cV _ _ (by decide +kernel) (by decide +kernel),_,rfl,rfl,r,a,q,93,bs,congrArg (fun z : Int => [V.ref r,V.int z]) zm,⟨dx3,f1⟩,f2,fun h93 H4 k4 hR4 => ⟨_,rfl,_,rfl,f3 h93 H4 k4 hR4⟩,fun h93 => ⟨_,rfl,f4 h93⟩⟩
   ·refine dw (show ¬ (sh.length : Int) < 4 by omega) ?_; obtain ⟨dx3,f1,f2,f3,f4⟩ := fin H' hl' hR' kp (fun _ => by omega); exact ⟨_,rfl,r,dx3,_,rfl,f1,cV _ _ (by decide +kernel) (by decide +kernel),_,rfl,rfl,r,a,q,93,bs,congrArg (fun z : Int => [V.ref r,V.int z]) zm,⟨dx3,f1⟩,f2,fun h93 H4 k4 hR4 => ⟨_,rfl,_,rfl,f3 h93 H4 k4 hR4⟩,fun h93 => ⟨_,rfl,f4 h93⟩⟩
end
end Go

namespace Go
open PySem PySem.Spec PyProof.Rows L2
section
variable {P : Program} {w : World} {K : Fg} {mg : Str -> Option Value} {base : Heap} {C al : Addr}
def pH (K : Fg) (R : Addr) : Sp := fun vs H Q _ => ∃ (r a l : Addr) (n : Nat) (bs s : List Nat),vs = [.ref r,.ref l] /\ aO R H r a n /\ ag K H a (vn bs) /\ H l = some (.lst (vn s)) /\ Ad.shapeOk s = true ∧
 (∀ e,Ad.cellsIn (Ad.rowLength s) (Ad.product_ s) 0 (bs.drop n) n = .error e -> ∀ H',aM r H H' -> aO R H' r a e -> Q .non H') /\ ∀ cs q,Ad.cellsIn (Ad.rowLength s) (Ad.product_ s) 0 (bs.drop n) n = .ok (cs,bs.drop q,q) -> cs.length = Ad.product_ s -> (∀ z ∈ cs,Ad.cellFine z = true) -> ∀ H' d,aM r H H' -> aO R H' r a q -> H d = none -> H' d = some (.lst (vi cs)) -> Q (.ref d) H'
theorem sc_read_cells : aq ["reader","lengths","size","cells","number","cell","behind"] ["reader","lengths"] (aj iD) := fs
theorem vR (D : Df K mg "read_cells" "read_cells" iD ["reader","lengths"]) (T : Txt K mg C) (aA : iy K al) (bi : gv P w K mg base 3 al "passes" ["self","number"] (jS K al)) (m4 : Ok P w K mg base 5 "read_cell" ["reader"] (qS K al)) (a9 : Ok P w K mg base 1 "cell_count" ["lengths"] (cI K)) (fv : Ok P w K mg base 1 "line_size" ["lengths"] (lS K)) : Ok P w K mg base 6 "read_cells" ["reader","lengths"] (pH K al) := by
 refine D.ok sc_read_cells (fun _ _ _ _ h => by obtain ⟨_,_,_,_,_,_,rfl,_⟩ := h; rfl) (fun f cdv A outer s H vs Q E hr h => ?_); obtain ⟨r,a,l,n,bs,sh,rfl,hR,ha,hl,hs,kn,ky⟩ := h
 refine ⟨_,(ad (aH 2 sc_read_cells.nd (ap fv hr (ab (pv 1) ac)))
  (ad (aH 3 sc_read_cells.nd (az ac))
  (ad (bQ PassesOwn.never rfl (aag rfl T.b_range (ab ai (ab (aV cM (ap a9 hr (ab (pv 1) ac)) ai) ac))) (a0 4 sc_read_cells.nd) (ad (aH 5 sc_read_cells.nd (ap m4 hr (ab (pv 0) ac)))
  (ad (aH 6 sc_read_cells.nd (fV (aE bB (aV wP (pv 4) (pv 2)) ai) (bG dg (by rfl) T.b_ord fq (ab cX ac)) (bG dg (by rfl) T.b_ord fq (ab cX ac))))
  (ad (aw (PW.pt (dv (dS (eF (pv 5))) (dm (bw (bg (sF aA.cl bi hr.m (pv 0) (ab (pv 6) ac))))))) (ae (ah cP)) ao)
  (ae (cE (gn PySem.F.plainAttrs_list PySem.F.slot_list_append PySem.F.type_list_append c7 (pv 3) (ab (pv 5) ac))))))))
  (ae (ah (pv 3)))))),?_⟩
 obtain ⟨z1,z2,z3⟩ := Ma.aF hs; have hrp := uP hs; have hsm := cb hs; obtain ⟨dx,hr0⟩ := id hR; refine ⟨_,rfl,l,sh,rfl,ag.of hl,?_⟩; refine ⟨Nat.zero_le _,fun d hd => ?_⟩; have hrd := u5 hR hd; have k1 : aM r H (upd H d (.lst [])) := (ak.new hd).keep; have hd1 : (upd H d (.lst [])) d = some (.lst (vi [])) := am; have hR1 : aO al (upd H d (.lst [])) r a n := hR.keepNew hrd; have hl1 : (upd H d (.lst [])) l = some (.lst (vn sh)) := ak.new hd _ _ hl; generalize upd H d (.lst []) = H1 at *; rw [← Ma.zx] at kn ky; have hF0 : Ma.cO (Ad.rowLength sh) (Ad.product_ sh - 0) (0 % Ad.rowLength sh) [] (bs.drop n) n = Ma.cO (Ad.rowLength sh) (Ad.product_ sh) 0 [] (bs.drop n) n := by rw [Nat.zero_mod,Nat.sub_zero]
 generalize Ma.cO (Ad.rowLength sh) (Ad.product_ sh) 0 [] (bs.drop n) n = F at *; refine ⟨_,rfl,l,sh,rfl,ag.of hl1,hsm,_,_,rfl,rfl,_,_,rfl,⟨by omega,by omega,by omega,by omega⟩,?_⟩; generalize Ad.rowLength sh = nn at *; generalize Ad.product_ sh = pp at *; have epp : ((pp : Int) + 1 - 1).toNat = pp := by omega
 rw [epp]
 refine pS (n := pp) (fun i σ H' => ∃ (v1 v2 v3 : Option V) (cs : List Int) (q : Nat),σ = [some (.ref r),some (.ref l),some (.int nn),some (.ref d),v1,v2,v3] /\ H' d = some (.lst (vi cs)) /\ cs.length = i /\ (∀ z ∈ cs,Ad.cellFine z = true) /\ aO al H' r a q /\ aM r H H' /\ Ma.cO nn (pp - i) (i % nn) cs (bs.drop q) q = F)
  ⟨none,none,none,[],n,rfl,hd1,rfl,(fun z hz => by simp at hz),hR1,k1,hF0⟩ ?_ ?_
 ·rintro i σ H' hi ⟨v1,v2,v3,cs,q,rfl,hd',hcl,hcf,hR',kp,hF⟩; have ha' := aO.seq kp hR ha; have ek : pp - i = (pp - (i + 1)) + 1 := by omega
  rw [ek] at hF; have hdr : d ≠ r := hrd.symm; refine ⟨_,rfl,r,a,q,bs,rfl,hR',ha',fun e he H2 k2 hR2 => ?_,fun z q2 hz hzf H2 k2 hR2 => ?_⟩
  ·rw [Ma.yO he] at hF; have goal2 : Q .non H2 := kn e hF.symm H2 (kp.trans k2) hR2; refine ⟨_,rfl,_,rfl,_,_,rfl,rfl,(by show (0 : Int) < (nn : Int); omega),rfl,_,rfl,a_ (fun _ => ?_) (fun _ => ?_)⟩
   ·exact ⟨_,rfl,rfl,_,rfl,_,rfl,goal2⟩
   ·exact ⟨_,rfl,rfl,_,rfl,_,rfl,goal2⟩
  ·have ha2 := aO.seq k2 hR' ha'; have hd2 := k2 _ _ hd' hdr; have kp2 := kp.trans k2; obtain ⟨dx2,hr2⟩ := id hR2
   have emod : ((1 : Int) + (i : Int)) % (nn : Int) = (((i + 1) % nn : Nat) : Int) := by
    rw [Int.natCast_emod]; congr 1; omega
   have rest : ∀ (c : Nat) (v6 : V),v6 = .int (c : Int) -> c = (if i % nn + 1 = nn then 10 else 32) -> ∃ dx2,H2 r = some (.ins al dx2 (rf a q2)) /\ ag K H2 a (vn bs) /\ (bs[q2]? = some c -> ∀ H3,aM r H2 H3 -> aO al H3 r a (q2 + 1) -> H3 d = some (.lst (vi cs)) /\ aM r H (upd H3 d (.lst (vi cs ++ [.int z]))) /\ aO al (upd H3 d (.lst (vi cs ++ [.int z]))) r a (q2 + 1) /\ Ma.cO nn (pp - (i + 1)) ((i + 1) % nn) (cs ++ [z]) (bs.drop (q2 + 1)) (q2 + 1) = F) /\ (bs[q2]? ≠ some c -> Q .non H2) := by
    intro c v6 ev ec; refine ⟨dx2,hr2,ha2,fun hb H3 k3 hR3 => ?_,fun hb => ?_⟩
    ·rw [ec] at hb; rw [Ma.zK hz hb,← Ma.sC (by omega)] at hF; refine ⟨k3 _ _ hd2 hdr,?_,hR3.keepNew hrd,hF⟩; intro b o eb hb2
     by_cases hbd : b = d
     ·rw [hbd,hd] at eb; cases eb
     ·rw [aK hbd]; exact k3 b o (kp2 b o eb hb2) hb2
    ·rw [ec] at hb; rw [Ma.zU hz hb] at hF; exact kn q2 hF.symm H2 kp2 hR2
   have fin : ∀ (H3 : Hp) (v1 v2 v3 : Option V),H3 d = some (.lst (vi cs)) -> aM r H (upd H3 d (.lst (vi cs ++ [.int z]))) -> aO al (upd H3 d (.lst (vi cs ++ [.int z]))) r a (q2 + 1) -> Ma.cO nn (pp - (i + 1)) ((i + 1) % nn) (cs ++ [z]) (bs.drop (q2 + 1)) (q2 + 1) = F →
     ∃ (w1 w2 w3 : Option V) (cs' : List Int) (q : Nat),[some (.ref r),some (.ref l),some (.int nn),some (.ref d),v1,v2,v3] = [some (.ref r),some (.ref l),some (.int nn),some (.ref d),w1,w2,w3] /\ (upd H3 d (.lst (vi cs ++ [.int z]))) d = some (.lst (vi cs')) /\ cs'.length = i + 1 /\ (∀ z ∈ cs',Ad.cellFine z = true) /\ aO al (upd H3 d (.lst (vi cs ++ [.int z]))) r a q /\ aM r H (upd H3 d (.lst (vi cs ++ [.int z]))) /\ Ma.cO nn (pp - (i + 1)) ((i + 1) % nn) cs' (bs.drop q) q = F := by
    intro H3 v1 v2 v3 g1 g2 g3 g4; refine ⟨v1,v2,v3,cs ++ [z],q2 + 1,rfl,?_,by simp [hcl],fun y hy => ?_,g3,g2,g4⟩
    ·rw [am,qC]; rfl
    ·rcases List.mem_append.mp hy with y1 | y1
     ·exact hcf y y1
     ·rw [List.mem_singleton.mp y1]; exact hzf
   have hlen : (vi cs).length < 2 ^ 24 := by rw [aN,hcl]; omega
   refine ⟨_,rfl,_,rfl,_,_,rfl,rfl,(by show (0 : Int) < (nn : Int); omega),rfl,_,rfl,?_⟩
   by_cases hcol : i % nn + 1 = nn
   ·have e0 : (i + 1) % nn = 0 := by rw [Ma.sC (by omega),if_pos hcol]
    refine dA (show V.int (((1 : Int) + (i : Int)) % (nn : Int)) = V.int 0 by rw [emod,e0]; rfl) ?_; obtain ⟨dx3,c1,c2,c3,c4⟩ := rest 10 (.int ((10 : Nat) : Int)) rfl (by rw [if_pos hcol]); refine ⟨_,rfl,rfl,_,rfl,_,rfl,_,rfl,r,dx3,_,rfl,c1,cV _ _ (by decide +kernel) (by decide +kernel),_,rfl,r,a,q2,10,bs,congrArg (fun z : Int => [V.ref r,V.int z]) abD,⟨dx3,c1⟩,c2,fun hb H3 k3 hR3 => ⟨_,rfl,?_⟩,fun hb => ⟨_,rfl,c4 hb⟩⟩; obtain ⟨e1,e2,e3,e4⟩ := c3 hb H3 k3 hR3; exact ⟨_,rfl,.inl ⟨rfl,_,ag.of e1⟩,_,rfl,d,_,_,rfl,rfl,e1,hlen,fin H3 _ _ _ e1 e2 e3 e4⟩
   ·have e0 : (i + 1) % nn ≠ 0 := by rw [Ma.sC (by omega),if_neg hcol]; omega
    refine dw (show ¬ V.int (((1 : Int) + (i : Int)) % (nn : Int)) = V.int 0 from a5 (by rw [emod]; omega)) ?_; obtain ⟨dx3,c1,c2,c3,c4⟩ := rest 32 (.int ((32 : Nat) : Int)) rfl (by rw [if_neg hcol]); refine ⟨_,rfl,rfl,_,rfl,_,rfl,_,rfl,r,dx3,_,rfl,c1,cV _ _ (by decide +kernel) (by decide +kernel),_,rfl,r,a,q2,32,bs,congrArg (fun z : Int => [V.ref r,V.int z]) ady,⟨dx3,c1⟩,c2,fun hb H3 k3 hR3 => ⟨_,rfl,?_⟩,fun hb => ⟨_,rfl,c4 hb⟩⟩; obtain ⟨e1,e2,e3,e4⟩ := c3 hb H3 k3 hR3; exact ⟨_,rfl,.inl ⟨rfl,_,ag.of e1⟩,_,rfl,d,_,_,rfl,rfl,e1,hlen,fin H3 _ _ _ e1 e2 e3 e4⟩
 ·rintro σ H' ⟨v1,v2,v3,cs,q,rfl,hd',hcl,hcf,hR',kp,hF⟩; rw [Nat.sub_self,Ma.xM] at hF; exact ⟨_,rfl,ky cs q hF.symm hcl hcf H' d kp hR' hd hd'⟩
end
end Go

namespace Go
open PySem PySem.Spec PyProof.Rows L2
def aaQ (x : Ad.Rd Ad.Shape) : Except Nat Ad.Arr := match x with
 | .error e => .error e
 | .ok s => match Ad.byte 10 s.2.1 s.2.2 with
  | .error e => .error e
  | .ok y => match Ad.cellsIn (Ad.rowLength s.1) (Ad.product_ s.1) 0 y.2.1 y.2.2 with
   | .error e => .error e
   | .ok z => if z.2.1 = [] then .ok ⟨s.1,z.1⟩ else .error z.2.2
def zy (bs : List Nat) : Except Nat Ad.Arr := aaQ (ge bs 0)
theorem abK (bs : List Nat) : Ad.readText bs = zy bs := by
 unfold zy
 cases bs with
 | nil => rfl
 | cons c b =>
  by_cases h91 : c = 91
  ·subst h91
   cases b with
   | nil => rfl
   | cons d b =>
    by_cases h93 : d = 93
    ·subst h93; rfl
    ·rw [sU (bs := 91 :: d :: b) (n := 0) rfl (fun e => h93 (Option.some.inj e)),Ma.aaV]
     have key : (match (d :: b : List Nat) with
       | 93 :: r => Except.ok ([],r,1 + 1)
       | r => Ad.lensIn Ad.RANKS 1 r 1 : Ad.Rd Ad.Shape) = Ad.lensIn 4 1 (d :: b) 1 := by
      split
      ·rename_i h; exact absurd (List.cons.inj h).1 h93
      ·rfl
     exact congrArg aaQ key
  ·have e2 : ge (c :: b) 0 = .error 0 := by
    unfold ge
    split
    ·rename_i h; exact absurd (Option.some.inj h) h91
    ·rfl
   have e1 : Ad.byte 91 (c :: b) 0 = .error 0 := by
    unfold Ad.byte; exact if_neg h91
   rw [e2]; unfold Ad.readText; rw [e1]; rfl
section
variable {P : Program} {w : World} {K : Fg} {mg : Str -> Option Value} {base : Heap} {C al : Addr}
def pF (K : Fg) (C R : Addr) : Sp := fun vs H Q _ => ∃ (r a : Addr) (bs : List Nat),vs = [.ref r] /\ aO R H r a 0 /\ ag K H a (vn bs) ∧
 (∀ e,Ad.readText bs = .error e -> ∀ H',aM r H H' -> aO R H' r a e -> Q .non H') /\ ∀ A,Ad.readText bs = .ok A -> A.ok = true -> ∀ H' x,aM r H H' -> H x = none -> b0 C H' x A -> Q (.ref x) H'
theorem aM.rd {R : Addr} {H H' : Hp} {r a q : Addr} {n : Nat} (k : aM r H H') (hR : aO R H' r a n) (hq : H' q = none) : H q = none := by
 obtain ⟨dx,h⟩ := hR; exact aM.free k hq ⟨_,h⟩
theorem sc_read_array : aq ["reader","lengths","cells"] ["reader"] (aj iX) := fs
theorem vV (D : Df K mg "read_array" "read_array" iX ["reader"]) (T : Txt K mg C) (aA : iy K al) (bi : gv P w K mg base 3 al "passes" ["self","number"] (jS K al)) (bN : gv P w K mg base 1 al "is_done" ["self"] (kU K al)) (jl : Ok P w K mg base 5 "read_lengths" ["reader"] (mm K al)) (l0 : Ok P w K mg base 6 "read_cells" ["reader","lengths"] (pH K al)) (aS : dO P w K mg base 1 "Array" C ["self","lengths","cells"] (bO C)) : Ok P w K mg base 7 "read_array" ["reader"] (pF K C al) := by
 refine D.ok sc_read_array (fun _ _ _ _ h => by obtain ⟨_,_,_,rfl,_⟩ := h; rfl) (fun f cdv A outer s H vs Q E hr h => ?_); obtain ⟨r,a,bs,rfl,hR,ha,kn,ky⟩ := h
 refine ⟨_,(ad (aH 1 sc_read_array.nd (ap jl hr (ab (pv 0) ac)))
  (ad (aw (PW.pt (dv (dS (eF (pv 1))) (dm (bw (bg (sF aA.cl bi hr.m (pv 0) (ab (bG dg (by rfl) T.b_ord fq (ab cX ac)) ac))))))) (ae (ah cP)) ao)
  (ad (aH 2 sc_read_array.nd (ap l0 hr (ab (pv 0) (ab (pv 1) ac))))
  (ad (aw (PW.pt (dv (dS (eF (pv 2))) (dm (bw (bg (fK aA.cl bN hr.m (pv 0))))))) (ae (ah cP)) ao)
  (ae (ah (dZ aS hr (ab (pv 1) (ab (pv 2) ac))))))))),?_⟩
 rw [abK] at kn ky; unfold zy aaQ at kn ky; refine ⟨_,rfl,r,a,0,bs,rfl,hR,ha,fun e he H1 k1 hR1 => ?_,fun sh q he hs H1 l k1 hR1 hl0 hl1 => ?_⟩
 ·rw [he] at kn; exact ⟨_,rfl,_,rfl,kn e rfl H1 k1 hR1⟩
 ·rw [he] at kn ky; simp only at kn ky; have ha1 := aO.seq k1 hR ha; obtain ⟨dx1,hr1⟩ := id hR1; refine ⟨_,rfl,_,rfl,_,rfl,r,dx1,_,rfl,hr1,cV _ _ (by decide +kernel) (by decide +kernel),_,rfl,rfl,r,a,q,10,bs,congrArg (fun z : Int => [V.ref r,V.int z]) abD,hR1,ha1,fun h10 H2 k2 hR2 => ⟨_,rfl,?_⟩,fun h10 => ⟨_,rfl,?_⟩⟩
  ·rw [Ma.wq h10] at kn ky; simp only at kn ky; have hlr : l ≠ r := fun z => by rw [z,hr1] at hl1; cases hl1
   have hl2 := k2 _ _ hl1 hlr; have k12 := k1.trans k2; have ha2 := aO.seq k12 hR ha; refine ⟨_,rfl,_,rfl,r,a,l,q + 1,bs,sh,rfl,hR2,ha2,hl2,hs,fun e he2 H3 k3 hR3 => ?_,fun cs q3 he2 hcl hcf H3 d k3 hR3 hd2 hd3 => ?_⟩
   ·rw [he2] at kn; exact ⟨_,rfl,_,rfl,kn e rfl H3 (k12.trans k3) hR3⟩
   ·rw [he2] at kn ky; simp only at kn ky; have k13 := k12.trans k3; have ha3 := aO.seq k13 hR ha; obtain ⟨dx3,hr3⟩ := id hR3; have hl3 := k3 _ _ hl2 hlr; refine ⟨_,rfl,_,rfl,_,rfl,r,dx3,_,rfl,hr3,cV _ _ (by decide +kernel) (by decide +kernel),r,a,q3,Ma.nz bs,rfl,hR3,ha3,_,rfl,?_⟩; rw [aab]
    by_cases hend : bs.length <= q3
    ·rw [decide_eq_true hend]; have e4 : bs.drop q3 = [] := List.drop_eq_nil_iff.mpr hend; rw [if_pos e4] at ky; refine ⟨_,rfl,_,rfl,ph (Q := Q) (A := ⟨sh,cs⟩) hl3 hd3 fun x H4 hx s4 hA4 => ?_⟩; exact ky _ rfl (iC hs hcl hcf) H4 x (k13.trans s4.keep) (aM.rd k13 hR3 hx) hA4
    ·rw [decide_eq_false hend]; have e4 : ¬ bs.drop q3 = [] := fun z => hend (List.drop_eq_nil_iff.mp z)
     rw [if_neg e4] at kn; exact kn q3 rfl H3 k13 hR3
  ·rw [Ma.yx h10] at kn; exact kn q rfl H1 k1 hR1
def qA (K : Fg) (C : Addr) : Sp := fun vs H Q _ => ∃ (l b : Addr) (t : Ay.State) (kk : Nat) (bs : List Nat),vs = [.ref l,.int kk,.ref b] /\ aB C H l t /\ ag K H b (vn bs) /\ aQ C H l (Ay.step t (.read kk bs)) Q
theorem sc_call_read : aq ["slots","k","text","refusal","reader","array"] ["slots","k","text"] (aj jD) := fs
theorem xk (D : Df K mg "call_read" "call_read" jD ["slots","k","text"]) (T : Txt K mg C) (aA : iy K al) (aX : Ok P w K mg base 1 "target_refusal" ["k"] (b8)) (i8 : dO P w K mg base 1 "Reader" al ["self","numbers"] (qf al)) (lz : Ok P w K mg base 7 "read_array" ["reader"] (pF K C al)) (aZ : Ok P w K mg base 1 "keep" ["slots","k","array"] (b6 C)) : Ok P w K mg base 8 "call_read" ["slots","k","text"] (qA K C) := by
 refine D.ok sc_call_read (fun _ _ _ _ h => by obtain ⟨_,_,_,_,_,rfl,_⟩ := h; rfl) (fun f cdv A outer s H vs Q E hr h => ?_); obtain ⟨l,b,t,kk,bs,rfl,S,hb,k⟩ := h
 refine ⟨_,(ad (aH 3 sc_call_read.nd (ap aX hr (ab (pv 1) ac)))
  (ad (aw (aE bz (pv 3) ai) (ae (ah (az (ab (pv 3) ac)))) ao)
  (ad (aw (aE k7 (bA T.b_len (pv 2)) (aP T.g_MOST_BYTES)) (ae (ah (az (ab (aP T.g_WRONG) ac)))) ao)
  (ad (aH 4 sc_call_read.nd (dZ i8 hr (ab (pv 2) ac)))
  (ad (aH 5 sc_call_read.nd (ap lz hr (ab (pv 4) ac)))
  (ad (aw (dS (eF (pv 5))) (ae (ah (az (ab (aP T.g_NO_TEXT) (ab (aD (pv 4) rfl) ac))))) ao)
  (ae (ah (ap aZ hr (ab (pv 0) (ab (pv 1) (ab (pv 5) ac)))))))))))),?_⟩
 refine ⟨_,rfl,kk,rfl,_,rfl,rfl,_,rfl,?_⟩
 by_cases h0 : d6 kk = 0
 ·refine bq (congrArg V.int h0) ?_; have hk := eE h0; rw [Ay.step,eS hk] at k; refine ⟨_,rfl,b,_,rfl,.inl hb,_,_,rfl,rfl,_,rfl,?_⟩; rw [aI]
  by_cases hlong : 8192 < bs.length
  ·refine dA (show (8192 : Int) < (bs.length : Int) by omega) ?_; rw [if_pos (show Ay.TEXT < bs.length from hlong)] at k; exact ⟨ba,aQ.no S (ak.refl H) k rfl⟩
  refine dw (show ¬ (8192 : Int) < (bs.length : Int) by omega) ?_; rw [if_neg (show ¬ Ay.TEXT < bs.length from hlong)] at k; refine ⟨_,rfl,fun r dx hr2 hdx hne => ?_⟩; refine ⟨r,dx,b,rfl,am,fun H2 h1 h2 => ⟨rfl,?_⟩⟩; have s2 : ak H H2 := ak.made hr2 hdx h2; have hR2 : aO al H2 r b 0 := ⟨dx,h1⟩; clear h1 h2; refine ⟨_,rfl,r,b,bs,rfl,hR2,s2.seq hb,fun e he H3 k3 hR3 => ?_,fun A' he hok H3 x k3 hx hA3 => ?_⟩
  ·rw [he] at k; have k : aQ C H l (t,.refused 8 [e]) Q := k; have s3 : ak H H3 := fun b o eb => k3 _ _ (s2 _ _ eb) (aJ eb hr2)
   obtain ⟨dx3,hr3⟩ := id hR3; refine ⟨_,rfl,_,rfl,_,rfl,r,al,dx3,_,_,rfl,hr3,aA.cl,aA.nR,lX b e,lj,fun p hp => ?_⟩; have s4 := s3.upd (o := .lst [.int (-8),.int (e : Int)]) (s3.free hp); exact k _ p s4.keep (S.keep s4) (s3.free hp) (by rw [am]; rfl)
  ·rw [he] at k; have k : aQ C H l (Ay.put t kk A') Q := k; have s3 : ak H H3 := fun b o eb => k3 _ _ (s2 _ _ eb) (aJ eb hr2)
   exact ⟨_,rfl,_,rfl,_,rfl,_,rfl,_,rfl,l,x,t,kk,A',rfl,hk,S.keep s3,hA3,hok,k.same s3⟩
 ·obtain ⟨h1,h2⟩ := lq h0; rw [Ay.step,ji h1] at k; refine bx (a5 h0) ?_; exact ⟨_,rfl,ba,aQ.no S (ak.refl H) k h2⟩
end
end Go

namespace Go
open PySem PySem.Spec PyProof.Rows L2
theorem aa4 {H : Hp} {q : Addr} {r : List Int} (h : H q = some (.lst (vi r))) (hn : Ma.acH r) : H q = some (.lst (vn (AyNeutral.nats r))) := by
 rw [h,yK fun z hz => (hn.1 z hz).1]
def io (C : Addr) (lo hi : Int) : Sp := fun vs H Q _ => ∃ (l wa : Addr) (t : Ay.State) (p : Int) (W : List Int) (X : List (List Int)),vs = [.ref l,.int p,.ref wa] /\ aB C H l t /\ H wa = some (.lst (vi W)) /\ lo <= p /\ p <= hi /\ Ma.bS p W X /\ yU C H l (AyNeutral.step t ((p :: W) :: X)) Q
section
variable {P : Program} {w : World} {K : Fg} {mg : Str -> Option Value} {base : Heap} {C al : Addr}
theorem rV : aq ["slots","call","wholes","rows"] ["slots","call","wholes","rows"] (aj fb) := fs
theorem rF (D : Df K mg "turning_answer" "turning_answer" fb ["slots","call","wholes","rows"]) (T : Txt K mg C) (nG : Ok P w K mg base 4 "call_turn" ["slots","k","i","axes"] (qb K C)) (mU : Ok P w K mg base 5 "call_join" ["slots","k","axis","i","j"] (qW K C)) (nW : Ok P w K mg base 5 "call_roll" ["slots","k","axis","by","i"] (qM K C)) (kg : Ok P w K mg base 5 "call_repeat" ["slots","k","axis","times","i"] (n9 K C)) : Ok P w K mg base 6 "turning_answer" ["slots","call","wholes","rows"] (dh C 12 15) := by
 refine D.ok rV (fun _ _ _ _ h => by obtain ⟨_,_,_,_,_,_,_,rfl,_⟩ := h; rfl) (fun f cdv A outer s H vs Q E hr h => ?_); obtain ⟨l,wa,ra,t,p,W,X,rfl,S,hW,hX,hlo,hhi,hV,k⟩ := h
 refine ⟨_,(ad (aw (aE bB (pv 1) ai) (ae (ah (ap nG hr (ab (pv 0) (ab (au (pv 2) ai) (ab (au (pv 2) ai) (ab (au (pv 3) ai) ac))))))) ao)
  (ad (aw (aE bB (pv 1) ai) (ae (ah (ap mU hr (ab (pv 0) (ab (au (pv 2) ai) (ab (au (pv 2) ai) (ab (au (pv 2) ai) (ab (au (pv 2) ai) ac)))))))) ao)
  (ad (aw (aE bB (pv 1) ai) (ae (ah (ap nW hr (ab (pv 0) (ab (au (pv 2) ai) (ab (au (pv 2) ai) (ab (au (pv 2) ai) (ab (au (pv 2) ai) ac)))))))) ao)
  (ae (ah (ap kg hr (ab (pv 0) (ab (au (pv 2) ai) (ab (au (pv 2) ai) (ab (au (pv 2) ai) (ab (au (pv 2) ai) ac))))))))))),?_⟩
 refine ⟨_,rfl,rfl,_,rfl,a_ (fun h => ?_) (fun h12 => ?_)⟩
 ·cases (V.int.inj (of_decide_eq_true h) : p = 12); obtain ⟨x0,x1,r0,rfl,rfl,hr0,hc⟩ := Ma.adk hV; obtain ⟨vs0,q0,g0,g0',hq0⟩ := hX.row (i := 0) rfl; exact ⟨_,rfl,_,rfl,wa,_,_,_,rfl,rfl,ag.of hW,rfl,_,rfl,wa,_,_,_,rfl,rfl,ag.of hW,rfl,_,rfl,ra,vs0,_,_,rfl,rfl,ag.of g0,dU (j := 0) rfl g0',l,q0,t,x0,x1,AyNeutral.nats r0,rfl,S,ag.of (hJ hq0 hr0),k.of hc⟩
 refine ⟨_,rfl,rfl,_,rfl,a_ (fun h => ?_) (fun h13 => ?_)⟩
 ·cases (V.int.inj (of_decide_eq_true h) : p = 13); obtain ⟨x0,x1,x2,x3,rfl,rfl,hc⟩ := Ma.adq hV; exact ⟨_,rfl,_,rfl,wa,_,_,_,rfl,rfl,ag.of hW,rfl,_,rfl,wa,_,_,_,rfl,rfl,ag.of hW,rfl,_,rfl,wa,_,_,_,rfl,rfl,ag.of hW,rfl,_,rfl,wa,_,_,_,rfl,rfl,ag.of hW,rfl,l,t,x0,x1,x2,x3,rfl,S,k.of hc⟩
 refine ⟨_,rfl,rfl,_,rfl,a_ (fun h => ?_) (fun h14 => ?_)⟩
 ·cases (V.int.inj (of_decide_eq_true h) : p = 14); obtain ⟨x0,x1,x2,x3,rfl,rfl,hc⟩ := Ma.adl hV; exact ⟨_,rfl,_,rfl,wa,_,_,_,rfl,rfl,ag.of hW,rfl,_,rfl,wa,_,_,_,rfl,rfl,ag.of hW,rfl,_,rfl,wa,_,_,_,rfl,rfl,ag.of hW,rfl,_,rfl,wa,_,_,_,rfl,rfl,ag.of hW,rfl,l,t,x0,x1,x3,x2,rfl,S,k.of hc⟩
 ·have hp : p = 15 := by
   have e12 : ¬ p = 12 := fun e => h12 (decide_eq_true (congrArg V.int e))
   have e13 : ¬ p = 13 := fun e => h13 (decide_eq_true (congrArg V.int e))
   have e14 : ¬ p = 14 := fun e => h14 (decide_eq_true (congrArg V.int e))
   omega
  subst hp; obtain ⟨x0,x1,x2,x3,rfl,rfl,hc⟩ := Ma.ac1 hV; exact ⟨_,rfl,_,rfl,wa,_,_,_,rfl,rfl,ag.of hW,rfl,_,rfl,wa,_,_,_,rfl,rfl,ag.of hW,rfl,_,rfl,wa,_,_,_,rfl,rfl,ag.of hW,rfl,_,rfl,wa,_,_,_,rfl,rfl,ag.of hW,rfl,l,t,x0,x1,x2,x3,rfl,S,k.of hc⟩
theorem pQ : aq ["slots","call","wholes"] ["slots","call","wholes"] (aj d5) := fs
theorem pP (D : Df K mg "reckoning_answer" "reckoning_answer" d5 ["slots","call","wholes"]) (T : Txt K mg C) (nX : Ok P w K mg base 5 "call_both" ["slots","k","op","i","j"] (p8 K C)) (mW : Ok P w K mg base 6 "call_fold" ["slots","k","f","axis","i"] (qT K C)) (mP : Ok P w K mg base 6 "call_scan" ["slots","k","f","axis","i"] (qE K C)) : Ok P w K mg base 7 "reckoning_answer" ["slots","call","wholes"] (io C 16 18) := by
 refine D.ok pQ (fun _ _ _ _ h => by obtain ⟨_,_,_,_,_,_,rfl,_⟩ := h; rfl) (fun f cdv A outer s H vs Q E hr h => ?_); obtain ⟨l,wa,t,p,W,X,rfl,S,hW,hlo,hhi,hV,k⟩ := h
 refine ⟨_,(ad (aw (aE bB (pv 1) ai) (ae (ah (ap nX hr (ab (pv 0) (ab (au (pv 2) ai) (ab (au (pv 2) ai) (ab (au (pv 2) ai) (ab (au (pv 2) ai) ac)))))))) ao)
  (ad (aw (aE bB (pv 1) ai) (ae (ah (ap mW hr (ab (pv 0) (ab (au (pv 2) ai) (ab (au (pv 2) ai) (ab (au (pv 2) ai) (ab (au (pv 2) ai) ac)))))))) ao)
  (ae (ah (ap mP hr (ab (pv 0) (ab (au (pv 2) ai) (ab (au (pv 2) ai) (ab (au (pv 2) ai) (ab (au (pv 2) ai) ac)))))))))),?_⟩
 refine ⟨_,rfl,rfl,_,rfl,a_ (fun h => ?_) (fun h16 => ?_)⟩
 ·cases (V.int.inj (of_decide_eq_true h) : p = 16); obtain ⟨x0,x1,x2,x3,rfl,rfl,hc⟩ := Ma.adi hV; exact ⟨_,rfl,_,rfl,wa,_,_,_,rfl,rfl,ag.of hW,rfl,_,rfl,wa,_,_,_,rfl,rfl,ag.of hW,rfl,_,rfl,wa,_,_,_,rfl,rfl,ag.of hW,rfl,_,rfl,wa,_,_,_,rfl,rfl,ag.of hW,rfl,l,t,x0,x1,x2,x3,rfl,S,k.of hc⟩
 refine ⟨_,rfl,rfl,_,rfl,a_ (fun h => ?_) (fun h17 => ?_)⟩
 ·cases (V.int.inj (of_decide_eq_true h) : p = 17); obtain ⟨x0,x1,x2,x3,rfl,rfl,hc⟩ := Ma.add hV; exact ⟨_,rfl,_,rfl,wa,_,_,_,rfl,rfl,ag.of hW,rfl,_,rfl,wa,_,_,_,rfl,rfl,ag.of hW,rfl,_,rfl,wa,_,_,_,rfl,rfl,ag.of hW,rfl,_,rfl,wa,_,_,_,rfl,rfl,ag.of hW,rfl,l,t,x0,x1,x2,x3,rfl,S,k.of hc⟩
 ·have hp : p = 18 := by
   have e16 : ¬ p = 16 := fun e => h16 (decide_eq_true (congrArg V.int e))
   have e17 : ¬ p = 17 := fun e => h17 (decide_eq_true (congrArg V.int e))
   omega
  subst hp; obtain ⟨x0,x1,x2,x3,rfl,rfl,hc⟩ := Ma.adm hV; exact ⟨_,rfl,_,rfl,wa,_,_,_,rfl,rfl,ag.of hW,rfl,_,rfl,wa,_,_,_,rfl,rfl,ag.of hW,rfl,_,rfl,wa,_,_,_,rfl,rfl,ag.of hW,rfl,_,rfl,wa,_,_,_,rfl,rfl,ag.of hW,rfl,l,t,x0,x1,x2,x3,rfl,S,k.of hc⟩
theorem rJ : aq ["slots","call","wholes"] ["slots","call","wholes"] (aj eT) := fs
theorem rL (D : Df K mg "picking_answer" "picking_answer" eT ["slots","call","wholes"]) (T : Txt K mg C) (lI : Ok P w K mg base 5 "call_order" ["slots","k","axis","i"] (pK K C)) (m7 : Ok P w K mg base 5 "call_take" ["slots","k","axis","i","j"] (qp K C)) (ng : Ok P w K mg base 4 "call_pack" ["slots","k","i","j"] (qR K C)) (mR : Ok P w K mg base 5 "call_land" ["slots","i","mode","j","l"] (p6 K C)) : Ok P w K mg base 6 "picking_answer" ["slots","call","wholes"] (io C 19 22) := by
 refine D.ok rJ (fun _ _ _ _ h => by obtain ⟨_,_,_,_,_,_,rfl,_⟩ := h; rfl) (fun f cdv A outer s H vs Q E hr h => ?_); obtain ⟨l,wa,t,p,W,X,rfl,S,hW,hlo,hhi,hV,k⟩ := h
 refine ⟨_,(ad (aw (aE bB (pv 1) ai) (ae (ah (ap lI hr (ab (pv 0) (ab (au (pv 2) ai) (ab (au (pv 2) ai) (ab (au (pv 2) ai) ac))))))) ao)
  (ad (aw (aE bB (pv 1) ai) (ae (ah (ap m7 hr (ab (pv 0) (ab (au (pv 2) ai) (ab (au (pv 2) ai) (ab (au (pv 2) ai) (ab (au (pv 2) ai) ac)))))))) ao)
  (ad (aw (aE bB (pv 1) ai) (ae (ah (ap ng hr (ab (pv 0) (ab (au (pv 2) ai) (ab (au (pv 2) ai) (ab (au (pv 2) ai) ac))))))) ao)
  (ae (ah (ap mR hr (ab (pv 0) (ab (au (pv 2) ai) (ab (au (pv 2) ai) (ab (au (pv 2) ai) (ab (au (pv 2) ai) ac))))))))))),?_⟩
 refine ⟨_,rfl,rfl,_,rfl,a_ (fun h => ?_) (fun h19 => ?_)⟩
 ·cases (V.int.inj (of_decide_eq_true h) : p = 19); obtain ⟨x0,x1,x2,rfl,rfl,hc⟩ := Ma.ac5 hV; exact ⟨_,rfl,_,rfl,wa,_,_,_,rfl,rfl,ag.of hW,rfl,_,rfl,wa,_,_,_,rfl,rfl,ag.of hW,rfl,_,rfl,wa,_,_,_,rfl,rfl,ag.of hW,rfl,l,t,x0,x1,x2,rfl,S,k.of hc⟩
 refine ⟨_,rfl,rfl,_,rfl,a_ (fun h => ?_) (fun h20 => ?_)⟩
 ·cases (V.int.inj (of_decide_eq_true h) : p = 20); obtain ⟨x0,x1,x2,x3,rfl,rfl,hc⟩ := Ma.ada hV; exact ⟨_,rfl,_,rfl,wa,_,_,_,rfl,rfl,ag.of hW,rfl,_,rfl,wa,_,_,_,rfl,rfl,ag.of hW,rfl,_,rfl,wa,_,_,_,rfl,rfl,ag.of hW,rfl,_,rfl,wa,_,_,_,rfl,rfl,ag.of hW,rfl,l,t,x0,x1,x2,x3,rfl,S,k.of hc⟩
 refine ⟨_,rfl,rfl,_,rfl,a_ (fun h => ?_) (fun h21 => ?_)⟩
 ·cases (V.int.inj (of_decide_eq_true h) : p = 21); obtain ⟨x0,x1,x2,rfl,rfl,hc⟩ := Ma.ac4 hV; exact ⟨_,rfl,_,rfl,wa,_,_,_,rfl,rfl,ag.of hW,rfl,_,rfl,wa,_,_,_,rfl,rfl,ag.of hW,rfl,_,rfl,wa,_,_,_,rfl,rfl,ag.of hW,rfl,l,t,x0,x1,x2,rfl,S,k.of hc⟩
 ·have hp : p = 22 := by
   have e19 : ¬ p = 19 := fun e => h19 (decide_eq_true (congrArg V.int e))
   have e20 : ¬ p = 20 := fun e => h20 (decide_eq_true (congrArg V.int e))
   have e21 : ¬ p = 21 := fun e => h21 (decide_eq_true (congrArg V.int e))
   omega
  subst hp; obtain ⟨x0,x1,x2,x3,rfl,rfl,hc⟩ := Ma.ado hV; exact ⟨_,rfl,_,rfl,wa,_,_,_,rfl,rfl,ag.of hW,rfl,_,rfl,wa,_,_,_,rfl,rfl,ag.of hW,rfl,_,rfl,wa,_,_,_,rfl,rfl,ag.of hW,rfl,_,rfl,wa,_,_,_,rfl,rfl,ag.of hW,rfl,l,t,x0,x1,x2,x3,rfl,S,k.of hc⟩
theorem ux : aq ["slots","call","wholes"] ["slots","call","wholes"] (aj gY) := fs
theorem uD (D : Df K mg "pair_answer" "pair_answer" gY ["slots","call","wholes"]) (T : Txt K mg C) (lM : Ok P w K mg base 6 "call_times" ["slots","k","i","j"] (pE K C)) (mQ : Ok P w K mg base 3 "call_same" ["slots","i","j"] (qZ K C)) : Ok P w K mg base 7 "pair_answer" ["slots","call","wholes"] (io C 23 24) := by
 refine D.ok ux (fun _ _ _ _ h => by obtain ⟨_,_,_,_,_,_,rfl,_⟩ := h; rfl) (fun f cdv A outer s H vs Q E hr h => ?_); obtain ⟨l,wa,t,p,W,X,rfl,S,hW,hlo,hhi,hV,k⟩ := h
 refine ⟨_,(ad (aw (aE bB (pv 1) ai) (ae (ah (ap lM hr (ab (pv 0) (ab (au (pv 2) ai) (ab (au (pv 2) ai) (ab (au (pv 2) ai) ac))))))) ao)
  (ae (ah (ap mQ hr (ab (pv 0) (ab (au (pv 2) ai) (ab (au (pv 2) ai) ac))))))),?_⟩
 refine ⟨_,rfl,rfl,_,rfl,a_ (fun h => ?_) (fun h23 => ?_)⟩
 ·cases (V.int.inj (of_decide_eq_true h) : p = 23); obtain ⟨x0,x1,x2,rfl,rfl,hc⟩ := Ma.adw hV; exact ⟨_,rfl,_,rfl,wa,_,_,_,rfl,rfl,ag.of hW,rfl,_,rfl,wa,_,_,_,rfl,rfl,ag.of hW,rfl,_,rfl,wa,_,_,_,rfl,rfl,ag.of hW,rfl,l,t,x0,x1,x2,rfl,S,k.of hc⟩
 ·have hp : p = 24 := by
   have e23 : ¬ p = 23 := fun e => h23 (decide_eq_true (congrArg V.int e))
   omega
  subst hp; obtain ⟨x0,x1,rfl,rfl,hc⟩ := Ma.acY hV; exact ⟨_,rfl,_,rfl,wa,_,_,_,rfl,rfl,ag.of hW,rfl,_,rfl,wa,_,_,_,rfl,rfl,ag.of hW,rfl,l,t,x0,x1,rfl,S,k.of hc⟩
theorem uM : aq ["slots","call","wholes","rows"] ["slots","call","wholes","rows"] (aj gR) := fs
theorem uH (D : Df K mg "text_answer" "text_answer" gR ["slots","call","wholes","rows"]) (T : Txt K mg C) (mZ : Ok P w K mg base 3 "call_text" ["slots","i"] (qx K C)) (ny : Ok P w K mg base 8 "call_read" ["slots","k","text"] (qA K C)) : Ok P w K mg base 9 "text_answer" ["slots","call","wholes","rows"] (dh C 25 26) := by
 refine D.ok uM (fun _ _ _ _ h => by obtain ⟨_,_,_,_,_,_,_,rfl,_⟩ := h; rfl) (fun f cdv A outer s H vs Q E hr h => ?_); obtain ⟨l,wa,ra,t,p,W,X,rfl,S,hW,hX,hlo,hhi,hV,k⟩ := h
 refine ⟨_,(ad (aw (aE bB (pv 1) ai) (ae (ah (ap mZ hr (ab (pv 0) (ab (au (pv 2) ai) ac))))) ao)
  (ae (ah (ap ny hr (ab (pv 0) (ab (au (pv 2) ai) (ab (au (pv 3) ai) ac))))))),?_⟩
 refine ⟨_,rfl,rfl,_,rfl,a_ (fun h => ?_) (fun h25 => ?_)⟩
 ·cases (V.int.inj (of_decide_eq_true h) : p = 25); obtain ⟨x0,rfl,rfl,hc⟩ := Ma.adb hV; exact ⟨_,rfl,_,rfl,wa,_,_,_,rfl,rfl,ag.of hW,rfl,l,t,x0,rfl,S,k.of hc⟩
 ·have hp : p = 26 := by
   have e25 : ¬ p = 25 := fun e => h25 (decide_eq_true (congrArg V.int e))
   omega
  subst hp; obtain ⟨x0,r0,rfl,rfl,hr0,hc⟩ := Ma.ads hV; obtain ⟨vs0,q0,g0,g0',hq0⟩ := hX.row (i := 0) rfl; exact ⟨_,rfl,_,rfl,wa,_,_,_,rfl,rfl,ag.of hW,rfl,_,rfl,ra,vs0,_,_,rfl,rfl,ag.of g0,dU (j := 0) rfl g0',l,q0,t,x0,AyNeutral.nats r0,rfl,S,ag.of (aa4 hq0 hr0),k.of hc⟩
theorem uS : aq ["slots","call","wholes","rows"] ["slots","call","wholes","rows"] (aj g9) := fs
theorem uZ (D : Df K mg "call_answer" "call_answer" g9 ["slots","call","wholes","rows"]) (T : Txt K mg C) (iP : Ok P w K mg base 4 "making_answer" ["slots","call","wholes","rows"] (dh C 1 4)) (ia : Ok P w K mg base 4 "telling_answer" ["slots","call","wholes","rows"] (dh C 5 8)) (ig : Ok P w K mg base 5 "section_answer" ["slots","call","wholes","rows"] (dh C 9 11)) (ij : Ok P w K mg base 6 "turning_answer" ["slots","call","wholes","rows"] (dh C 12 15)) (fS : Ok P w K mg base 7 "reckoning_answer" ["slots","call","wholes"] (io C 16 18)) (ik : Ok P w K mg base 6 "picking_answer" ["slots","call","wholes"] (io C 19 22)) (km : Ok P w K mg base 7 "pair_answer" ["slots","call","wholes"] (io C 23 24)) (kd : Ok P w K mg base 9 "text_answer" ["slots","call","wholes","rows"] (dh C 25 26)) : Ok P w K mg base 10 "call_answer" ["slots","call","wholes","rows"] (dh C 1 26) := by
 refine D.ok uS (fun _ _ _ _ h => by obtain ⟨_,_,_,_,_,_,_,rfl,_⟩ := h; rfl) (fun f cdv A outer s H vs Q E hr h => ?_); obtain ⟨l,wa,ra,t,p,W,X,rfl,S,hW,hX,hlo,hhi,hV,k⟩ := h
 refine ⟨_,(ad (aw (aE iW (pv 1) ai) (ae (ah (ap iP hr (ab (pv 0) (ab (pv 1) (ab (pv 2) (ab (pv 3) ac))))))) ao)
  (ad (aw (aE iW (pv 1) ai) (ae (ah (ap ia hr (ab (pv 0) (ab (pv 1) (ab (pv 2) (ab (pv 3) ac))))))) ao)
  (ad (aw (aE iW (pv 1) ai) (ae (ah (ap ig hr (ab (pv 0) (ab (pv 1) (ab (pv 2) (ab (pv 3) ac))))))) ao)
  (ad (aw (aE iW (pv 1) ai) (ae (ah (ap ij hr (ab (pv 0) (ab (pv 1) (ab (pv 2) (ab (pv 3) ac))))))) ao)
  (ad (aw (aE iW (pv 1) ai) (ae (ah (ap fS hr (ab (pv 0) (ab (pv 1) (ab (pv 2) ac)))))) ao)
  (ad (aw (aE iW (pv 1) ai) (ae (ah (ap ik hr (ab (pv 0) (ab (pv 1) (ab (pv 2) ac)))))) ao)
  (ad (aw (aE iW (pv 1) ai) (ae (ah (ap km hr (ab (pv 0) (ab (pv 1) (ab (pv 2) ac)))))) ao)
  (ae (ah (ap kd hr (ab (pv 0) (ab (pv 1) (ab (pv 2) (ab (pv 3) ac)))))))))))))),?_⟩
 refine ⟨_,rfl,_,_,rfl,rfl,_,rfl,a_ (fun h => ?_) (fun h => ?_)⟩
 ·have h4 : p <= 4 := of_decide_eq_true h; exact ⟨_,rfl,_,rfl,_,rfl,_,rfl,l,wa,ra,t,p,W,X,rfl,S,hW,hX,by omega,h4,hV,k⟩
 have n4 : ¬ p <= 4 := fun z => h (decide_eq_true z)
 clear h; refine ⟨_,rfl,_,_,rfl,rfl,_,rfl,a_ (fun h => ?_) (fun h => ?_)⟩
 ·have h8 : p <= 8 := of_decide_eq_true h; exact ⟨_,rfl,_,rfl,_,rfl,_,rfl,l,wa,ra,t,p,W,X,rfl,S,hW,hX,by omega,h8,hV,k⟩
 have n8 : ¬ p <= 8 := fun z => h (decide_eq_true z)
 clear h; refine ⟨_,rfl,_,_,rfl,rfl,_,rfl,a_ (fun h => ?_) (fun h => ?_)⟩
 ·have h11 : p <= 11 := of_decide_eq_true h; exact ⟨_,rfl,_,rfl,_,rfl,_,rfl,l,wa,ra,t,p,W,X,rfl,S,hW,hX,by omega,h11,hV,k⟩
 have n11 : ¬ p <= 11 := fun z => h (decide_eq_true z)
 clear h; refine ⟨_,rfl,_,_,rfl,rfl,_,rfl,a_ (fun h => ?_) (fun h => ?_)⟩
 ·have h15 : p <= 15 := of_decide_eq_true h; exact ⟨_,rfl,_,rfl,_,rfl,_,rfl,l,wa,ra,t,p,W,X,rfl,S,hW,hX,by omega,h15,hV,k⟩
 have n15 : ¬ p <= 15 := fun z => h (decide_eq_true z)
 clear h; refine ⟨_,rfl,_,_,rfl,rfl,_,rfl,a_ (fun h => ?_) (fun h => ?_)⟩
 ·have h18 : p <= 18 := of_decide_eq_true h; exact ⟨_,rfl,_,rfl,_,rfl,l,wa,t,p,W,X,rfl,S,hW,by omega,h18,hV,k⟩
 have n18 : ¬ p <= 18 := fun z => h (decide_eq_true z)
 clear h; refine ⟨_,rfl,_,_,rfl,rfl,_,rfl,a_ (fun h => ?_) (fun h => ?_)⟩
 ·have h22 : p <= 22 := of_decide_eq_true h; exact ⟨_,rfl,_,rfl,_,rfl,l,wa,t,p,W,X,rfl,S,hW,by omega,h22,hV,k⟩
 have n22 : ¬ p <= 22 := fun z => h (decide_eq_true z)
 clear h; refine ⟨_,rfl,_,_,rfl,rfl,_,rfl,a_ (fun h => ?_) (fun h => ?_)⟩
 ·have h24 : p <= 24 := of_decide_eq_true h; exact ⟨_,rfl,_,rfl,_,rfl,l,wa,t,p,W,X,rfl,S,hW,by omega,h24,hV,k⟩
 have n24 : ¬ p <= 24 := fun z => h (decide_eq_true z)
 clear h; exact ⟨_,rfl,_,rfl,_,rfl,_,rfl,l,wa,ra,t,p,W,X,rfl,S,hW,hX,by omega,hhi,hV,k⟩
end
end Go

namespace Go
open PySem PySem.Spec PyProof.Rows L2
theorem w8 : abz := by
 intro P w K mg base C al f fd T aA TF l7 pc oW m5 oN m9 uK qg p0 kl hE ib gy iB xw nh mY nD lx nr lY lD qj oO pT eB jd gB pb gw fL gx kh o9 o7 fB je nT jg nE kK jh sP qh iN sw qG lJ o8 kG nU iU ii il i7 lO nO m_ kr oG qy ke lU iu gC gA ic i4 nP nq nu kJ nA i9 kH i5 lR nQ nt nI lL ki fH lP mS nj qJ m8 oF sN me j_ nB ja li lN nv hZ fP hC ko ka kE kx F; have a9 := vP (P := P) (w := w) (base := base) l7; have aW := xS pc T a9; have gp := xQ (P := P) (w := w) (base := base) oW T; have bY := wQ (P := P) (w := w) (base := base) m5 T; have oP := x4 (P := P) (w := w) (base := base) oN T; have bH := xc m9 T a9 oP; have aS := aaM (P := P) (w := w) (base := base) uK T; have bX := zH (P := P) (w := w) (base := base) qg T; have cH := y9 p0 T bY; have j7 := uE (P := P) (w := w) (base := base) kl T; have aX := rP (P := P) (w := w) (base := base) hE T; have aY := rT (P := P) (w := w) (base := base) ib T; have bt := qL gy T aY; have aR := sI iB T aX bt; have aZ := ab6 (P := P) (w := w) (base := base) xw T; have fz := wD nh T bX; have nF := wY mY T aX aW a9 fz aZ aS; have m6 := xm nD T aX aW a9 bX aZ aS; have lZ := vN lx T aX aW a9 bX fz aZ aS; have mV := xn nr T aX; have lp := vU lY T aY; have lh := vY lD T aY; have qu := zn qj T aY gp cH; have oS := xU oO T aY bX gp bY aZ aS; have qk := zN (P := P) (w := w) (base := base) pT T; have eI := mK (P := P) (w := w) (base := base) eB T; have cR := tR jd T bH cH eI aS; have bj := q_ (P := P) (w := w) (base := base) gB T; have gt := xL pb T bj; have cG := p4 (P := P) (w := w) (base := base) gw T; have fZ := pO (P := P) (w := w) (base := base) fL T; have cD := qm gx T bH bj bY fZ; have j9 := uu kh T aR aW qk cR aZ; have oU := xV o9 T aR gt bj aW cG cD aZ aS; have oJ := xF o7 T bt gt bj cG cD aZ aS; have fA := o_ (P := P) (w := w) (base := base) fB T; have jc := tx je T bH cH fA aS; have nG := wS nT T aR jc aZ; have bc := tF (P := P) (w := w) (base := base) jg T; have ft := xg (P := P) (w := w) (base := base) nE T; have ci := uT kK T ft bc; have a6 := tS jh T aR; have sx := aar sP T cH ft; have be := zp qh T bH bc sx; have a4 := sv iN T bH bc bY aS; have i8 := aaE (P := P) (w := w) (base := base) sw aA; have bN := zI (P := P) (w := w) (base := base) qG T aA; have a7 := vZ (P := P) (w := w) (base := base) lJ T aA; have gz := xX o8 T aA a7; have kD := uz kG T aA a7; have mI := wy nU T aA gz; have iP := sE iU T nF m6 lZ mV; have ia := rR ii T lp lh qu oS; have ig := rO il T j9 oU oJ; have jf := t8 i7 T bc; have l_ := vS (P := P) (w := w) (base := base) lO T; have mU := wF nO T a6 jf ci aW be a4 aZ; have nW := wO m_ T a6 l_ be a4 aZ; have kg := uO kr T a6 ci aW be a4 aZ; have oY := xG (P := P) (w := w) (base := base) oG T; have cu := yW qy T oY bX; have dR := uF ke T cu; have ll := vT lU T dR; have bh := sy iu T aZ; have d_ := qw (P := P) (w := w) (base := base) gC T; have gD := qP gA T d_; have ie := rM ic T cR cu aS; have dH := ul i4 T a6; have nX := wr nP T aR gD aW ie bh; have mW := wt nq T dH be ll bc bh aS; have mP := xp nu T dH be dR a4 bh; have kC := uY (P := P) (w := w) (base := base) kJ T; have fw := w9 (P := P) (w := w) (base := base) nA T; have jm := ud (P := P) (w := w) (base := base) i9 T; have kI := uC kH T cu; have jp := tJ i5 T kI aS; have lI := vX lR T a6 kC be a4 aZ; have ng := wk nQ T aR jm aZ aS; have m7 := xy nt T a6 fw ci aW be a4 aZ; have mR := xu nI T bt fw jp bh; have ln := vO (P := P) (w := w) (base := base) lL T; have kj := ur ki T cu; have fQ := pN fH T be kj; have lM := v8 lP T aR ln aW fQ bh aS; have mQ := wH mS T bt; have fv := wK (P := P) (w := w) (base := base) nj T; have pW := yP qJ T fv; have mZ := wo m8 T aY pW; have cF := xZ oF T aA bN; have bi := aat sN T aA cF; have fI := v7 me T aA cF; have df := uB j_ T aA fI a7; have m4 := xf nB T aA bi df; have jl := up ja T aA bi df a9; have l0 := vR li T aA bi m4 a9 fv; have lz := vV lN T aA bi bN jl l0 aS; have ny := xk nv T aA aX i8 lz aZ; have ij := rF hZ T nG mU nW kg; have fS := pP fP T nX mW mP; have ik := rL hC T lI m7 ng mR
 have km := uD ko T lM mQ; have kd := uH ka T mZ ny; have j8 := uZ kE T iP ia ig ij fS ik km kd; have kz := uU kx T aA TF a7 kD mI j8; exact zL F T aA j7 i8 bN kz
end Go
theorem PySem.Challenge.cw_arraydesk_s01_answers_holds : PySem.Challenge.rw_arraydesk_s01_answers.Holds := by
 exact Go.main_of Go.w8
#print axioms PySem.Challenge.cw_arraydesk_s01_answers_holds
