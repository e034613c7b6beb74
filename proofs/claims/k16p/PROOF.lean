import PyProof.Rows.All
import Wide.All
import OpenK.AllK
import Wide.FinOn
import Lean
import PyProof.EqAt
import PyProof.EqKinds
import PyProof.TupleCall
import PySem.Challenge.RW_neverwait_k16_trees_and_plain_rings
set_option Elab.async false
set_option linter.all false
set_option maxRecDepth 100000
set_option maxHeartbeats 8000000
namespace L2
open PySem PySem.Spec PyProof.Rows
abbrev Key:=Sum Int Str
def aAH : Key→Value→Bool
 | .inl k,v=>Value.isInt k v
 | .inr x,v=>Value.isStrOf x v
def keyH (w : World) : Key→Int
 | .inl k=>hashInt k
 | .inr x=>hashStr w x
theorem cM : ∀ {k : Key} {v : Value},aAH k v = true→(∃ i t,k = Sum.inl i∧v = Value.int i t)∨(∃ x t,k = Sum.inr x∧v = Value.str x t)
 | .inl i,v,h=>by
  obtain ⟨t,e⟩:=Value.isInt_shape (k:=i) (v:=v) h
  exact .inl ⟨i,t,rfl,e⟩
 | .inr x,v,h=>by
  obtain ⟨t,e⟩:=Value.isStrOf_shape (x:=x) (v:=v) h
  exact .inr ⟨x,t,rfl,e⟩
theorem aBQ (a b : Int) : decide ((Sum.inl a : Key) = Sum.inl b) = (a == b):=by
 by_cases e : a = b
 ·subst e; simp
 ·have h : ¬ (Sum.inl a : Key) = Sum.inl b:=fun q=>e (Sum.inl.inj q)
  rw [decide_eq_false h]
  exact (beq_eq_false_iff_ne.mpr e).symm
theorem aBR (a b : Str) : decide ((Sum.inr a : Key) = Sum.inr b) = decide (a = b):=by
 by_cases e : a = b
 ·subst e; simp
 ·have h : ¬ (Sum.inr a : Key) = Sum.inr b:=fun q=>e (Sum.inr.inj q)
  rw [decide_eq_false h,decide_eq_false e]
theorem aBS (a : Int) (b : Str) : decide ((Sum.inl a : Key) = Sum.inr b) = false:=decide_eq_false (fun q=>nomatch q)
theorem aBT (a : Str) (b : Int) : decide ((Sum.inr a : Key) = Sum.inl b) = false:=decide_eq_false (fun q=>nomatch q)
def tJ (prog : Program) (w : World) : PySem.KeyKind prog w Key where
 is:=aAH
 hash:=keyH w
 inj:=fun v a b ha hb=>by
  rcases cM ha with ⟨i,t,rfl,rfl⟩ | ⟨x,t,rfl,rfl⟩
  ·rcases cM hb with ⟨j,u,rfl,e⟩ | ⟨y,u,rfl,e⟩
   ·injection e with e1 _; rw [e1]
   ·exact nomatch e
  ·rcases cM hb with ⟨j,u,rfl,e⟩ | ⟨y,u,rfl,e⟩
   ·exact nomatch e
   ·injection e with e1 _; rw [e1]
 byValue:=fun k v h=>by
  rcases cM h with ⟨i,t,rfl,rfl⟩ | ⟨x,t,rfl,rfl⟩ <;> rfl
 pyHash:=fun hv h=>by
  rcases cM hv with ⟨i,t,rfl,rfl⟩ | ⟨x,t,rfl,rfl⟩
  ·exact wpAny_pyHash_int h
  ·exact wpAny_pyHash_str h
 eqBool:=fun hu hv h=>by
  rcases cM hu with ⟨i,t,rfl,rfl⟩ | ⟨x,t,rfl,rfl⟩
  ·rcases cM hv with ⟨j,u,rfl,rfl⟩ | ⟨y,u,rfl,rfl⟩
   ·rw [aBQ] at h; exact wpAny_eqBool_int h
   ·rw [aBS] at h; exact SeqAt.EqAt.int_str i t y u _ _ _ _ h
  ·rcases cM hv with ⟨j,u,rfl,rfl⟩ | ⟨y,u,rfl,rfl⟩
   ·rw [aBT] at h; exact SeqAt.EqAt.str_int x t j u _ _ _ _ h
   ·rw [aBR] at h; exact wpAny_eqBool_str h
 «strs»:=fun k x t v h=>by
  rcases cM h with ⟨i,u,rfl,e⟩ | ⟨y,u,rfl,e⟩
  ·exact nomatch e
  ·injection e with e1 _
   subst e1
   cases v <;> rfl
end L2
namespace L2
open PySem PySem.Spec PyProof.Rows
inductive V where
 | non | bl (b : Bool) | int (i : Int) | str (x : Str) | byt (b : Array UInt8) | flt (b : UInt64) | ref (a : Addr) | ty (n : String)
 deriving DecidableEq
def RelV : V→Value→Prop
 | .non,u=>u = Value.none
 | .bl b,u=>u = Value.bool b
 | .int i,u=>∃ t,u = Value.int i t
 | .str x,u=>∃ t,u = Value.str x t
 | .byt b,u=>∃ t,u = Value.bytes b t
 | .flt b,u=>∃ t,u = Value.float b t
 | .ref a,u=>u = Value.ref a
 | .ty n,u=>u = Value.type n
abbrev Vals : List V→List Value→Prop:=Paired RelV
theorem Vals.length {xs : List V} {us : List Value} (r : Vals xs us) : xs.length = us.length:=Paired.length r
theorem Vals.get : ∀ {xs : List V} {us : List Value} {i : Nat} {x : V},Vals xs us→xs[i]? = some x→∃ u,us[i]? = some u∧RelV x u
 | _,_,_,_,.nil,e=>by simp at e
 | _,_,0,_,.cons r _,e=>by simp at e; subst e; exact ⟨_,rfl,r⟩
 | _,_,i + 1,x,.cons _ t,e=>by
  obtain ⟨u,h1,h2⟩:=Vals.get (i:=i) (x:=x) t (by simpa using e)
  exact ⟨u,by simpa using h1,h2⟩
theorem Vals.set {x : V} {u : Value} (r : RelV x u) : ∀ {xs : List V} {us : List Value} (i : Nat),Vals xs us→Vals (xs.set i x) (us.set i u)
 | _,_,_,.nil=>.nil
 | _,_,0,.cons _ t=>.cons r t
 | _,_,i + 1,.cons q t=>.cons q (Vals.set r i t)
theorem Vals.append : ∀ {xs ys : List V} {us ws : List Value},Vals xs us→Vals ys ws→Vals (xs ++ ys) (us ++ ws)
 | _,_,_,_,.nil,s=>s
 | _,_,_,_,.cons r t,s=>.cons r (Vals.append t s)
theorem Vals.take : ∀ {xs : List V} {us : List Value} (n : Nat),Vals xs us→Vals (xs.take n) (us.take n)
 | _,_,0,_=>.nil
 | _,_,_ + 1,.nil=>.nil
 | _,_,n + 1,.cons r t=>.cons r (Vals.take n t)
theorem Vals.drop : ∀ {xs : List V} {us : List Value} (n : Nat),Vals xs us→Vals (xs.drop n) (us.drop n)
 | _,_,0,r=>r
 | _,_,_ + 1,.nil=>.nil
 | _,_,n + 1,.cons _ t=>Vals.drop n t
def RelO : Option V→Option Value→Prop
 | some v,some u=>RelV v u
 | none,none=>True
 | _,_=>False
def KV {κ : Type} : List (κ × V)→List (κ × Value)→Prop:=Paired fun (p : κ × V) (q : κ × Value)=>p.1 = q.1∧RelV p.2 q.2
def kV : Key→V
 | .inl i=>.int i
 | .inr x=>.str x
inductive HO where
 | lst (xs : List V)
 | tup (xs : List V)
 | dK (kvs : List (Key × V)) | dT (kvs : List (List Key × V))
 | set (S : Int→Bool) (n : Nat)
 | ins (C dx : Addr) (fs : List (Str × V))
 | own (x : Addr)
 | xd (fs : List (Str × V))
 | met (f x : Addr)
 | rng (lo hi : Int)
 | frz (o : Obj) (u : HO)
 | tbl (ps : Array Value)
 | ext (φ : Heap→Prop)
abbrev Hp:=Addr→Option HO
def upd (H : Hp) (a : Addr) (o : HO) : Hp:=fun b=>if b = a then some o else H b
theorem aD {H : Hp} {a : Addr} {o : HO} : upd H a o a = some o:=by unfold upd; rw [if_pos rfl]
theorem aI {H : Hp} {a b : Addr} {o : HO} (h : b ≠ a) : upd H a o b = H b:=by unfold upd; rw [if_neg h]
theorem kG {H : Hp} {a : Addr} {o u : HO} : upd (upd H a o) a u = upd H a u:=by
 funext b; unfold upd; split <;> rfl
theorem cY {H : Hp} {a b : Addr} {o u : HO} (h : H a = some o) (h' : H b = some u) (d : o ≠ u) : a ≠ b:=by
 intro e; subst e; rw [h] at h'; exact d (Option.some.inj h')
theorem aM {H : Hp} {a b : Addr} {o : HO} (h : H a = some o) (h' : H b = none) : a ≠ b:=by
 intro e; subst e; rw [h] at h'; cases h'
section
variable (P : Program) (w : World)
def iG (h : Heap) (a : Addr) (items : Array Value) : Prop:=∃ o,h.get? a = some o∧o.cls = .type "tuple" ∧ ∃ n,o.data = .seq items n∧o.dict = none
theorem iG.tup {h : Heap} {a : Addr} {items : Array Value} (p : iG h a items) : IsTup h a items:=let ⟨o,e,c,n,d,_⟩:=p; ⟨o,e,c,n,d⟩
theorem iG.new (h : Heap) (items : Array Value) : iG (h.push { cls:=.type "tuple",data:=.seq items }) h.objs.size items:=⟨_,Heap.get?_push_size _ rfl,rfl,_,rfl,rfl⟩
def bX (H : Hp) (h : Heap) (a : Addr) : HO→Prop
 | .lst xs=>xs.length ≤ sizeLine∧∃ (its : List Value) (n : Nat),Vals xs its∧h.get? a = some { cls:=.type "list",data:=.seq its.toArray n }
 | .tup xs=>xs.length ≤ sizeLine∧∃ its : List Value,Vals xs its∧iG h a its.toArray
 | .dK kvs=>kvs.length ≤ sizeLine∧(a == sysModules) = false∧∃ vs,KV kvs vs∧h.DictOf (tJ P w) a vs
 | .dT kvs=>kvs.length ≤ sizeLine∧(a == sysModules) = false∧∃ xs : List (List Key × Addr × Value),
   Paired (fun (p : List Key × V) (q : List Key × Addr × Value)=>p.1 = q.1∧H q.2.1 = some (.tup (p.1.map kV))∧RelV p.2 q.2.2) kvs xs ∧
   ∃ o es ep,h.get? a = some o∧o.ExactDict∧o.data = .dict es ep∧es.toList = xs.map (entryOfKey (tupleKind (tJ P w)))∧(xs.map (·.1)).Nodup
 | .set S n=>h.SetOf (intKind P w) a S n
 | .ins C dx fs=>H dx = some (.own a)∧fs.length ≤ 1000∧dx ≠ a∧h.get? a = some (PySem.W.instObj C dx) ∧
   ∃ mA,h.Ns1 dx mA∧(∀ f,RelO (fs.lookup f) (mA f))∧PySem.Within mA (fs.map (·.1))
 | .own _=>∃ o,h.get? a = some o
 | .xd fs=>∃ mA,h.Ns1 a mA∧∀ f,RelO (fs.lookup f) (mA f)
 | .rng lo hi=>∃ t u v,h.get? a = some { cls:=.type "range",data:=.fields #[.int lo t,.int hi u,.int 1 v] }
 | .frz o u=>h.get? a = some o∧bX H h a u
 | .tbl ps=>h.get? a = some { cls:=.none,data:=.fields ps }
 | .met f x=>h.get? a = some (PySem.W.methodObj (.ref f) (.ref x))
 | .ext φ=>φ h∧(∃ o,h.get? a = some o)∧∀ h1 h2 : Heap,φ h1→(∀ o,h1.get? a = some o→h2.get? a = some o)→φ h2
def HOk (H : Hp) (h : Heap) : Prop:=∀ a o,H a = some o→bX P w H h a o
end
section
variable {P : Program} {w : World} {H H' : Hp} {h h' : Heap} {a : Addr} {o : HO}
theorem bX.lt (x : bX P w H h a o) : a < h.objs.size:=by
 cases o with
 | lst xs=>obtain ⟨_,_,_,_,e⟩:=x; exact Heap.lt_size e
 | tup xs=>obtain ⟨_,_,_,p⟩:=x; exact p.tup.lt
 | dK kvs=>obtain ⟨_,_,_,_,o,_,_,e,_⟩:=x; exact Heap.lt_size e
 | dT kvs=>obtain ⟨_,_,_,_,o,_,_,e,_⟩:=x; exact Heap.lt_size e
 | set S n=>obtain ⟨o,_,_,_,e,_⟩:=x; exact Heap.lt_size e
 | ins C dx fs=>obtain ⟨_,_,_,e,_⟩:=x; exact Heap.lt_size e
 | own y=>obtain ⟨_,e⟩:=x; exact Heap.lt_size e
 | xd fs=>obtain ⟨_,⟨_,_,_,e,_⟩,_⟩:=x; exact Heap.lt_size e
 | rng lo hi=>obtain ⟨_,_,_,e⟩:=x; exact Heap.lt_size e
 | frz ob u=>obtain ⟨e,_⟩:=x; exact Heap.lt_size e
 | tbl ps=>exact Heap.lt_size (show h.get? a = some _ from x)
 | met f y=>exact Heap.lt_size (show h.get? a = some _ from x)
 | ext φ=>obtain ⟨_,⟨_,e⟩,_⟩:=x; exact Heap.lt_size e
theorem Paired.mapP {α β : Type} {F G : α→β→Prop} : ∀ {l₁ : List α} {l₂ : List β},Paired F l₁ l₂→(∀ a b,F a b→G a b)→Paired G l₁ l₂
 | _,_,.nil,_=>.nil
 | _,_,.cons r t,f=>.cons (f _ _ r) (Paired.mapP t f)
theorem bX.stay (x : bX P w H h a o) (k : ∀ b u,(b = a∨H b = some (.own a))→h.get? b = some u→h'.get? b = some u)
  (ho : ∀ b,H b = some (.own a)→H' b = some (.own a)) (ht : ∀ b xs,H b = some (.tup xs)→H' b = some (.tup xs)) : bX P w H' h' a o:=by
 induction o with
 | lst xs=>obtain ⟨z,its,n,r,e⟩:=x; exact ⟨z,its,n,r,k _ _ (.inl rfl) e⟩
 | tup xs=>obtain ⟨z,its,r,ob,e,c⟩:=x; exact ⟨z,its,r,ob,k _ _ (.inl rfl) e,c⟩
 | dK kvs=>obtain ⟨z,y,vs,r,ob,es,ep,e,c⟩:=x; exact ⟨z,y,vs,r,ob,es,ep,k _ _ (.inl rfl) e,c⟩
 | dT kvs =>
  obtain ⟨z,y,xs,r,ob,es,ep,e,c⟩:=x
  exact ⟨z,y,xs,Paired.mapP r fun p q z=>⟨z.1,ht _ _ z.2.1,z.2.2⟩,ob,es,ep,k _ _ (.inl rfl) e,c⟩
 | set S n=>obtain ⟨ob,es,ep,t,e,c⟩:=x; exact ⟨ob,es,ep,t,k _ _ (.inl rfl) e,c⟩
 | ins C dx fs =>
  obtain ⟨d,z,ne,e,mA,⟨od,es,ep,e2,c⟩,r⟩:=x
  exact ⟨ho _ d,z,ne,k _ _ (.inl rfl) e,mA,⟨od,es,ep,k _ _ (.inr d) e2,c⟩,r⟩
 | own y=>obtain ⟨ob,e⟩:=x; exact ⟨ob,k _ _ (.inl rfl) e⟩
 | xd fs=>obtain ⟨mA,⟨od,es,ep,e,c⟩,r⟩:=x; exact ⟨mA,⟨od,es,ep,k _ _ (.inl rfl) e,c⟩,r⟩
 | rng lo hi=>obtain ⟨t,u,v,e⟩:=x; exact ⟨t,u,v,k _ _ (.inl rfl) e⟩
 | frz ob u ih=>obtain ⟨e,q⟩:=x; exact ⟨k _ _ (.inl rfl) e,ih q⟩
 | tbl ps =>
  have e : h.get? a = some { cls:=.none,data:=.fields ps }:=x
  show h'.get? a = some { cls:=.none,data:=.fields ps }
  exact k a _ (.inl rfl) e
 | met f y =>
  have e : h.get? a = some (PySem.W.methodObj (.ref f) (.ref y)):=x
  show h'.get? a = some (PySem.W.methodObj (.ref f) (.ref y))
  exact k a _ (.inl rfl) e
 | ext φ=>obtain ⟨p,⟨o,e⟩,st⟩:=x; exact ⟨st _ _ p fun o q=>k _ _ (.inl rfl) q,⟨o,k _ _ (.inl rfl) e⟩,st⟩
theorem HOk.lt (x : HOk P w H h) (e : H a = some o) : a < h.objs.size:=(x a o e).lt
theorem HOk.fresh (x : HOk P w H h) (e : h.objs.size ≤ a) : H a = none:=by
 cases q : H a with
 | none=>rfl
 | some u=>exact absurd (Nat.lt_of_lt_of_le (x.lt q) e) (Nat.lt_irrefl _)
theorem HOk.kept (x : HOk P w H h) (k : ∀ b u,h.get? b = some u→h'.get? b = some u) : HOk P w H h':=fun a o e =>
 (x a o e).stay (fun b u _ q=>k b u q) (fun _ q=>q) fun _ _ q=>q
theorem HOk.laid (x : HOk P w H h) (k : ∀ b u,h.get? b = some u→h'.get? b = some u) (hp : h.objs.size ≤ a) (new : bX P w (upd H a o) h' a o) : HOk P w (upd H a o) h':=fun b u e=>by
 have hn:=x.fresh hp
 by_cases hb : b = a
 ·subst hb; rw [aD] at e; cases e; exact new
 ·rw [aI hb] at e
  exact (x b u e).stay (fun c v _ q=>k c v q) (fun c q=>by rw [aI (aM q hn)]; exact q) fun c xs q=>by rw [aI (aM q hn)]; exact q
end
def Rd (H : Hp) (a : Addr) (u : HO) : Prop:=H a = some u∨∃ o,H a = some (.frz o u)
theorem Rd.ok {P : Program} {w : World} {H : Hp} {h : Heap} {a : Addr} {u : HO} (r : Rd H a u) (x : HOk P w H h) : bX P w H h a u:=by
 rcases r with r | ⟨o,r⟩
 ·exact x a u r
 ·obtain ⟨_,q⟩:=x a _ r
  exact q
def Mut : Option HO→Prop
 | some (.lst _)=>True
 | some (.dK _)=>True
 | some (.dT _)=>True
 | some (.set _ _)=>True
 | some (.ins _ _ _)=>True
 | some (.ext _)=>True
 | _=>False
section
variable {P : Program} {w : World} {H : Hp} {h h' : Heap} {x e : Addr} {o' : HO}
theorem HOk.write (ok : HOk P w H h) (mu : Mut (H x)) (he : e = x∨H e = some (.own x)) (k : ∀ b u,b ≠ e→h.get? b = some u→h'.get? b = some u) (heo : ∃ u,h'.get? e = some u)
  (new : bX P w (upd H x o') h' x o') : HOk P w (upd H x o') h':=fun b u q=>by
 have nown : ∀ c y,H c = some (.own y)→c ≠ x:=fun c y r z=>by subst z; rw [r] at mu; exact mu
 have ntup : ∀ c xs,H c = some (.tup xs)→c ≠ x:=fun c xs r z=>by subst z; rw [r] at mu; exact mu
 by_cases hb : b = x
 ·subst hb; rw [aD] at q; cases q; exact new
 ·rw [aI hb] at q
  by_cases hbe : b = e
  ·have q' : H b = some (.own x):=by
    rcases he with z | z
    ·exact absurd (hbe.trans z) hb
    ·rw [hbe]; exact z
   rw [q] at q'; cases q'
   obtain ⟨v,hv⟩:=heo
   exact ⟨v,by rw [hbe]; exact hv⟩
  ·refine (ok b u q).stay (fun c v hc r=>k c v ?_ r) (fun c r=>by rw [aI (nown c b r)]; exact r) fun c xs r=>by rw [aI (ntup c xs r)]; exact r
   rcases hc with rfl | hc
   ·exact hbe
   ·rintro rfl
    rcases he with z | z
    ·exact nown c b hc z
    ·rw [hc] at z; cases z; exact hb rfl
end
structure Un (fs ex : List Addr) (H H' : Hp) (h h' : Heap) : Prop where
 keep : ∀ b o,h.get? b = some o→H b = none→b ∉ fs→b ∉ ex→h'.get? b = some o
 slot : ∀ b o,h.get? b = some o→H b = none→b∈fs→b ∉ ex→∃ sl,h'.get? b = some { o with slots:=sl }
 free : ∀ b o,h.get? b = some o→H b = none→b ∉ ex→H' b = none
 there : ∀ b o,h.get? b = some o→b ∉ ex→∃ o',h'.get? b = some o'
 tups : ∀ b xs,H b = some (.tup xs)→H' b = some (.tup xs)
 frzs : ∀ b o u,H b = some (.frz o u)→H' b = some (.frz o u)
 tbls : ∀ b ps,H b = some (.tbl ps)→∃ more,H' b = some (.tbl (ps ++ more))
section
variable {fs fs' ex ex' : List Addr} {H H1 H2 : Hp} {h h1 h2 h' : Heap} {a x e : Addr} {o : HO}
theorem Un.any (u : Un fs ex H H1 h h1) {b : Addr} {ob : Obj} (q : h.get? b = some ob) (n : H b = none) (hx : b ∉ ex) : ∃ sl,h1.get? b = some { ob with slots:=sl }:=by
 by_cases hb : b∈fs
 ·exact u.slot b ob q n hb hx
 ·exact ⟨ob.slots,u.keep b ob q n hb hx⟩
theorem Un.kept (k : ∀ b u,h.get? b = some u→h'.get? b = some u) : Un fs ex H H h h' :=
 ⟨fun b ob q _ _ _=>k b ob q,fun b ob q _ _ _=>⟨ob.slots,k b ob q⟩,fun _ _ _ n _=>n,fun b ob q _=>⟨ob,k b ob q⟩,fun _ _ q=>q,fun _ _ _ q=>q,fun _ ps q=>⟨#[],by rw [q]; simp⟩⟩
theorem Un.refl : Un fs ex H H h h:=Un.kept fun _ _ q=>q
theorem Un.laid (k : ∀ b u,h.get? b = some u→h'.get? b = some u) (hp : h.objs.size ≤ a) (hn : H a = none) : Un fs ex H (upd H a o) h h' where
 keep:=fun b u q _ _ _=>k b u q
 slot:=fun b u q _ _ _=>⟨u.slots,k b u q⟩
 free:=fun b u q n _=>by rw [aI (Nat.ne_of_lt (Nat.lt_of_lt_of_le (Heap.lt_size q) hp))]; exact n
 there:=fun b u q _=>⟨u,k b u q⟩
 tups:=fun b xs q=>by rw [aI (aM q hn)]; exact q
 frzs:=fun b u xs q=>by rw [aI (aM q hn)]; exact q
 tbls:=fun b ps q=>⟨#[],by rw [aI (aM q hn),q]; simp⟩
theorem Un.write (mu : Mut (H x)) (he : e = x∨H e = some (.own x)) (k : ∀ b u,b ≠ e→h.get? b = some u→h'.get? b = some u) (heo : ∃ u,h'.get? e = some u) : Un fs ex H (upd H x o) h h':=by
 have hx : ∀ b,H b = none→b ≠ x:=fun b n z=>by subst z; rw [n] at mu; exact mu
 have hb : ∀ b,H b = none→b ≠ e:=fun b n z=>by
  subst z
  rcases he with r | r
  ·exact hx b n r
  ·rw [n] at r; cases r
 have hm : ∀ b u,H b = some u→¬ Mut (some u)→b ≠ x:=fun b u q nm z=>by subst z; rw [q] at mu; exact nm mu
 refine ⟨fun b u q n _ _=>k b u (hb b n) q,fun b u q n _ _=>⟨u.slots,k b u (hb b n) q⟩,fun b u q n _=>by rw [aI (hx b n)]; exact n,fun b u q _=>?_,
  fun b xs q=>by rw [aI (hm b _ q fun z=>z)]; exact q,fun b u xs q=>by rw [aI (hm b _ q fun z=>z)]; exact q,fun b ps q=>⟨#[],by rw [aI (hm b _ q fun z=>z),q]; simp⟩⟩
 by_cases hbe : b = e
 ·subst hbe; exact heo
 ·exact ⟨u,k b u hbe q⟩
end
def trk (h : Heap) (H : Hp) : List Addr:=(List.range h.objs.size).filter fun a=>(H a).isSome
def hidT (h : Heap) (H : Hp) : Heap:=PySem.W.hideAll h (trk h H)
theorem xA (h : Heap) (H : Hp) : (hidT h H).objs.size = h.objs.size:=PySem.W.hideAll_size _ _
theorem zU {h : Heap} {H : Hp} {b : Addr} {o : Obj} (e : h.get? b = some o) (n : H b = none) : (hidT h H).get? b = some o :=
 PySem.W.hideAll_get _ e fun hm=>by
  have q : (H b).isSome = true:=(List.mem_filter.mp hm).2
  rw [n] at q; simp at q
theorem aAW {h : Heap} {H : Hp} {b : Addr} {o : Obj} (e : (hidT h H).get? b = some o) : h.get? b = some o∧H b = none:=by
 have e' : h.get? b = some o:=PySem.W.of_hideAll (trk h H) e
 refine ⟨e',?_⟩
 cases q : H b with
 | none=>rfl
 | some x =>
  have hm : b∈trk h H:=List.mem_filter.mpr ⟨List.mem_range.mpr (Heap.lt_size e'),by simp [q]⟩
  have z : (hidT h H).get? b = none:=PySem.W.hideAll_none (trk h H) hm
  rw [z] at e; cases e
def fF (g h : Heap) (L : Addr) : List (Addr × Obj):=(List.range h.objs.size).filterMap fun a=>if a = L∨(g.get? a).isSome = true then none else (h.get? a).map fun o=>(a,o)
theorem iD {g h : Heap} {L a : Addr} {o : Obj} (h1 : a ≠ L) (h2 : g.get? a = none) (h3 : h.get? a = some o) : (a,o)∈fF g h L :=
 List.mem_filterMap.mpr ⟨a,List.mem_range.mpr (Heap.lt_size h3),by simp [h1,h2,h3]⟩
theorem mX {g h : Heap} {L : Addr} {p : Addr × Obj} (hp : p∈fF g h L) : p.1 ≠ L∧g.get? p.1 = none∧h.get? p.1 = some p.2:=by
 obtain ⟨b,_,e⟩:=List.mem_filterMap.mp hp
 split at e
 ·cases e
 ·rename_i hn
  cases q : h.get? b with
  | none=>rw [q] at e; simp at e
  | some u =>
   rw [q] at e
   simp only [Option.map_some,Option.some.injEq] at e
   subst e
   refine ⟨fun z=>hn (.inl z),?_,q⟩
   show g.get? b = none
   cases r : g.get? b with
   | none=>rfl
   | some v=>exact (hn (.inr (by simp [r]))).elim
theorem zV {g h : Heap} {L : Addr} : News g L h (fF g h L):=fun p hp=>let ⟨a,b,c⟩:=mX hp; ⟨c,a,b⟩
end L2
namespace L2
open PySem PySem.Spec PyProof.Rows
structure Mod (K : PySem.W.Frag) (mg : Str→Option Value) (base : Heap) : Prop where
 kin : K.In base
 glob : base.Ns mainGlobals mg
 blt : ∃ mb,base.Ns builtinsNs mb∧∀ x : Str,x ≠ "__name__" → mb x = bootBuiltins x
 nolimit : base.NoLimit
structure Cx where
 prog : Program
 w : World
 K : PySem.W.Frag
 mg : Str→Option Value
 base : Heap
 A : Around
 N : List Str
 s₀ : Shared
 H₀ : Hp
 env : Env
 outer : List Env
 stack : List Env
 ex : List Addr
 fn : Str→Bool
 calm : Bool
 pn : List (Addr × Obj)
 xe : Value→Shared→Prop
def frs (l : List Env) : List Addr:=l.filterMap (·.frame)
abbrev Cx.fs (X : Cx) : List Addr:=frs X.outer
def Vis (sc : Scope) (x : Str) : Prop:=sc.names.lookup x = some .local∨sc.names.lookup x = some .cell∨sc.names.lookup x = some .free
def Loc (sc : Scope) (x : Str) : Prop:=sc.names.lookup x = some .local∨sc.names.lookup x = some .cell
def Look (env : Env) (h : Heap) (m : Str→Option Value) (x : Str) (u : Value) : Prop :=
 (env.kindOf x = some .local∧m x = some u)∨((env.kindOf x = some .cell∨env.kindOf x = some .free)∧∃ c,env.cells.lookup x = some c∧h.IsCell c (some u))
structure Cx.Ok (X : Cx) : Prop where
 mod : Mod X.K X.mg X.base
 kind : X.env.scope.kind = .function
 glob : X.env.globals = mainGlobals
 blt : X.env.builtins = builtinsNs
 above : X.s₀.heap.objs.size ≤ X.env.locals
 inj : ∀ x y c,X.env.cells.lookup x = some c→X.env.cells.lookup y = some c→x = y
 has : ∀ x,(X.env.kindOf x = some .cell∨X.env.kindOf x = some .free)→∃ c,X.env.cells.lookup x = some c
 cab : ∀ x c,X.fn x = true→X.env.cells.lookup x = some c→X.s₀.heap.objs.size ≤ c
 hd : X.calm = true→X.A.handled = none
 frames : X.A.frames = some X.stack
 stk : X.stack = X.outer∨(X.stack = X.env :: X.outer∧X.env.frame = some X.env.locals)
 exf : ∀ b∈X.ex,b ≠ X.env.locals∧∀ x c,X.env.cells.lookup x = some c→c ≠ b
 bs : ∀ b o,X.base.get? b = some o→X.s₀.heap.get? b = some o∧X.H₀ b = none
 bsz : X.base.objs.size ≤ X.s₀.heap.objs.size
 noex : ∀ b o,X.base.get? b = some o→b ∉ X.ex
 exfs : ∀ b∈X.ex,b ∉ X.fs
 funs : X.s₀.heap.FunFrames X.base X.outer
 frf : ∀ b∈X.fs,X.H₀ b = none
structure Inv (X : Cx) (pins : List (Addr × Obj)) (σ : List (Option V)) (H : Hp) (s : Shared) : Prop where
 ok : X.Ok
 os : s.os = X.s₀.os
 bare : AllBare s.gens
 base : Un X.fs X.ex X.H₀ H X.s₀.heap s.heap
 loc : ∃ m,s.heap.Ns X.env.locals m∧∀ (i : Nat) (x : Str) (v : V),X.N[i]? = some x→σ[i]? = some (some v)→Vis X.env.scope x→∃ u,RelV v u∧Look X.env s.heap m x u
 cell : ∀ x c,X.env.cells.lookup x = some c→∃ v,s.heap.IsCell c v
 free : H X.env.locals = none
 freeC : ∀ x c,X.env.cells.lookup x = some c→H c = none
 pin : ∀ p∈X.pn ++ pins,s.heap.get? p.1 = some p.2∧H p.1 = none∧p.1 ≠ X.env.locals∧p.1 ∉ X.fs∧∀ v,p.2.data ≠ .cell v
 hok : HOk X.prog X.w H s.heap
 len : σ.length = X.N.length
section
variable {X : Cx} {pins : List (Addr × Obj)} {σ : List (Option V)} {H H' : Hp} {s : Shared} {h' : Heap}
theorem Cx.Ok.nofr (ok : X.Ok) {b : Addr} {o : Obj} (e : X.base.get? b = some o) : b ∉ X.fs:=fun hb=>by
 have:=(ok.funs.mem hb).1
 rw [e] at this; cases this
theorem Inv.bs (I : Inv X pins σ H s) : ∀ b o,X.base.get? b = some o→s.heap.get? b = some o∧H b = none:=fun b o e =>
 ⟨I.base.keep b o (I.ok.bs b o e).1 (I.ok.bs b o e).2 (I.ok.nofr e) (I.ok.noex b o e),I.base.free b o (I.ok.bs b o e).1 (I.ok.bs b o e).2 (I.ok.noex b o e)⟩
theorem Inv.bk (I : Inv X pins σ H s) : ∀ b o,X.base.get? b = some o→s.heap.get? b = some o:=fun b o e=>(I.bs b o e).1
theorem Inv.mod (I : Inv X pins σ H s) : Mod X.K X.mg X.base:=I.ok.mod
theorem Inv.kIn (I : Inv X pins σ H s) : X.K.In s.heap:=I.ok.mod.kin.keeps I.bk
theorem Inv.fr (I : Inv X pins σ H s) : ∃ m,Fr X.base X.env.locals s.heap m :=
 let ⟨m,hn,_⟩:=I.loc
 ⟨m,hn,I.bk,Nat.le_trans I.ok.bsz I.ok.above⟩
theorem Inv.lt (I : Inv X pins σ H s) : X.env.locals < s.heap.objs.size:=let ⟨_,hn,_⟩:=I.loc; hn.lt
theorem Inv.sz (I : Inv X pins σ H s) : X.s₀.heap.objs.size ≤ s.heap.objs.size:=Nat.le_trans I.ok.above (Nat.le_of_lt I.lt)
theorem Inv.nofs (I : Inv X pins σ H s) {a : Addr} (h : s.heap.objs.size ≤ a) : a ∉ X.fs:=fun hb=>by
 obtain ⟨_,o,ho,_⟩:=I.ok.funs.mem hb
 exact absurd (Nat.lt_of_lt_of_le (Heap.lt_size ho) (Nat.le_trans I.sz h)) (Nat.lt_irrefl _)
theorem Inv.cne (I : Inv X pins σ H s) : ∀ x c,X.env.cells.lookup x = some c→c ≠ X.env.locals:=fun x c e z=>by
 obtain ⟨v,o,ho,hd⟩:=I.cell x c e
 obtain ⟨m,⟨o',es,ep,ho',hd',_⟩,_⟩:=I.loc
 rw [z,ho'] at ho; cases ho; rw [hd'] at hd; cases hd
theorem Inv.funs (I : Inv X pins σ H s) : s.heap.FunFrames X.base X.outer:=by
 have all : ∀ (l : List Env),(∀ b∈frs l,b∈X.fs)→X.s₀.heap.FunFrames X.base l→s.heap.FunFrames X.base l:=by
  intro l
  induction l with
  | nil=>intro _ _; trivial
  | cons env r ih =>
   intro hs hl
   obtain ⟨hk,⟨L,o,hf,hn,ho,hd⟩,hr⟩:=hl
   have hL : L∈X.fs:=hs L (by unfold frs; rw [List.filterMap_cons,hf]; exact List.mem_cons_self)
   obtain ⟨sl,e⟩:=I.base.slot L o ho (I.ok.frf L hL) hL fun z=>I.ok.exfs L z hL
   exact ⟨hk,⟨L,_,hf,hn,e,hd⟩,ih (fun b hb=>hs b (by unfold frs; rw [List.filterMap_cons,hf]; exact List.mem_cons_of_mem _ hb)) hr⟩
 exact all X.outer (fun _ hb=>hb) I.ok.funs
theorem Inv.stack (I : Inv X pins σ H s) : s.heap.FunFrames X.base X.stack:=by
 rcases I.ok.stk with e | ⟨e,hf⟩
 ·rw [e]; exact I.funs
 ·rw [e]
  obtain ⟨m,hn,_⟩:=I.loc
  refine .cons (by rw [I.ok.kind]; decide) hf hn ?_ I.funs
  exact Heap.get?_none_of_le (Nat.le_trans I.ok.bsz I.ok.above)
theorem Inv.stkSub (I : Inv X pins σ H s) : ∀ b∈frs X.stack,b∈X.env.locals :: X.fs:=fun b hb=>by
 rcases I.ok.stk with e | ⟨e,hf⟩
 ·rw [e] at hb; exact List.mem_cons_of_mem _ hb
 ·rw [e] at hb
  unfold frs at hb
  rw [List.filterMap_cons,hf] at hb
  exact hb
theorem Inv.stkFree (I : Inv X pins σ H s) : ∀ b∈frs X.stack,H b = none:=fun b hb=>by
 rcases List.mem_cons.mp (I.stkSub b hb) with e | hb
 ·rw [e]; exact I.free
 ·obtain ⟨_,o,ho,_⟩:=I.ok.funs.mem hb
  exact I.base.free b o ho (I.ok.frf b hb) fun z=>I.ok.exfs b z hb
theorem Inv.step {g' : Array GenState} {t' : Nat} {d' : Drawn} {ch : List Addr} (I : Inv X pins σ H s)
  (hch : ∀ b∈ch,(b∈X.ex∨X.s₀.heap.objs.size ≤ b)∧b ≠ X.env.locals∧(∀ x c,X.env.cells.lookup x = some c→c ≠ b)∧∀ p∈X.pn ++ pins,p.1 ≠ b)
  (keep : ∀ b o,b ≠ X.env.locals→b ∉ X.fs→b ∉ ch→s.heap.get? b = some o→H b = none→h'.get? b = some o)
  (slot : ∀ b o,b ≠ X.env.locals→b∈X.fs→b ∉ ch→s.heap.get? b = some o→H b = none→∃ sl,h'.get? b = some { o with slots:=sl }) (free : ∀ b o,b ∉ ch→s.heap.get? b = some o→H b = none→H' b = none)
  (there : ∀ b o,b ∉ ch→s.heap.get? b = some o→∃ o',h'.get? b = some o')
  (tups : ∀ b xs,H b = some (.tup xs)→H' b = some (.tup xs)) (frzs : ∀ b o u,H b = some (.frz o u)→H' b = some (.frz o u)) (tbls : ∀ b ps,H b = some (.tbl ps)→∃ more,H' b = some (.tbl (ps ++ more)))
  (ns : ∀ m,s.heap.Ns X.env.locals m→h'.Ns X.env.locals m) (hok : HOk X.prog X.w H' h') (hg : AllBare g') :
  Inv X pins σ H' { s with heap:=h',gens:=g',drawn:=d',toks:=t' }:=by
 have neL : ∀ b o,X.s₀.heap.get? b = some o→b ≠ X.env.locals:=fun b o e=>Nat.ne_of_lt (Nat.lt_of_lt_of_le (Heap.lt_size e) I.ok.above)
 have neC : ∀ b o,X.s₀.heap.get? b = some o→b ∉ X.ex→b ∉ ch:=fun b o e hx hb=>by
  rcases (hch b hb).1 with z | z
  ·exact hx z
  ·exact absurd (Nat.lt_of_lt_of_le (Heap.lt_size e) z) (Nat.lt_irrefl _)
 have cellK : ∀ x c,X.env.cells.lookup x = some c→∀ v,s.heap.IsCell c v→h'.IsCell c v:=fun x c e v ⟨o,ho,hd⟩=>by
  have nch : c ∉ ch:=fun z=>(hch c z).2.2.1 x c e rfl
  by_cases hc : c∈X.fs
  ·obtain ⟨sl,q⟩:=slot c o (I.cne x c e) hc nch ho (I.freeC x c e)
   exact ⟨_,q,hd⟩
  ·exact ⟨o,keep c o (I.cne x c e) hc nch ho (I.freeC x c e),hd⟩
 refine ⟨I.ok,I.os,hg,⟨fun b o e n hb hx=>?_,fun b o e n hb hx=>?_,fun b o e n hx=>?_,fun b o e hx=>?_,fun b xs e=>tups b xs (I.base.tups b xs e),fun b o xs e=>frzs b o xs (I.base.frzs b o xs e),fun b ps e=>?_⟩,?_,fun x c e=>?_,?_,fun x c e=>?_,fun p hp=>?_,hok,I.len⟩
 ·exact keep b o (neL b o e) hb (neC b o e hx) (I.base.keep b o e n hb hx) (I.base.free b o e n hx)
 ·obtain ⟨sl,e1⟩:=I.base.slot b o e n hb hx
  obtain ⟨sl',e2⟩:=slot b _ (neL b o e) hb (neC b o e hx) e1 (I.base.free b o e n hx)
  exact ⟨sl',e2⟩
 ·obtain ⟨o',e1⟩:=I.base.there b o e hx
  exact free b o' (neC b o e hx) e1 (I.base.free b o e n hx)
 ·obtain ⟨o',e1⟩:=I.base.there b o e hx
  exact there b o' (neC b o e hx) e1
 ·obtain ⟨m1,e1⟩:=I.base.tbls b ps e
  obtain ⟨m2,e2⟩:=tbls b _ e1
  exact ⟨m1 ++ m2,by rw [e2,Array.append_assoc]⟩
 ·obtain ⟨m,hn,hl⟩:=I.loc
  refine ⟨m,ns m hn,fun i x v e1 e2 e3=>?_⟩
  obtain ⟨u,r,l⟩:=hl i x v e1 e2 e3
  refine ⟨u,r,?_⟩
  rcases l with l | ⟨k,c,e,z⟩
  ·exact .inl l
  ·exact .inr ⟨k,c,e,cellK x c e _ z⟩
 ·obtain ⟨v,z⟩:=I.cell x c e
  exact ⟨v,cellK x c e v z⟩
 ·obtain ⟨m,⟨o,_,_,ho,_⟩,_⟩:=I.loc
  exact free _ o (fun z=>(hch _ z).2.1 rfl) ho I.free
 ·obtain ⟨v,o,ho,hd⟩:=I.cell x c e
  exact free c o (fun z=>(hch c z).2.2.1 x c e rfl) ho (I.freeC x c e)
 ·obtain ⟨e,n,ne,nf,d⟩:=I.pin p hp
  have nch : p.1 ∉ ch:=fun z=>(hch p.1 z).2.2.2 p hp rfl
  exact ⟨keep p.1 p.2 ne nf nch e n,free p.1 p.2 nch e n,ne,nf,d⟩
theorem Inv.un {t' : Nat} (I : Inv X pins σ H s) (u : Un X.fs [] H H' s.heap h') (hok : HOk X.prog X.w H' h') : Inv X pins σ H' { s with heap:=h',toks:=t' }:=by
 obtain ⟨m,⟨o,es,ep,ho,r⟩,_⟩:=id I.loc
 obtain ⟨sl,hL⟩:=u.any ho I.free (by simp)
 exact I.step (g':=s.gens) (d':=s.drawn) (ch:=[]) (fun _ z=>nomatch z) (fun b o _ hb _ e n=>u.keep b o e n hb (by simp)) (fun b o _ hb _ e n=>u.slot b o e n hb (by simp)) (fun b o _ e n=>u.free b o e n (by simp)) (fun b o _ e=>u.there b o e (by simp)) u.tups u.frzs u.tbls (fun m' hm=>by
  obtain ⟨o',es',ep',ho',r'⟩:=hm
  rw [ho] at ho'; cases ho'
  exact ⟨_,es',ep',hL,r'⟩) hok I.bare
theorem Inv.call {g' : Array GenState} {t' : Nat} {d' : Drawn} {ch : List Addr} (I : Inv X pins σ H s) (u : Un (frs X.stack) ch H H' s.heap h') (hok : HOk X.prog X.w H' h') (hg : AllBare g')
  (hch : ∀ b∈ch,(b∈X.ex∨X.s₀.heap.objs.size ≤ b)∧b ≠ X.env.locals∧(∀ x c,X.env.cells.lookup x = some c→c ≠ b)∧∀ p∈X.pn ++ pins,p.1 ≠ b) :
  Inv X pins σ H' { s with heap:=h',gens:=g',drawn:=d',toks:=t' }:=by
 obtain ⟨m,⟨o,es,ep,ho,r⟩,_⟩:=id I.loc
 obtain ⟨sl,hL⟩:=u.any ho I.free fun z=>(hch _ z).2.1 rfl
 exact I.step (ch:=ch) hch (fun b o hL hb hc e n=>u.keep b o e n (fun z=>(List.mem_cons.mp (I.stkSub b z)).elim hL hb) hc) (fun b o _ _ hc e n=>u.any e n hc) (fun b o hc e n=>u.free b o e n hc) (fun b o hc e=>u.there b o e hc) u.tups u.frzs u.tbls (fun m' hm=>by
  obtain ⟨o',es',ep',ho',r'⟩:=hm
  rw [ho] at ho'; cases ho'
  exact ⟨_,es',ep',hL,r'⟩) hok hg
theorem Inv.turned {t' : Nat} {it : Addr} (I : Inv X pins σ H s) (k : ∀ b o,b ≠ it→s.heap.get? b = some o→h'.get? b = some o) (hn : H it = none) (hL : it ≠ X.env.locals)
  (h1 : it∈X.ex∨X.s₀.heap.objs.size ≤ it) (h2 : ∀ x c,X.env.cells.lookup x = some c→c ≠ it) (h3 : ∀ p∈X.pn ++ pins,p.1 ≠ it) : Inv X pins σ H { s with heap:=h',toks:=t' }:=by
 have nit : ∀ b u,H b = some u→b ≠ it:=fun b u e z=>by rw [z,hn] at e; cases e
 refine I.step (g':=s.gens) (d':=s.drawn) (ch:=[it]) (fun b hb=>?_) (fun b o _ _ hc e _=>k b o (fun z=>hc (by simp [z])) e) (fun b o _ _ hc e _=>⟨o.slots,k b o (fun z=>hc (by simp [z])) e⟩) (fun _ _ _ _ n=>n)
  (fun b o hc e=>⟨o,k b o (fun z=>hc (by simp [z])) e⟩) (fun _ _ e=>e) (fun _ _ _ e=>e) (fun b ps e=>⟨#[],by rw [e]; simp⟩) (fun m hm=>?_) (fun b u e=>?_) I.bare
 ·have e : b = it:=by simpa using hb
  subst e
  exact ⟨h1,hL,h2,h3⟩
 ·obtain ⟨o,es,ep,ho,r⟩:=hm
  exact ⟨o,es,ep,k _ o (Ne.symm hL) ho,r⟩
 ·refine (I.hok b u e).stay (fun c v hc q=>k c v ?_ q) (fun _ q=>q) fun _ _ q=>q
  rcases hc with z | z
  ·rw [z]; exact nit b u e
  ·exact nit c _ z
theorem Inv.tok (I : Inv X pins σ H s) (t : Nat) : Inv X pins σ H { s with toks:=t }:=I.un (h':=s.heap) (t':=t) Un.refl I.hok
theorem Inv.kept {t' : Nat} (I : Inv X pins σ H s) (k : ∀ b u,s.heap.get? b = some u→h'.get? b = some u) : Inv X pins σ H { s with heap:=h',toks:=t' }:=I.un (Un.kept k) (I.hok.kept k)
theorem Inv.laid {a : Addr} {o : HO} {t' : Nat} (I : Inv X pins σ H s) (k : ∀ b u,s.heap.get? b = some u→h'.get? b = some u) (hp : s.heap.objs.size ≤ a) (new : bX X.prog X.w (upd H a o) h' a o) :
  Inv X pins σ (upd H a o) { s with heap:=h',toks:=t' }:=I.un (Un.laid k hp (I.hok.fresh hp)) (I.hok.laid k hp new)
theorem Inv.write {x e : Addr} {o : HO} {t' : Nat} (I : Inv X pins σ H s) (mu : Mut (H x)) (he : e = x∨H e = some (.own x)) (k : ∀ b u,b ≠ e→s.heap.get? b = some u→h'.get? b = some u) (heo : ∃ u,h'.get? e = some u)
  (new : bX X.prog X.w (upd H x o) h' x o) : Inv X pins σ (upd H x o) { s with heap:=h',toks:=t' }:=I.un (Un.write mu he k heo) (I.hok.write mu he k heo new)
theorem Inv.pins_of {pins' : List (Addr × Obj)} (I : Inv X pins σ H s) (h : ∀ p∈pins',s.heap.get? p.1 = some p.2∧H p.1 = none∧p.1 ≠ X.env.locals∧p.1 ∉ X.fs∧∀ v,p.2.data ≠ .cell v) : Inv X pins' σ H s :=
 ⟨I.ok,I.os,I.bare,I.base,I.loc,I.cell,I.free,I.freeC,fun p hp=>(List.mem_append.mp hp).elim (fun z=>I.pin p (List.mem_append_left _ z)) (h p),I.hok,I.len⟩
theorem pX {N : List Str} (hN : N.Nodup) {i j : Nat} {x : Str} (a : N[i]? = some x) (b : N[j]? = some x) : i = j:=by
 obtain ⟨h1,e1⟩:=List.getElem?_eq_some_iff.mp a
 obtain ⟨h2,e2⟩:=List.getElem?_eq_some_iff.mp b
 exact (List.getElem_inj hN).mp (e1.trans e2.symm)
theorem oI {M : Model} {A : Around} {E : Value→Shared→Prop} {i : Nat} {x : Str} {v : V} {u : Value} {Q : Unit→Shared→Prop} (I : Inv X pins σ H s) (hN : X.N.Nodup) (hi : X.N[i]? = some x) (hx : Loc X.env.scope x) (r : RelV v u)
  (h : ∀ s',Inv X pins (σ.set i (some v)) H s'→(∃ a,Heap.SameBut a s.heap s'.heap∧(a = X.env.locals∨X.env.cells.lookup x = some a))→Q () s') (hf : X.fn x = true∨X.env.scope.names.lookup x = some .local:=by first | exact .inl rfl | exact .inr rfl | assumption) : wpAny M A (storeName X.env x u) Q E s:=by
 obtain ⟨m,hn,hl⟩:=id I.loc
 have hcls : (X.env.scope.kind == .class || (X.env.scope.kind == .module && X.env.locals != X.env.globals)) = false:=by rw [I.ok.kind]; rfl
 have hiσ : i < σ.length:=by rw [I.len]; exact (List.getElem?_eq_some_iff.mp hi).1
 have cne:=I.cne
 have tracked : ∀ {a : Addr} {h' : Heap},(∃ o,s.heap.get? a = some o∧H a = none)→Heap.SameBut a s.heap h'→HOk X.prog X.w H h':=fun {a h'} ha hs b ob e=>by
  obtain ⟨_,_,hfree⟩:=ha
  refine (I.hok b ob e).stay (fun c w' hc q=>(hs.2 c ?_).trans q) (fun _ q=>q) fun _ _ q=>q
  rintro rfl
  rcases hc with rfl | hc
  ·rw [hfree] at e; cases e
  ·rw [hfree] at hc; cases hc
 rcases hx with hk | hk
 ·refine wpAny_storeName_local hk hn (fun h' hn' hs=>?_) hcls
  obtain ⟨oL,_,_,hoL,_⟩:=id hn
  refine h _ ⟨I.ok,I.os,I.bare,⟨fun b o e n hb hx=>?_,fun b o e n hb hx=>?_,I.base.free,fun b o e hx=>?_,I.base.tups,I.base.frzs,I.base.tbls⟩,⟨_,hn',fun j y v' e1 e2 e3=>?_⟩,fun y c e=>?_,I.free,I.freeC,fun p hp=>?_,tracked ⟨oL,hoL,I.free⟩ hs,by simpa using I.len⟩ ⟨_,hs,.inl rfl⟩
  ·exact (hs.2 b (Nat.ne_of_lt (Nat.lt_of_lt_of_le (Heap.lt_size e) I.ok.above))).trans (I.base.keep b o e n hb hx)
  ·obtain ⟨sl,e1⟩:=I.base.slot b o e n hb hx
   exact ⟨sl,(hs.2 b (Nat.ne_of_lt (Nat.lt_of_lt_of_le (Heap.lt_size e) I.ok.above))).trans e1⟩
  ·obtain ⟨o',e1⟩:=I.base.there b o e hx
   exact ⟨o',(hs.2 b (Nat.ne_of_lt (Nat.lt_of_lt_of_le (Heap.lt_size e) I.ok.above))).trans e1⟩
  ·by_cases hj : j = i
   ·subst hj
    rw [hi] at e1; cases e1
    rw [List.getElem?_set_self hiσ] at e2
    cases e2
    exact ⟨u,r,.inl ⟨hk,by simp⟩⟩
   ·rw [List.getElem?_set_ne (Ne.symm hj)] at e2
    obtain ⟨u',r',q⟩:=hl j y v' e1 e2 e3
    refine ⟨u',r',?_⟩
    rcases q with ⟨k,e⟩ | ⟨k,c,e,z⟩
    ·refine .inl ⟨k,?_⟩
     have : y ≠ x:=fun e=>hj (pX hN e1 (e ▸ hi))
     simp [this,e]
    ·exact .inr ⟨k,c,e,z.sameBut hs (cne y c e)⟩
  ·obtain ⟨w',z⟩:=I.cell y c e
   exact ⟨w',z.sameBut hs (cne y c e)⟩
  ·obtain ⟨e,n,ne,nf,d⟩:=I.pin p hp
   exact ⟨(hs.2 p.1 ne).trans e,n,ne,nf,d⟩
 ·have hfn : X.fn x = true:=by
   rcases hf with z | z
   ·exact z
   ·rw [z] at hk; cases hk
  obtain ⟨c,hc⟩:=I.ok.has x (.inl hk)
  obtain ⟨w',z⟩:=I.cell x c hc
  refine wpAny_storeName_cell I.ok.kind hk hc z (fun h' hc' hs=>?_)
  obtain ⟨oc,hoc,hocd⟩:=id z
  refine h { s with heap:=h' } ⟨I.ok,I.os,I.bare,⟨fun b o e n hb hx=>?_,fun b o e n hb hx=>?_,I.base.free,fun b o e hx=>?_,I.base.tups,I.base.frzs,I.base.tbls⟩,⟨m,hn.sameBut hs (Ne.symm (cne x c hc)),fun j y v' e1 e2 e3=>?_⟩,fun y c' e=>?_,I.free,I.freeC,fun p hp=>?_,tracked ⟨oc,hoc,I.freeC x c hc⟩ hs,by simpa using I.len⟩ ⟨c,hs,.inr hc⟩
  ·exact (hs.2 b (Nat.ne_of_lt (Nat.lt_of_lt_of_le (Heap.lt_size e) (I.ok.cab x c hfn hc)))).trans (I.base.keep b o e n hb hx)
  ·obtain ⟨sl,e1⟩:=I.base.slot b o e n hb hx
   exact ⟨sl,(hs.2 b (Nat.ne_of_lt (Nat.lt_of_lt_of_le (Heap.lt_size e) (I.ok.cab x c hfn hc)))).trans e1⟩
  ·obtain ⟨o',e1⟩:=I.base.there b o e hx
   exact ⟨o',(hs.2 b (Nat.ne_of_lt (Nat.lt_of_lt_of_le (Heap.lt_size e) (I.ok.cab x c hfn hc)))).trans e1⟩
  ·by_cases hj : j = i
   ·subst hj
    rw [hi] at e1; cases e1
    rw [List.getElem?_set_self hiσ] at e2
    cases e2
    exact ⟨u,r,.inr ⟨.inl hk,c,hc,hc'⟩⟩
   ·rw [List.getElem?_set_ne (Ne.symm hj)] at e2
    obtain ⟨u',r',q⟩:=hl j y v' e1 e2 e3
    refine ⟨u',r',?_⟩
    rcases q with q | ⟨k,c',e,z'⟩
    ·exact .inl q
    ·refine .inr ⟨k,c',e,z'.sameBut hs ?_⟩
     rintro rfl
     exact hj (pX hN e1 (I.ok.inj _ _ _ e hc ▸ hi))
  ·by_cases hcc : c' = c
   ·subst hcc; exact ⟨_,hc'⟩
   ·obtain ⟨w2,z2⟩:=I.cell y c' e
    exact ⟨w2,z2.sameBut hs hcc⟩
  ·obtain ⟨e,n,ne,nf,d⟩:=I.pin p hp
   refine ⟨(hs.2 p.1 ?_).trans e,n,ne,nf,d⟩
   intro q
   rw [q,hoc] at e
   have q' : oc = p.2:=Option.some.inj e
   exact d w' (by rw [← q']; exact hocd)
theorem lC {M : Model} {A : Around} {E : Value→Shared→Prop} {i : Nat} {x : Str} {v : V} {u : Value} {Q : Unit→Shared→Prop} (I : Inv X pins σ H s) (hN : X.N.Nodup) (hi : X.N[i]? = some x) (hx : Loc X.env.scope x) (r : RelV v u)
  (h : ∀ s',Inv X pins (σ.set i (some v)) H s'→Q () s') (hf : X.fn x = true∨X.env.scope.names.lookup x = some .local:=by first | exact .inl rfl | exact .inr rfl | assumption) : wpAny M A (storeName X.env x u) Q E s :=
 oI I hN hi hx r (fun s' I' _=>h s' I') hf
theorem Inv.call' {s' : Shared} {ch : List Addr} (I : Inv X pins σ H s) (ho : s'.os = s.os) (u : Un (frs X.stack) ch H H' s.heap s'.heap) (hok : HOk X.prog X.w H' s'.heap) (hg : AllBare s'.gens)
  (hch : ∀ b∈ch,(b∈X.ex∨X.s₀.heap.objs.size ≤ b)∧b ≠ X.env.locals∧(∀ x c,X.env.cells.lookup x = some c→c ≠ b)∧∀ p∈X.pn ++ pins,p.1 ≠ b) : Inv X pins σ H' s':=by
 obtain ⟨h',g',d',t',o'⟩:=s'
 have e : o' = s.os:=ho
 subst e
 exact I.call (g':=g') (t':=t') (d':=d') u hok hg hch
end
abbrev XK:=Value→Option Addr→Hp→Prop
abbrev St:=List (Option V)
abbrev VK:=V→Hp→Prop
abbrev TE:=St→Hp→VK→Prop
abbrev TT:=St→Hp→(Bool→Hp→Prop)→Prop
abbrev TA:=St→Hp→(List V→Hp→Prop)→Prop
structure Ends where
 nx : St→Hp→Prop
 rt : VK
 bk : St→Hp→Prop:=fun _ _=>False
 ct : St→Hp→Prop:=fun _ _=>False
abbrev TS:=Ends→St→Hp→Prop
def EP (X : Cx) (pins : List (Addr × Obj)) (σ : St) (Q : VK) (u : Value) (s' : Shared) : Prop:=∃ v H',Inv X pins σ H' s'∧RelV v u∧Q v H'
def TP (X : Cx) (pins : List (Addr × Obj)) (σ : St) (Q : Bool→Hp→Prop) (b : Bool) (s' : Shared) : Prop:=∃ H',Inv X pins σ H' s'∧Q b H'
def AP (X : Cx) (pins : List (Addr × Obj)) (σ : St) (Q : List V→Hp→Prop) (us : List Value) (s' : Shared) : Prop:=∃ vs H',Inv X pins σ H' s'∧Vals vs us∧Q vs H'
def SP (X : Cx) (pins : List (Addr × Obj)) (D : Ends) (f : Flow) (s' : Shared) : Prop :=
 match f with
 | .next=>∃ σ' H',Inv X pins σ' H' s'∧D.nx σ' H'
 | .brk=>∃ σ' H',Inv X pins σ' H' s'∧D.bk σ' H'
 | .cont=>∃ σ' H',Inv X pins σ' H' s'∧D.ct σ' H'
 | .ret u=>∃ v σ' H',Inv X pins σ' H' s'∧RelV v u∧D.rt v H'
def PE (X : Cx) (e : Expr) (t : TE) : Prop :=
 ∀ (pins : List (Addr × Obj)) (s : Shared) (σ : St) (H : Hp) (Q : VK),Inv X pins σ H s→t σ H Q→wpAny (model X.prog X.w) X.A (eval e X.env) (EP X pins σ Q) X.xe s
def PT (X : Cx) (e : Expr) (t : TT) : Prop :=
 ∀ (pins : List (Addr × Obj)) (s : Shared) (σ : St) (H : Hp) (Q : Bool→Hp→Prop),Inv X pins σ H s→t σ H Q→wpAny (model X.prog X.w) X.A (isTrue e X.env (eval e X.env)) (TP X pins σ Q) X.xe s
def PW (X : Cx) (e : Expr) (t : TT) : Prop :=
 ∀ (whole : Sem Value) (pins : List (Addr × Obj)) (s : Shared) (σ : St) (H : Hp) (Q : Bool→Hp→Prop),Inv X pins σ H s→t σ H Q→wpAny (model X.prog X.w) X.A (isTrue e X.env whole) (TP X pins σ Q) X.xe s
theorem PW.pt {X : Cx} {e : Expr} {t : TT} (h : PW X e t) : PT X e t:=h _
def PA (X : Cx) (es : List Expr) (t : TA) : Prop :=
 ∀ (pos : Pos) (pins : List (Addr × Obj)) (s : Shared) (σ : St) (H : Hp) (Q : List V→Hp→Prop),Inv X pins σ H s→t σ H Q→wpAny (model X.prog X.w) X.A (spliced (backTo pos (starEach es X.env))) (AP X pins σ Q) X.xe s
def PS (X : Cx) (st : Stmt) (t : TS) : Prop :=
 ∀ (pins : List (Addr × Obj)) (s : Shared) (σ : St) (H : Hp) (D : Ends),Inv X pins σ H s→t D σ H→wpAny (model X.prog X.w) X.A (exec st X.env) (SP X pins D) X.xe s
def PSs (X : Cx) (st : List Stmt) (t : TS) : Prop :=
 ∀ (pins : List (Addr × Obj)) (s : Shared) (σ : St) (H : Hp) (D : Ends),Inv X pins σ H s→t D σ H→wpAny (model X.prog X.w) X.A (execs st X.env) (SP X pins D) X.xe s
theorem thn {α : Type} {t : Sem α} {Q Q' : α→Shared→Prop} {M : Model} {A : Around} {E : Value→Shared→Prop} {s : Shared} (h : wpAny M A t Q E s) (hQ : ∀ a s,Q a s→Q' a s) : wpAny M A t Q' E s:=wpAny_mono h hQ fun _ _ x=>x
end L2
namespace L2
open PySem PySem.Spec PyProof.Rows
section
variable {X : Cx}
def tVar (i : Nat) : TE:=fun σ H Q=>∃ v,σ[i]? = some (some v)∧Q v H
def tC (v : V) : TE:=fun _ H Q=>Q v H
theorem aBU {i : Nat} {x : Str} {pos : Pos} (hN : X.N[i]? = some x) (hv : Vis X.env.scope x) (hd : (x == ("__debug__" : Str)) = false:=by decide) (hcd : (x == ("__classdict__" : Str)) = false:=by decide) : PE X (.Name x pos) (tVar i):=by
 intro pins s σ H Q I h
 obtain ⟨v,e,h⟩:=h
 obtain ⟨m,hn,hl⟩:=I.loc
 obtain ⟨u,r,l⟩:=hl i x v hN e hv
 have fin : EP X pins σ Q u s:=⟨v,H,I,r,h⟩
 rcases l with ⟨hk,hm⟩ | ⟨hk,c,hc,hcell⟩
 ·exact wpAny_Name (wpAny_loadName_local I.ok.kind hk hn hm fin) hd
 ·rcases hk with hk | hk
  ·exact wpAny_Name (wpAny_loadName_cell I.ok.kind hk hc hcell fin) hd
  ·exact wpAny_Name (wpAny_loadName_free I.ok.kind hk hc hcell fin hcd) hd
theorem aG {i j pos} : PE X (.Constant (.int i) j pos) (tC (.int i)):=fun _ _ _ H _ I h=>wpAny_Constant_int ⟨.int i,H,I.tok _,⟨_,rfl⟩,h⟩
theorem dZ {b j pos} : PE X (.Constant (.bool b) j pos) (tC (.bl b)):=fun _ _ _ H _ I h=>Constant_bool ⟨.bl b,H,I,rfl,h⟩
theorem pY {j pos} : PE X (.Constant .none j pos) (tC .non):=fun _ _ _ H _ I h=>Constant_none ⟨.non,H,I,rfl,h⟩
def Gl (X : Cx) (x : Str) : Prop:=X.env.kindOf x = some .globalImplicit
theorem mY {E : Value→Shared→Prop} {pins : List (Addr × Obj)} {s : Shared} {σ : St} {H : Hp} {x : Str} {u : Value} {pos : Pos} {Q : Value→Shared→Prop} (I : Inv X pins σ H s) (hg : Gl X x) (hm : X.mg x = some u) (h : Q u s)
  (hd : (x == ("__debug__" : Str)) = false:=by decide) : wpAny (model X.prog X.w) X.A (eval (.Name x pos) X.env) Q E s :=
 Calls.Name_function_global I.ok.kind hg (Calls.loadGlobal_global (by rw [I.ok.glob]; exact I.mod.glob.keeps I.bk) hm h) hd
theorem iH {E : Value→Shared→Prop} {pins : List (Addr × Obj)} {s : Shared} {σ : St} {H : Hp} {x : Str} {u : Value} {pos : Pos} {Q : Value→Shared→Prop} (I : Inv X pins σ H s) (hg : Gl X x) (hm : X.mg x = none) (hv : bootBuiltins x = some u) (h : Q u s)
  (hn : x ≠ "__name__" := by decide) (hd : (x == ("__debug__" : Str)) = false:=by decide) : wpAny (model X.prog X.w) X.A (eval (.Name x pos) X.env) Q E s:=by
 obtain ⟨mb,h1,h2⟩:=I.mod.blt
 exact Calls.Name_function_global I.ok.kind hg (Calls.loadGlobal_builtin (by rw [I.ok.glob]; exact I.mod.glob.keeps I.bk) hm (by rw [I.ok.blt]; exact h1.keeps I.bk) ((h2 x hn).trans hv) h) hd
theorem iI {x : Str} {v : V} {u : Value} {pos : Pos} (hg : Gl X x) (hm : X.mg x = some u) (r : RelV v u) (hd : (x == ("__debug__" : Str)) = false:=by decide) : PE X (.Name x pos) (tC v) :=
 fun _ _ _ H _ I h=>mY I hg hm ⟨v,H,I,r,h⟩ hd
theorem iJ {x : Str} {v : V} {u : Value} {pos : Pos} (hg : Gl X x) (hm : X.mg x = none) (hv : bootBuiltins x = some u) (r : RelV v u) (hn : x ≠ "__name__" := by decide) (hd : (x == ("__debug__" : Str)) = false:=by decide) : PE X (.Name x pos) (tC v) :=
 fun _ _ _ H _ I h=>iH I hg hm hv ⟨v,H,I,r,h⟩ hn hd
variable {a b : Expr} {ta tb : TE} {pos : Pos}
def tB (t : TE) : TT:=fun σ H Q=>t σ H fun x H1=>∃ c,x = .bl c∧Q c H1
theorem cP {e : Expr} {t : TE} (h : PE X e t) (he : ∀ whole,isTrue e X.env whole = (do let v ← whole; standAt e.pos; holding [v] (truthy v)):=by intro _; rfl) : PT X e (tB t):=by
 intro pins s σ H Q I hw
 refine isTrue_plain (thn (h pins s σ H _ I hw) fun v s1 ⟨x,H1,I1,r1,q1⟩=>?_) (he _)
 obtain ⟨d,rfl,q⟩:=q1
 cases r1
 exact wpAny_truthy_bool ⟨H1,I1,q⟩
variable {tA tB' : TT} {rest : List Expr}
def tAnd (t u : TT) : TT:=fun σ H Q=>t σ H fun c H1=>if c = true then u σ H1 Q else Q false H1
def tOr (t u : TT) : TT:=fun σ H Q=>t σ H fun c H1=>if c = true then Q true H1 else u σ H1 Q
def tNot (t : TT) : TT:=fun σ H Q=>t σ H fun c H1=>Q (!c) H1
theorem tK (ha : PT X a tA) : PW X (.BoolOp .And [a] pos) tA:=by
 intro wh pins s σ H Q I h
 refine isTrue_and (thn (ha pins s σ H Q I h) fun c s1 e=>?_)
 cases c with
 | true=>exact isTrue_and_nil e
 | false=>exact e
theorem lO (ha : PT X a tA) : PW X (.BoolOp .Or [a] pos) tA:=by
 intro wh pins s σ H Q I h
 refine isTrue_or (thn (ha pins s σ H Q I h) fun c s1 e=>?_)
 cases c with
 | false=>exact isTrue_or_nil e
 | true=>exact e
theorem xB (ha : PT X a tA) (hb : PW X (.BoolOp .And (b :: rest) pos) tB') : PW X (.BoolOp .And (a :: b :: rest) pos) (tAnd tA tB'):=by
 intro wh pins s σ H Q I h
 refine isTrue_and (thn (ha pins s σ H _ I h) fun c s1 ⟨H1,I1,q1⟩=>?_)
 cases c with
 | true=>exact hb wh pins s1 σ H1 Q I1 q1
 | false=>exact ⟨H1,I1,q1⟩
theorem lP (ha : PT X a tA) (hb : PW X (.BoolOp .Or (b :: rest) pos) tB') : PW X (.BoolOp .Or (a :: b :: rest) pos) (tOr tA tB'):=by
 intro wh pins s σ H Q I h
 refine isTrue_or (thn (ha pins s σ H _ I h) fun c s1 ⟨H1,I1,q1⟩=>?_)
 cases c with
 | true=>exact ⟨H1,I1,q1⟩
 | false=>exact hb wh pins s1 σ H1 Q I1 q1
theorem cX (ha : PT X a tA) : PT X (.UnaryOp .Not a pos) (tNot tA):=by
 intro pins s σ H Q I h
 exact isTrue_not (ha pins s σ H (fun c H1=>Q (!c) H1) I h)
def aCw (ta tb : TE) : TE:=fun σ H Q=>ta σ H fun x H1=>∃ c,x = .bl c∧if c = true then tb σ H1 Q else Q (.bl false) H1
def aCx (ta : TE) : TE:=fun σ H Q=>ta σ H fun x H1=>∃ c,x = .bl c∧Q (.bl (!c)) H1
theorem eH {op} {t : TE} (h : PE X a t) : PE X (.BoolOp op [a] pos) t:=fun pins s σ H Q I hw=>BoolOp_one (h pins s σ H Q I hw)
theorem eC (ha : PE X a ta) (hb : PE X (.BoolOp .And (b :: rest) pos) tb) : PE X (.BoolOp .And (a :: b :: rest) pos) (aCw ta tb):=by
 intro pins s σ H Q I h
 refine BoolOp_and (thn (ha pins s σ H _ I h) fun v s1 ⟨x,H1,I1,r1,q1⟩=>?_)
 obtain ⟨c,rfl,q1⟩:=q1
 cases r1
 refine wpAny_truthy_bool ?_
 cases c with
 | true=>exact hb pins s1 σ H1 Q I1 q1
 | false=>exact ⟨.bl false,H1,I1,rfl,q1⟩
theorem aBV (ha : PE X a ta) : PE X (.UnaryOp .Not a pos) (aCx ta):=by
 intro pins s σ H Q I h
 refine UnaryOp_ (thn (ha pins s σ H _ I h) fun v s1 ⟨x,H1,I1,r1,q1⟩=>?_)
 obtain ⟨c,rfl,q1⟩:=q1
 cases r1
 exact not_of (wpAny_truthy_bool ⟨.bl (!c),H1,I1,rfl,q1⟩)
def tIf (t : TT) (ta tb : TE) : TE:=fun σ H Q=>t σ H fun c H1=>if c = true then ta σ H1 Q else tb σ H1 Q
theorem pZ {c : Expr} (hc : PT X c tA) (ha : PE X a ta) (hb : PE X b tb) : PE X (.IfExp c a b pos) (tIf tA ta tb):=by
 intro pins s σ H Q I h
 refine wpAny_IfExp (thn (hc pins s σ H _ I h) fun d s1 ⟨H1,I1,q1⟩=>?_)
 cases d with
 | true=>exact ha pins s1 σ H1 Q I1 q1
 | false=>exact hb pins s1 σ H1 Q I1 q1
end
end L2
namespace L2
open PySem PySem.Spec PyProof.Rows
def SqL (K : PySem.W.Frag) (H : Hp) (a : Addr) (xs : List V) : Prop :=
 Rd H a (.lst xs) ∨
  ∃ (o : Obj) (its : Array Value) (n : Nat),K.lookup a = some o∧o.cls = .type "list" ∧ o.dict = none∧o.data = .seq its n∧its.size ≤ sizeLine∧Vals xs its.toList
def SqT (K : PySem.W.Frag) (H : Hp) (a : Addr) (xs : List V) : Prop :=
 Rd H a (.tup xs) ∨
  ∃ (o : Obj) (its : Array Value) (n : Nat),K.lookup a = some o∧o.cls = .type "tuple" ∧ o.data = .seq its n∧its.size ≤ sizeLine∧Vals xs its.toList
def absV : Value→Option V
 | .none=>some .non
 | .bool b=>some (.bl b)
 | .int i _=>some (.int i)
 | .str x _=>some (.str x)
 | .bytes b _=>some (.byt b)
 | .float b _=>some (.flt b)
 | .ref a=>some (.ref a)
 | .type n=>some (.ty n)
 | _=>none
theorem RelV.abs {x : V} {u : Value} (r : RelV x u) : absV u = some x:=by
 cases x with
 | non=>cases r; rfl
 | bl _=>cases r; rfl
 | int _=>obtain ⟨t,rfl⟩:=r; rfl
 | str _=>obtain ⟨t,rfl⟩:=r; rfl
 | byt _=>obtain ⟨t,rfl⟩:=r; rfl
 | flt _=>obtain ⟨t,rfl⟩:=r; rfl
 | ref _=>cases r; rfl
 | ty _=>cases r; rfl
theorem RelV.inj {x y : V} {u : Value} (r : RelV x u) (q : RelV y u) : x = y:=Option.some.inj (r.abs.symm.trans q.abs)
theorem Vals.inj : ∀ {xs ys : List V} {us : List Value},Vals xs us→Vals ys us→xs = ys
 | _,_,_,.nil,.nil=>rfl
 | _,_,_,.cons r t,.cons r' t'=>by rw [r.inj r',Vals.inj t t']
section
variable {X : Cx} {pins : List (Addr × Obj)} {σ : St} {H : Hp} {s : Shared} {a : Addr} {xs ys : List V}
theorem SqL.of {K : PySem.W.Frag} (h : H a = some (.lst xs)) : SqL K H a xs:=.inl (.inl h)
theorem SqT.of {K : PySem.W.Frag} (h : H a = some (.tup xs)) : SqT K H a xs:=.inl (.inl h)
theorem Inv.list (I : Inv X pins σ H s) (h : SqL X.K H a xs) : ∃ its : List Value,Vals xs its∧PlainL s.heap a its.toArray∧xs.length ≤ sizeLine:=by
 rcases h with h | ⟨o,its,n,hk,hc,hd,hs,hz,r⟩
 ·obtain ⟨z,its,n,r,e⟩:=h.ok I.hok
  exact ⟨its,r,⟨_,n,e,rfl,rfl,rfl⟩,z⟩
 ·refine ⟨its.toList,r,⟨o,n,I.kIn a o hk,hc,hd,by simpa using hs⟩,?_⟩
  have e:=r.length
  simp only [Array.length_toList] at e
  lia
theorem Inv.tuple (I : Inv X pins σ H s) (h : SqT X.K H a xs) : ∃ its : List Value,Vals xs its∧IsTup s.heap a its.toArray∧xs.length ≤ sizeLine:=by
 rcases h with h | ⟨o,its,n,hk,hc,hs,hz,r⟩
 ·obtain ⟨z,its,r,p⟩:=h.ok I.hok
  exact ⟨its,r,p.tup,z⟩
 ·refine ⟨its.toList,r,⟨o,I.kIn a o hk,hc,n,by simpa using hs⟩,?_⟩
  have e:=r.length
  simp only [Array.length_toList] at e
  lia
theorem Inv.list_inj (I : Inv X pins σ H s) (h : SqL X.K H a xs) (h' : SqL X.K H a ys) : xs = ys:=by
 obtain ⟨its,r,⟨o,n,e,_,_,d⟩,_⟩:=I.list h
 obtain ⟨its',r',⟨o',n',e',_,_,d'⟩,_⟩:=I.list h'
 rw [e] at e'; cases e'
 rw [d] at d'
 injection d' with d1 _
 have : its = its':=by simpa using congrArg Array.toList d1
 subst this
 exact r.inj r'
theorem Inv.tuple_inj (I : Inv X pins σ H s) (h : SqT X.K H a xs) (h' : SqT X.K H a ys) : xs = ys:=by
 obtain ⟨its,r,⟨o,e,_,n,d⟩,_⟩:=I.tuple h
 obtain ⟨its',r',⟨o',e',_,n',d'⟩,_⟩:=I.tuple h'
 rw [e] at e'; cases e'
 rw [d] at d'
 injection d' with d1 _
 have : its = its':=by simpa using congrArg Array.toList d1
 subst this
 exact r.inj r'
end
abbrev Cx.wish (X : Cx) (E : Value→Shared→Prop) : Cx:={ X with xe:=E }
abbrev Cx.nox (X : Cx) : Cx:=X.wish fun _ _=>False
theorem Cx.Ok.wish {X : Cx} (ok : X.Ok) (E : Value→Shared→Prop) : (X.wish E).Ok :=
 ⟨ok.mod,ok.kind,ok.glob,ok.blt,ok.above,ok.inj,ok.has,ok.cab,ok.hd,ok.frames,ok.stk,ok.exf,ok.bs,ok.bsz,ok.noex,ok.exfs,ok.funs,ok.frf⟩
theorem Cx.Ok.unwish {X : Cx} {E : Value→Shared→Prop} (ok : (X.wish E).Ok) : X.Ok :=
 ⟨ok.mod,ok.kind,ok.glob,ok.blt,ok.above,ok.inj,ok.has,ok.cab,ok.hd,ok.frames,ok.stk,ok.exf,ok.bs,ok.bsz,ok.noex,ok.exfs,ok.funs,ok.frf⟩
section
variable {X : Cx} {pins : List (Addr × Obj)} {σ : St} {H : Hp} {s : Shared} {E : Value→Shared→Prop}
theorem Inv.wish (I : Inv X pins σ H s) (E : Value→Shared→Prop) : Inv (X.wish E) pins σ H s:=⟨I.ok.wish E,I.os,I.bare,I.base,I.loc,I.cell,I.free,I.freeC,I.pin,I.hok,I.len⟩
theorem Inv.unwish (I : Inv (X.wish E) pins σ H s) : Inv X pins σ H s:=⟨I.ok.unwish,I.os,I.bare,I.base,I.loc,I.cell,I.free,I.freeC,I.pin,I.hok,I.len⟩
theorem SP.unwish {D : Ends} {f : Flow} {s' : Shared} (h : SP (X.wish E) pins D f s') : SP X pins D f s':=by
 cases f with
 | next=>obtain ⟨σ',H',I,q⟩:=h; exact ⟨σ',H',I.unwish,q⟩
 | brk=>obtain ⟨σ',H',I,q⟩:=h; exact ⟨σ',H',I.unwish,q⟩
 | cont=>obtain ⟨σ',H',I,q⟩:=h; exact ⟨σ',H',I.unwish,q⟩
 | ret u=>obtain ⟨v,σ',H',I,r,q⟩:=h; exact ⟨v,σ',H',I.unwish,r,q⟩
theorem PSs.nox {st : List Stmt} {t : TS} (h : PSs X.nox st t) : PSs X st t:=fun pins s σ H D I hw =>
 wpAny_mono (h pins s σ H D (I.wish _) hw) (fun _ _ q=>q.unwish) fun _ _ z=>False.elim z
end
section
variable {X : Cx} {st : Stmt} {rest : List Stmt} {t u : TS} {e : Expr} {te : TE} {pos : Pos}
def aCy : TS:=fun D σ H=>D.nx σ H
def tSeq (t u : TS) : TS:=fun D σ H=>t { D with nx:=u D } σ H
theorem bQ : PSs X [] aCy:=fun _ _ σ H _ I h=>wpAny_execs_nil ⟨σ,H,I,h⟩
theorem aF (h1 : PS X st t) (h2 : PSs X rest u) : PSs X (st :: rest) (tSeq t u):=by
 intro pins s σ H D I h
 refine wpAny_execs_cons (thn (h1 pins s σ H { D with nx:=u D } I h) fun f s1 q=>?_)
 cases f with
 | next =>
  obtain ⟨σ',H',I',q⟩:=q
  exact h2 pins s1 σ' H' D I' q
 | ret v=>exact q
 | brk=>exact q
 | cont=>exact q
theorem aJ (h1 : PS X st t) : PSs X [st] t:=by
 intro pins s σ H D I h
 refine wpAny_execs_cons (thn (h1 pins s σ H D I h) fun f s1 q=>?_)
 cases f with
 | next=>exact wpAny_execs_nil q
 | ret v=>exact q
 | brk=>exact q
 | cont=>exact q
theorem Inv.quiet {pins : List (Addr × Obj)} {σ : St} {H : Hp} {s : Shared} (I : Inv X pins σ H s) : interactive X.env = false:=by simp [interactive,I.ok.kind]
def aCz (te : TE) : TS:=fun D σ H=>te σ H fun _ H1=>D.nx σ H1
theorem eW (he : PE X e te) (hs : swapsWith e none pos.line X.env = pure false:=by rfl) : PS X (.Expr e pos) (aCz te):=by
 intro pins s σ H D I h
 exact wpAny_Expr_any (thn (he pins s σ H _ I h) fun v s1 ⟨x,H1,I1,r1,q1⟩=>⟨σ,H1,I1,q1⟩) I.quiet hs
def tRet (te : TE) : TS:=fun D σ H=>te σ H D.rt
theorem aW (he : PE X e te) : PS X (.Return (some e) pos) (tRet te):=by
 intro pins s σ H D I h
 exact wpAny_Return_some (thn (he pins s σ H _ I h) fun v s1 ⟨x,H1,I1,r1,q1⟩=>⟨x,σ,H1,I1,r1,q1⟩)
def tIfS (c : TT) (t u : TS) : TS:=fun D σ H=>c σ H fun b H1=>if b = true then t D σ H1 else u D σ H1
theorem bV {c : Expr} {a b : List Stmt} {tc : TT} (hc : PT X c tc) (ha : PSs X a t) (hb : PSs X b u) : PS X (.If c a b pos) (tIfS tc t u):=by
 intro pins s σ H D I h
 refine wpAny_If (thn (hc pins s σ H _ I h) fun d s1 ⟨H1,I1,q1⟩=>?_)
 cases d with
 | true=>exact ha pins s1 σ H1 D I1 q1
 | false=>exact hb pins s1 σ H1 D I1 q1
def aBW : TS:=fun _ _ _=>False
theorem cG {sts : List Stmt} : PSs X sts aBW:=fun _ _ _ _ _ _ h=>h.elim
end
abbrev TG:=V→St→Hp→(St→Hp→Prop)→Prop
abbrev TGs:=List V→St→Hp→(St→Hp→Prop)→Prop
def PG (X : Cx) (target : Expr) (t : TG) : Prop :=
 ∀ (pins : List (Addr × Obj)) (s : Shared) (σ : St) (H : Hp) (v : V) (u : Value) (Q : St→Hp→Prop),Inv X pins σ H s→RelV v u→t v σ H Q →
  wpAny (model X.prog X.w) X.A (assign target X.env u) (fun _ s'=>∃ σ' H',Inv X pins σ' H' s'∧Q σ' H') X.xe s
def PGs (X : Cx) (ts : List Expr) (t : TGs) : Prop :=
 ∀ (pins : List (Addr × Obj)) (s : Shared) (σ : St) (H : Hp) (vs : List V) (us : List Value) (Q : St→Hp→Prop),Inv X pins σ H s→Vals vs us→t vs σ H Q →
  wpAny (model X.prog X.w) X.A (assignInOrder ((assignEach ts X.env).map (·.2)) us) (fun _ s'=>∃ σ' H',Inv X pins σ' H' s'∧Q σ' H') X.xe s
abbrev TSet:=V→V→V→Hp→(Hp→Prop)→Prop
def PSet (X : Cx) (t : TSet) : Prop :=
 ∀ (pins : List (Addr × Obj)) (s : Shared) (σ : St) (H : Hp) (o i v : V) (ov iv u : Value) (Q : Hp→Prop),Inv X pins σ H s→RelV o ov→RelV i iv→RelV v u→t o i v H Q →
  wpAny (model X.prog X.w) X.A (setItem ov iv u) (fun _ s'=>∃ H',Inv X pins σ H' s'∧Q H') X.xe s
abbrev TIp:=V→V→Hp→VK→Prop
def PIp (X : Cx) (op : Operator) (t : TIp) : Prop :=
 ∀ (pins : List (Addr × Obj)) (s : Shared) (σ : St) (H : Hp) (x y : V) (v u : Value) (Q : VK),Inv X pins σ H s→RelV x v→RelV y u→t x y H Q →
  wpAny (model X.prog X.w) X.A (inplaceOp op v u) (EP X pins σ Q) X.xe s
section
variable {X : Cx} {pos : Pos}
def aQ (i : Nat) : TG:=fun v σ H Q=>Q (σ.set i (some v)) H
theorem aL {i : Nat} {x : Str} (hN : X.N.Nodup) (hi : X.N[i]? = some x) (hx : Loc X.env.scope x) (hf : X.fn x = true∨X.env.scope.names.lookup x = some .local:=by first | exact .inl rfl | exact .inr rfl | assumption) : PG X (.Name x pos) (aQ i):=by
 intro pins s σ H v u Q I r h
 exact wpAny_assign_Name (lC I hN hi hx r (fun s' I'=>⟨_,H,I',h⟩) hf)
def gNil : TGs:=fun vs σ H Q=>vs = []∧Q σ H
def cU (t : TG) (u : TGs) : TGs:=fun vs σ H Q=>∃ v r,vs = v :: r∧t v σ H fun σ' H'=>u r σ' H' Q
theorem cR : PGs X [] gNil:=by
 intro pins s σ H vs us Q I r h
 obtain ⟨e,h⟩:=h
 subst e
 cases r
 exact assignInOrder_nil ⟨σ,H,I,h⟩
theorem bC {e : Expr} {es : List Expr} {t : TG} {u : TGs} (h1 : PG X e t) (h2 : PGs X es u)
  (hs : (assignEach (e :: es) X.env).map (·.2) = assign e X.env :: (assignEach es X.env).map (·.2):=by rfl) : PGs X (e :: es) (cU t u):=by
 intro pins s σ H vs us Q I r h
 obtain ⟨v,vr,e1,h⟩:=h
 subst e1
 cases r with
 | cons r rr =>
  rw [hs]
  refine assignInOrder_cons (thn (h1 pins s σ H _ _ _ I r h) fun _ s1 ⟨σ1,H1,I1,q1⟩=>?_)
  exact h2 pins s1 σ1 H1 _ _ Q I1 rr q1
def gTup (K : PySem.W.Frag) (n : Nat) (t : TGs) : TG:=fun v σ H Q=>∃ a xs,v = .ref a∧SqT K H a xs∧xs.length = n∧t xs σ H Q
theorem dF {es : List Expr} {k : Nat} {t : TGs} {n : Nat} (hc : X.calm = true) (h : PGs X es t)
  (hn : (assignEach es X.env).length = n:=by rfl) (hst : (assignEach es X.env).findIdx? (·.1) = none:=by rfl) : PG X (.Tuple es k pos) (gTup X.K n t):=by
 intro pins s σ H v u Q I r hw
 obtain ⟨a,xs,e1,hq,hl,hw⟩:=hw
 subst e1
 cases r
 obtain ⟨its,rv,ht,hz⟩:=I.tuple hq
 refine assign_Tuple_tuple (I.ok.hd hc) ht (by simp [hn,← hl,rv.length]) hst fun h' hx=>?_
 have I1 : Inv X pins σ H { s with heap:=h' }:=I.kept (t':=s.toks) fun b o e=>hx b o (Nat.ne_of_lt (Heap.lt_size e)) e
 exact h pins _ σ H xs _ Q I1 (by simpa using rv) hw
def gSub (to ti : TE) (t : TSet) : TG:=fun v σ H Q=>to σ H fun o H1=>ti σ H1 fun i H2=>t o i v H2 fun H3=>Q σ H3
theorem lQ {o i : Expr} {to ti : TE} {t : TSet} (ho : PE X o to) (hi : PE X i ti) (hs : PSet X t)
  (ha : ∀ v,assign (.Subscript o i pos) X.env v = (do
   let ov ← holding [v] (eval o X.env)
   let iv ← holding [v,ov] (eval i X.env)
   standAt pos
   holding [v,ov,iv] (setItem ov iv v)
   release [v,ov,iv] []):=by intro _; rfl) : PG X (.Subscript o i pos) (gSub to ti t):=by
 intro pins s σ H v u Q I r h
 rw [ha]
 refine wpAny_bind (wpAny_holding (thn (ho pins s σ H _ I h) fun ov s1 ⟨x,H1,I1,r1,q1⟩=>?_))
 refine wpAny_bind (wpAny_holding (thn (hi pins s1 σ H1 _ I1 q1) fun iv s2 ⟨y,H2,I2,r2,q2⟩=>?_))
 refine wpAny_bind (wpAny_standAt (wpAny_bind (wpAny_holding (thn (hs pins s2 σ H2 x y v ov iv u _ I2 r1 r2 r q2) fun _ s3 ⟨H3,I3,q3⟩=>?_))))
 exact wpAny_release ⟨σ,H3,I3,q3⟩
def tAsg (te : TE) (g : TG) : TS:=fun D σ H=>te σ H fun x H1=>g x σ H1 D.nx
theorem eI {tg e : Expr} {te : TE} {g : TG} (he : PE X e te) (hg : PG X tg g) (hs : swapsWithSole [tg] e pos.line X.env = pure false:=by rfl) (hw : swappedStores [tg] e X.env = pure none:=by rfl)
  (h1 : (assignEach [tg] X.env).map (·.2) = [assign tg X.env]:=by rfl) : PS X (.Assign [tg] e pos) (tAsg te g):=by
 intro pins s σ H D I h
 refine wpAny_Assign_stores (thn (he pins s σ H _ I h) fun v s1 ⟨x,H1,I1,r1,q1⟩=>?_) hs hw
 rw [h1]
 exact thn (hg pins s1 σ H1 x v _ I1 r1 q1) fun _ s2 q=>q
theorem aV {i : Nat} {x : Str} {e : Expr} {te : TE} {pos' : Pos} (hN : X.N.Nodup) (hi : X.N[i]? = some x) (hx : Loc X.env.scope x) (he : PE X e te) (hs : swapsWith e (some (.Name x pos')) pos.line X.env = pure false:=by rfl) (hf : X.fn x = true∨X.env.scope.names.lookup x = some .local:=by first | exact .inl rfl | exact .inr rfl | assumption) :
  PS X (.Assign [.Name x pos'] e pos) (tAsg te (aQ i)):=by
 intro pins s σ H D I h
 refine wpAny_Assign_Name (thn (he pins s σ H _ I h) fun v s1 ⟨y,H1,I1,r1,q1⟩=>?_) hs
 exact lC I1 hN hi hx r1 (fun s2 I2=>⟨_,H1,I2,q1⟩) hf
def tAug (i : Nat) (te : TE) (ti : TIp) : TS:=fun D σ H=>∃ x,σ[i]? = some (some x)∧te σ H fun y H1=>ti x y H1 fun z H2=>D.nx (σ.set i (some z)) H2
theorem aBX {i : Nat} {x : Str} {e : Expr} {te : TE} {op : Operator} {ti : TIp} {pos' : Pos} (hN : X.N.Nodup) (hi : X.N[i]? = some x) (hx : Loc X.env.scope x) (he : PE X e te) (ho : PIp X op ti) (hf : X.fn x = true∨X.env.scope.names.lookup x = some .local:=by first | exact .inl rfl | exact .inr rfl | assumption) :
  PS X (.AugAssign (.Name x pos') op e pos) (tAug i te ti):=by
 intro pins s σ H D I h
 obtain ⟨v,e1,h⟩:=h
 obtain ⟨m,hn,hl⟩:=I.loc
 have vis : Vis X.env.scope x:=by rcases hx with k | k; exact .inl k; exact .inr (.inl k)
 obtain ⟨u,r,l⟩:=hl i x v hi e1 vis
 refine wpAny_AugAssign_Name ?_
 have go : wpAny (model X.prog X.w) X.A (eval e X.env) (fun w s₂=>wpAny (model X.prog X.w) X.A (inplaceOp op u w) (fun r s₃=>wpAny (model X.prog X.w) X.A (storeName X.env x r) (fun _=>SP X pins D .next) X.xe s₃) X.xe s₂) X.xe s:=by
  refine thn (he pins s σ H _ I h) fun w s1 ⟨y,H1,I1,r1,q1⟩=>?_
  refine thn (ho pins s1 σ H1 v y u w _ I1 r r1 q1) fun z s2 ⟨zv,H2,I2,r2,q2⟩=>?_
  exact lC I2 hN hi hx r2 (fun s3 I3=>⟨_,H2,I3,q2⟩) hf
 rcases l with ⟨hk,hm⟩ | ⟨hk,c,hc,hcell⟩
 ·exact wpAny_loadName_local I.ok.kind hk hn hm go
 ·rcases hk with hk | hk
  ·exact wpAny_loadName_cell I.ok.kind hk hc hcell go
  ·rcases hx with k | k
   ·have : X.env.scope.names.lookup x = some .free:=hk
    rw [k] at this; cases this
   ·have : X.env.scope.names.lookup x = some .free:=hk
    rw [k] at this; cases this
def ipI (f : Int→Int→Int) : TIp:=fun x y H Q=>∃ i j,x = .int i∧y = .int j∧Q (.int (f i j)) H
theorem aBY : PIp X .Add (ipI fun i j=>i + j):=by
 intro pins s σ H x y v u Q I r1 r2 h
 obtain ⟨i,j,e1,e2,q⟩:=h
 subst e1; subst e2
 obtain ⟨t,rfl⟩:=r1
 obtain ⟨t',rfl⟩:=r2
 exact iadd_int ⟨.int _,H,I.tok _,⟨_,rfl⟩,q⟩
end
section
variable {X : Cx} {pos : Pos}
def xC (c : TT) (tb : TS) : TS:=fun D σ H=>∃ W : Nat→St→Hp→Prop,(∃ m,W m σ H)∧∀ m σ H,W m σ H →
 c σ H fun b H1=>if b = true then ∃ N : St→Hp→Prop,(∀ σ' H',N σ' H'→∃ m',m' < m∧W m' σ' H')∧tb { D with nx:=N,ct:=N,bk:=D.nx } σ H1 else D.nx σ H1
theorem qA {c : Expr} {body : List Stmt} {tc : TT} {tb : TS} (hp : PassesOwn (model X.prog X.w) X.A X.env X.xe) (hc : PT X c tc) (hb : PSs X body tb) : PS X (.While c body [] pos) (xC tc tb):=by
 intro pins s σ H D I h
 obtain ⟨W,⟨m0,w0⟩,turn⟩:=h
 refine wpAny_While (codeAny_whileLoop (fun n s'=>∃ σ' H',Inv X pins σ' H' s'∧W n σ' H') ?_ m0 ⟨σ,H,I,w0⟩)
 rintro n s1 ⟨σ1,H1,I1,w1⟩
 refine wpAny_passesOwn hp (thn (hc pins s1 σ1 H1 _ I1 (turn n σ1 H1 w1)) fun b s2 ⟨H2,I2,q2⟩=>?_)
 cases b with
 | true =>
  obtain ⟨N,hN,q2⟩:=q2
  rw [if_pos rfl]
  refine wpAny_passesOwn hp (thn (hb pins s2 σ1 H2 _ I2 q2) fun f s3 q3=>?_)
  cases f with
  | next =>
   obtain ⟨σ3,H3,I3,n3⟩:=q3
   obtain ⟨m',hm,w3⟩:=hN σ3 H3 n3
   exact ⟨m',hm,σ3,H3,I3,w3⟩
  | cont =>
   obtain ⟨σ3,H3,I3,n3⟩:=q3
   obtain ⟨m',hm,w3⟩:=hN σ3 H3 n3
   exact ⟨m',hm,σ3,H3,I3,w3⟩
  | brk=>exact q3
  | ret v=>exact q3
 | false =>
  rw [if_neg Bool.false_ne_true]
  exact wpAny_execs_nil ⟨σ1,H2,I2,q2⟩
end
structure It where
 go : Nat→Hp→Prop
 yld : Nat→Hp→V→Hp→Prop
 stop : Nat→Hp→Prop
def FpOk (X : Cx) (pins : List (Addr × Obj)) (H : Hp) (b : Addr) : Prop :=
 H b = none∧b ≠ X.env.locals∧b ∉ X.fs∧(b∈X.ex∨X.s₀.heap.objs.size ≤ b)∧(∀ x c,X.env.cells.lookup x = some c→c ≠ b)∧∀ p∈X.pn ++ pins,p.1 ≠ b
theorem Inv.fpOk {X : Cx} {pins : List (Addr × Obj)} {σ : St} {H H' : Hp} {s : Shared} {b : Addr} (I : Inv X pins σ H s) (hb : s.heap.objs.size ≤ b) (hn : H' b = none) : FpOk X pins H' b:=by
 refine ⟨hn,Nat.ne_of_gt (Nat.lt_of_lt_of_le I.lt hb),I.nofs hb,.inr (Nat.le_trans I.sz hb),fun x c e z=>?_,fun p hp z=>?_⟩
 ·obtain ⟨v,q⟩:=I.cell x c e
  exact absurd (Nat.lt_of_lt_of_le q.lt (by rw [z]; exact hb)) (Nat.lt_irrefl _)
 ·exact absurd (Nat.lt_of_lt_of_le (Heap.lt_size (I.pin p hp).1) (by rw [z]; exact hb)) (Nat.lt_irrefl _)
structure Turn (P : Program) (w : World) (K : PySem.W.Frag) (tg : Expr) (J : It) (fp : List Addr) (it : Addr) (tn : Nat→Heap→Prop) : Prop where
 mem : it∈fp
 obj : ∀ i h,tn i h→∀ b∈fp,∃ o,h.get? b = some o∧∀ v,o.data ≠ .cell v
 keep : ∀ i h h',tn i h→(∀ b∈fp,∀ o,h.get? b = some o→h'.get? b = some o)→tn i h'
 item : ∀ (X : Cx),X.prog = P→X.w = w→X.K = K→X.calm = true→∀ (i : Nat) (pins : List (Addr × Obj)) (s : Shared) (σ : St) (H : Hp) (E : Value→Shared→Prop),Inv X pins σ H s→(∀ b∈fp,FpOk X pins H b)→tn i s.heap→J.go i H →
  wpAny (model P w) X.A (pyNext (.ref it)) (fun r s1=>∃ u,r = some u ∧
   wpAny (model P w) X.A (letOwnedTupleGo tg (.ref it) u) (fun _ s2=>∃ x H',Inv X pins σ H' s2∧RelV x u∧J.yld i H x H'∧tn (i + 1) s2.heap∧∀ b∈fp,H' b = none) E s1) E s
 done : ∀ (X : Cx),X.prog = P→X.w = w→X.K = K→X.calm = true→∀ (i : Nat) (pins : List (Addr × Obj)) (s : Shared) (σ : St) (H : Hp) (E : Value→Shared→Prop),Inv X pins σ H s→(∀ b∈fp,FpOk X pins H b)→tn i s.heap→J.stop i H →
  wpAny (model P w) X.A (pyNext (.ref it)) (fun r s1=>r = none∧Inv X pins σ H s1) E s
 self : ∀ (A : Around) (i : Nat) (s : Shared) (Q : Value→Shared→Prop) (E : Value→Shared→Prop),tn i s.heap→Q (.ref it) s→wpAny (model P w) A (pyIter (.ref it)) Q E s
abbrev TI:=St→Hp→(It→Hp→Prop)→Prop
def PIE (X : Cx) (pins : List (Addr × Obj)) (σ : St) (tg : Expr) (R : It→Hp→Prop) (itv : Value) (s2 : Shared) : Prop :=
 ∃ (it : Addr) (fp : List Addr) (tn : Nat→Heap→Prop) (J : It) (H' : Hp),itv = .ref it∧Inv X pins σ H' s2∧Turn X.prog X.w X.K tg J fp it tn∧tn 0 s2.heap∧(∀ b∈fp,FpOk X pins H' b)∧R J H'
def PI (X : Cx) (tg iter : Expr) (wi : TI) : Prop :=
 ∀ (pins : List (Addr × Obj)) (s : Shared) (σ : St) (H : Hp) (R : It→Hp→Prop),Inv X pins σ H s→wi σ H R →
  wpAny (model X.prog X.w) X.A (eval iter X.env) (fun v s1=>wpAny (model X.prog X.w) X.A (pyIter v) (PIE X pins σ tg R) X.xe s1) X.xe s
theorem vD {M : Model} {A : Around} {E : Value → Shared → Prop} {s : Shared} {tg : Expr} {it : Addr} {u : Value} {o : Obj} {n : String} {vs : Array Value} {Q : Unit → Shared → Prop} (ho : s.heap.get? it = some o) (hc : o.cls = .type n) (hd : o.data = .fields vs)
    (hn : ["enumerate", "zip", "dict_itemiterator", "dict_reverseitemiterator", "odict_iterator", "itertools.zip_longest", "itertools.pairwise"].contains n = false) (hQ : Q () s) : wpAny M A (letOwnedTupleGo tg (.ref it) u) Q E s := by
  unfold letOwnedTupleGo
  cases tg <;> first
    | exact wpAny_pure hQ
    | (cases u <;> first
        | exact wpAny_pure hQ
        | (refine wpAny_bind (wpAny_load ho ?_)
           rw [hc, hd]
           show wpAny M A (if (["enumerate", "zip", "dict_itemiterator", "dict_reverseitemiterator", "odict_iterator", "itertools.zip_longest", "itertools.pairwise"].contains n && vs[0]? == some (rawInt _)) = true then _ else _) Q E s
           rw [if_neg (by intro h; rw [hn, Bool.false_and] at h; cases h)]
           exact wpAny_pure hQ))
def Itl (K : PySem.W.Frag) (a : Addr) : It :=
 ⟨fun i H=>∃ xs x,SqL K H a xs∧xs[i]? = some x,fun i H x H'=>H' = H∧∀ xs,SqL K H a xs→xs[i]? = some x,fun i H=>∃ xs,SqL K H a xs∧xs.length ≤ i⟩
def Itt (K : PySem.W.Frag) (a : Addr) : It :=
 ⟨fun i H=>∃ xs x,SqT K H a xs∧xs[i]? = some x,fun i H x H'=>H' = H∧∀ xs,SqT K H a xs→xs[i]? = some x,fun i H=>∃ xs,SqT K H a xs∧xs.length ≤ i⟩
def Itr (lo : Int) (n : Nat) : It:=⟨fun i _=>i < n,fun i H x H'=>H' = H∧x = .int (lo + i),fun i _=>n ≤ i⟩
theorem xD {P : Program} {w : World} {K : PySem.W.Frag} {tg : Expr} (a it : Addr) : Turn P w K tg (Itl K a) [it] it (fun i h=>h.IsListIter it a i) where
 mem:=by simp
 obj:=fun i h st b hb=>by
  have e : b = it:=by simpa using hb
  subst e
  obtain ⟨o,e,c,d⟩:=st
  exact ⟨o,e,fun v z=>by rw [d] at z; cases z⟩
 keep:=fun i h h' st k=>st.at fun o e=>k it (by simp) o e
 item:=by
  intro X hP hw hK hc i pins s σ H E I hf st hg
  subst hP hw hK
  obtain ⟨xs,x,hq,hx⟩:=hg
  obtain ⟨its,rv,p,hz⟩:=I.list hq
  obtain ⟨u,hu,ru⟩:=rv.get hx
  obtain ⟨f0,f1,f2,f3,f4,f5⟩:=hf it (by simp)
  refine wpAny_pyNext_list_item st p.isList (x:=u) (by simpa using hu) fun h' st' sb=>?_
  have I1 : Inv X pins σ H { s with heap:=h' }:=I.turned (t':=s.toks) (fun b o hb e=>(sb.2 b hb).trans e) f0 f1 f3 f4 f5
  obtain ⟨o,e,c,d⟩:=id st'
  exact ⟨u,rfl,vD (s:={ s with heap:=h' }) e c d (by decide) ⟨x,H,I1,ru,⟨rfl,fun ys hy=>by rw [I.list_inj hy hq]; exact hx⟩,st',fun b hb=>(hf b hb).1⟩⟩
 done:=by
  intro X hP hw hK hc i pins s σ H E I hf st hg
  subst hP hw hK
  obtain ⟨xs,hq,hx⟩:=hg
  obtain ⟨its,rv,p,hz⟩:=I.list hq
  obtain ⟨f0,f1,f2,f3,f4,f5⟩:=hf it (by simp)
  have hl:=rv.length
  exact wpAny_pyNext_list_end (I.ok.hd hc) st p.isList (by simp; lia) fun h' eb=>⟨rfl,I.turned (t':=s.toks) (fun b o hb e=>eb b o hb e) f0 f1 f3 f4 f5⟩
 self:=fun _ _ _ _ _ st h=>wpAny_pyIter_listiter st h
theorem vE {P : Program} {w : World} {K : PySem.W.Frag} {tg : Expr} (a it : Addr) : Turn P w K tg (Itt K a) [it] it (fun i h=>h.IsTupleIter it a i) where
 mem:=by simp
 obj:=fun i h st b hb=>by
  have e : b = it:=by simpa using hb
  subst e
  obtain ⟨o,e,c,d⟩:=st
  exact ⟨o,e,fun v z=>by rw [d] at z; cases z⟩
 keep:=fun i h h' st k=>st.at fun o e=>k it (by simp) o e
 item:=by
  intro X hP hw hK hc i pins s σ H E I hf st hg
  subst hP hw hK
  obtain ⟨xs,x,hq,hx⟩:=hg
  obtain ⟨its,rv,p,hz⟩:=I.tuple hq
  obtain ⟨u,hu,ru⟩:=rv.get hx
  obtain ⟨f0,f1,f2,f3,f4,f5⟩:=hf it (by simp)
  refine wpAny_pyNext_tuple_item st (show s.heap.IsTuple a its.toArray from p) (x:=u) (by simpa using hu) fun h' st' sb=>?_
  have I1 : Inv X pins σ H { s with heap:=h' }:=I.turned (t':=s.toks) (fun b o hb e=>(sb.2 b hb).trans e) f0 f1 f3 f4 f5
  obtain ⟨o,e,c,d⟩:=id st'
  exact ⟨u,rfl,vD (s:={ s with heap:=h' }) e c d (by decide) ⟨x,H,I1,ru,⟨rfl,fun ys hy=>by rw [I.tuple_inj hy hq]; exact hx⟩,st',fun b hb=>(hf b hb).1⟩⟩
 done:=by
  intro X hP hw hK hc i pins s σ H E I hf st hg
  subst hP hw hK
  obtain ⟨xs,hq,hx⟩:=hg
  obtain ⟨its,rv,p,hz⟩:=I.tuple hq
  obtain ⟨f0,f1,f2,f3,f4,f5⟩:=hf it (by simp)
  have hl:=rv.length
  exact wpAny_pyNext_tuple_end (I.ok.hd hc) st (show s.heap.IsTuple a its.toArray from p) (by simp; lia) fun h' eb=>⟨rfl,I.turned (t':=s.toks) (fun b o hb e=>eb b o hb e) f0 f1 f3 f4 f5⟩
 self:=fun _ _ _ _ _ st h=>wpAny_pyIter_tupleiter st h
theorem vF {P : Program} {w : World} {K : PySem.W.Frag} {tg : Expr} (it : Addr) (lo : Int) (n : Nat) : Turn P w K tg (Itr lo n) [it] it (fun i h=>IsRangeIter h it (lo + (i : Nat) * 1) ((n : Int) - (i : Nat)) 1) where
 mem:=by simp
 obj:=fun i h st b hb=>by
  have e : b = it:=by simpa using hb
  subst e
  exact ⟨_,st,fun v z=>by
   have z' : Data.fields _ = Data.cell v:=z
   cases z'⟩
 keep:=fun i h h' st k=>k it (by simp) _ st
 item:=by
  intro X hP hw hK hc i pins s σ H E I hf st hg
  subst hP hw hK
  obtain ⟨f0,f1,f2,f3,f4,f5⟩:=hf it (by simp)
  have W:=Walks.range (prog:=X.prog) (w:=X.w) (I.ok.hd hc) it lo 1 n
  refine W.item i s _ _ hg st fun v h' tk hv st' kk=>?_
  obtain ⟨t,rfl⟩:=hv
  have I1 : Inv X pins σ H { s with heap:=h',toks:=tk }:=I.turned (fun b o hb e=>kk b o (by simpa using hb) e) f0 f1 f3 f4 f5
  refine ⟨_,rfl,vD (s:={ s with heap:=h',toks:=tk }) (n := "range_iterator") st' rfl rfl (by decide) ⟨.int (lo + i),H,I1,⟨t,?_⟩,⟨rfl,rfl⟩,st',fun b hb=>(hf b hb).1⟩⟩
  rw [Int.mul_one]
 done:=by
  intro X hP hw hK hc i pins s σ H E I hf st hg
  subst hP hw hK
  obtain ⟨f0,f1,f2,f3,f4,f5⟩:=hf it (by simp)
  exact wpAny_pyNext_range_end (I.ok.hd hc) st (by have : n ≤ i:=hg; lia) fun h' eb=>⟨rfl,I.turned (t':=s.toks) (fun b o hb e=>eb b o hb e) f0 f1 f3 f4 f5⟩
 self:=fun _ _ _ _ _ st h=>wpAny_pyIter_rangeiter st h
end L2
namespace L2
open PySem PySem.Spec PyProof.Rows
section
variable {X : Cx} {tg : Expr}
def iU (K : PySem.W.Frag) (tl : TE) : TI:=fun σ H R=>tl σ H fun x H1=>∃ a,x = .ref a∧(∃ xs,SqL K H1 a xs)∧R (Itl K a) H1
def iTup (K : PySem.W.Frag) (tl : TE) : TI:=fun σ H R=>tl σ H fun x H1=>∃ a,x = .ref a∧(∃ xs,SqT K H1 a xs)∧R (Itt K a) H1
theorem bG {l : Expr} {tl : TE} (hl : PE X l tl) : PI X tg l (iU X.K tl):=by
 intro pins s σ H R I h
 refine thn (hl pins s σ H _ I h) fun v s1 ⟨x,H1,I1,r1,q1⟩=>?_
 obtain ⟨a,e,⟨xs,hq⟩,q⟩:=q1
 subst e
 cases r1
 obtain ⟨its,rv,p,hz⟩:=I1.list hq
 refine wpAny_pyIter_list p.isList ?_
 refine ⟨s1.heap.objs.size,[s1.heap.objs.size],_,_,H1,rfl,I1.kept (t':=s1.toks) fun b o e=>Heap.get?_push_of_some _ e,xD a _,⟨_,Heap.get?_push_size _ rfl,rfl,rfl⟩,fun b hb=>?_,q⟩
 have e : b = s1.heap.objs.size:=by simpa using hb
 subst e
 exact I1.fpOk (Nat.le_refl _) (I1.hok.fresh (Nat.le_refl _))
theorem aBZ {l : Expr} {tl : TE} (hl : PE X l tl) : PI X tg l (iTup X.K tl):=by
 intro pins s σ H R I h
 refine thn (hl pins s σ H _ I h) fun v s1 ⟨x,H1,I1,r1,q1⟩=>?_
 obtain ⟨a,e,⟨xs,hq⟩,q⟩:=q1
 subst e
 cases r1
 obtain ⟨its,rv,p,hz⟩:=I1.tuple hq
 refine wpAny_pyIter_tuple (show s1.heap.IsTuple a its.toArray from p) ?_
 refine ⟨s1.heap.objs.size,[s1.heap.objs.size],_,_,H1,rfl,I1.kept (t':=s1.toks) fun b o e=>Heap.get?_push_of_some _ e,vE a _,⟨_,Heap.get?_push_size _ rfl,rfl,rfl⟩,fun b hb=>?_,q⟩
 have e : b = s1.heap.objs.size:=by simpa using hb
 subst e
 exact I1.fpOk (Nat.le_refl _) (I1.hok.fresh (Nat.le_refl _))
theorem qB {pins : List (Addr × Obj)} {σ : St} {H : Hp} {s : Shared} {R : It→Hp→Prop} {E : Value→Shared→Prop} {lo hi : Int} {t u v : Tok} {tk : Nat} (I : Inv X pins σ H s) (h1 : -(2 ^ 62) ≤ lo) (h2 : lo < 2 ^ 62) (h3 : -(2 ^ 62) ≤ hi) (h4 : hi < 2 ^ 62)
  (q : R (Itr lo (hi - lo).toNat) H) : wpAny (model X.prog X.w) X.A (pyIter (.ref s.heap.objs.size)) (PIE X pins σ tg R) E { s with heap:=s.heap.push { cls:=.type "range",data:=.fields #[.int lo t,.int hi u,.int 1 v] },toks:=tk }:=by
 refine wpAny_pyIter_range (IsRange.new ..) (small_one h1 h2 h3 h4) ?_
 have I1 : Inv X pins σ H { s with heap:=s.heap.push { cls:=.type "range",data:=.fields #[.int lo t,.int hi u,.int 1 v] },toks:=tk }:=I.kept fun b o e=>Heap.get?_push_of_some _ e
 refine ⟨(s.heap.push { cls:=.type "range",data:=.fields #[.int lo t,.int hi u,.int 1 v] }).objs.size,[(s.heap.push { cls:=.type "range",data:=.fields #[.int lo t,.int hi u,.int 1 v] }).objs.size],_,_,H,rfl,
  I1.kept (t':=tk) fun b o e=>Heap.get?_push_of_some _ e,vF _ lo (hi - lo).toNat,?_,fun b hb=>?_,q⟩
 ·have e1 : lo + ((0 : Nat) : Int) * 1 = lo:=by simp
  have e2 : (((hi - lo).toNat : Nat) : Int) - ((0 : Nat) : Int) = Builtin.Range.rangeSize lo hi 1:=by rw [rangeSize_one]; split <;> lia
  show IsRangeIter _ _ (lo + ((0 : Nat) : Int) * 1) ((((hi - lo).toNat : Nat) : Int) - ((0 : Nat) : Int)) 1
  rw [e1,e2]
  exact Heap.get?_push_size _ rfl
 ·have e : b = (s.heap.push { cls:=.type "range",data:=.fields #[.int lo t,.int hi u,.int 1 v] }).objs.size:=by simpa using hb
  subst e
  exact I1.fpOk (Nat.le_refl _) (I1.hok.fresh (Nat.le_refl _))
def aCA (ta : TA) : TI:=fun σ H R=>ta σ H fun vs H1=>∃ j : Int,vs = [.int j]∧-(2 ^ 62) ≤ j∧j < 2 ^ 62∧R (Itr 0 j.toNat) H1
def aCB (ta : TA) : TI:=fun σ H R=>ta σ H fun vs H1=>∃ i j : Int,vs = [.int i,.int j]∧(-(2 ^ 62) ≤ i∧i < 2 ^ 62∧-(2 ^ 62) ≤ j∧j < 2 ^ 62)∧R (Itr i (j - i).toNat) H1
theorem bZ {a : Expr} {ta : TA} {p pos : Pos} (hg : Gl X "range") (hm : X.mg "range" = none) (ha : PA X [a] ta) (hs : starEach [a] X.env = [(false,eval a X.env)]:=by rfl) : PI X tg (.Call (.Name "range" p) [a] [] pos) (aCA ta):=by
 intro pins s σ H R I h
 refine Call_ (iH I hg hm boot_range (PyProof.Rows.callWith_type1 (thn (ha pos pins s σ H _ I h) fun us s1 ⟨vs,H1,I1,r1,q1⟩=>?_) hs rfl))
 obtain ⟨j,e,q1,q2,q⟩:=q1
 subst e
 cases r1 with
 | cons r rr =>
  cases rr
  obtain ⟨t,rfl⟩:=r
  exact call_range_1 (qB I1 (by lia) (by lia) q1 q2 (by simpa using q))
theorem xE {a b : Expr} {ta : TA} {p pos : Pos} (hg : Gl X "range") (hm : X.mg "range" = none) (ha : PA X [a,b] ta) (hs : starEach [a,b] X.env = [(false,eval a X.env),(false,eval b X.env)]:=by rfl) (hs2 : starEach [b] X.env = [(false,eval b X.env)]:=by rfl) :
  PI X tg (.Call (.Name "range" p) [a,b] [] pos) (aCB ta):=by
 intro pins s σ H R I h
 refine Call_ (iH I hg hm boot_range (PyProof.Rows.callWith_type1 (thn (ha pos pins s σ H _ I h) fun us s1 ⟨vs,H1,I1,r1,q1⟩=>?_) (by rw [hs,hs2]) (by rw [hs2]; rfl)))
 obtain ⟨i,j,e,⟨q1,q2,q3,q4⟩,q⟩:=q1
 subst e
 cases r1 with
 | cons r rr =>
  cases rr with
  | cons r' rr =>
   cases rr
   obtain ⟨t,rfl⟩:=r
   obtain ⟨t',rfl⟩:=r'
   exact call_range_2 (qB I1 q1 q2 q3 q4 q)
def tFor (wi : TI) (g : TG) (tb : TS) : TS:=fun D σ H=>wi σ H fun J H1=>∃ W : Nat→Nat→St→Hp→Prop,(∃ m,W 0 m σ H1)∧∀ i m σ H,W i m σ H →
 (J.stop i H∧D.nx σ H)∨(J.go i H∧∃ N : St→Hp→Prop,(∀ σ' H',N σ' H'→∃ m',m' < m∧W (i + 1) m' σ' H')∧∀ x H',J.yld i H x H'→g x σ H' fun σ2 H2=>tb { D with nx:=N,ct:=N,bk:=D.nx } σ2 H2)
def jJ (fp : List Addr) (h : Heap) : List (Addr × Obj):=fp.filterMap fun b=>(h.get? b).map fun o=>(b,o)
theorem fS {fp : List Addr} {h : Heap} {b : Addr} {o : Obj} (hb : b∈fp) (e : h.get? b = some o) : (b,o)∈jJ fp h:=List.mem_filterMap.mpr ⟨b,hb,by rw [e]; rfl⟩
theorem xF {fp : List Addr} {h : Heap} {p : Addr × Obj} (hp : p∈jJ fp h) : p.1∈fp∧h.get? p.1 = some p.2:=by
 obtain ⟨b,hb,e⟩:=List.mem_filterMap.mp hp
 cases q : h.get? b with
 | none=>rw [q] at e; cases e
 | some o =>
  rw [q] at e
  have e' : (b,o) = p:=Option.some.inj e
  subst e'
  exact ⟨hb,q⟩
theorem Inv.pinned {pins : List (Addr × Obj)} {σ : St} {H : Hp} {s : Shared} {fp : List Addr} (I : Inv X pins σ H s) (hf : ∀ b∈fp,FpOk X pins H b) (ho : ∀ b∈fp,∃ o,s.heap.get? b = some o∧∀ v,o.data ≠ .cell v) : Inv X (pins ++ jJ fp s.heap) σ H s :=
 I.pins_of fun p hp=>(List.mem_append.mp hp).elim (fun z=>I.pin p (List.mem_append_right _ z)) fun z=>by
  obtain ⟨hb,e⟩:=xF z
  obtain ⟨f0,f1,f2,_⟩:=hf p.1 hb
  obtain ⟨o,e',d⟩:=ho p.1 hb
  rw [e] at e'; cases e'
  exact ⟨e,f0,f1,f2,d⟩
theorem Inv.unpinned {pins pl : List (Addr × Obj)} {σ : St} {H : Hp} {s : Shared} (I : Inv X (pins ++ pl) σ H s) : Inv X pins σ H s:=I.pins_of fun p hp=>I.pin p (List.mem_append_right _ (List.mem_append_left _ hp))
theorem gC {iter : Expr} {body : List Stmt} {wi : TI} {g : TG} {tb : TS} {pos : Pos} (hp : PassesOwn (model X.prog X.w) X.A X.env X.xe) (hc : X.calm = true) (hi : PI X tg iter wi) (hg : PG X tg g) (hb : PSs X body tb)
  (hs : ∀ x,foldedSetIterable iter X.env x = pure x:=by intro _; rfl) : PS X (.For tg iter body [] pos) (tFor wi g tb):=by
 intro pins s σ H D I h
 refine wpAny_For (thn (hi pins s σ H _ I h) fun v s1 h1=>thn h1 fun itv s2 h2=>?_) hs
 obtain ⟨it,fp,tn,J,H2,e,I2,T,st2,f2,W,⟨m0,w0⟩,turn⟩:=h2
 subst e
 have stat : ∀ {H' : Hp},(∀ b∈fp,H' b = none)→∀ b∈fp,FpOk X pins H' b:=fun hn b hb=>⟨hn b hb,(f2 b hb).2⟩
 refine codeAny_forLoop_any (fun n s'=>∃ i σ' H',Inv X pins σ' H' s'∧tn i s'.heap∧(∀ b∈fp,H' b = none)∧W i n σ' H') ?_ m0 ⟨0,σ,H2,I2,st2,fun b hb=>(f2 b hb).1,w0⟩
 rintro n s3 ⟨i,σ3,H3,I3,st3,fr3,w3⟩
 rcases turn i n σ3 H3 w3 with ⟨stop,qn⟩ | ⟨go,N,hN,step⟩
 ·refine wpAny_passesOwn hp (thn (T.done X rfl rfl rfl hc i pins s3 σ3 H3 X.xe I3 (stat fr3) st3 stop) fun r s4 ⟨hr,I4⟩=>?_)
  subst hr
  exact wpAny_execs_nil ⟨σ3,H3,I4,qn⟩
 ·refine wpAny_passesOwn hp (thn (T.item X rfl rfl rfl hc i pins s3 σ3 H3 X.xe I3 (stat fr3) st3 go) fun r s4 ⟨u,hr,h4⟩=>?_)
  subst hr
  refine wpAny_passesOwn hp (thn h4 fun _ s5 ⟨x,H5,I5,r5,y5,st5,fr5⟩=>?_)
  have I5':=I5.pinned (stat fr5) (T.obj _ _ st5)
  refine wpAny_passesOwn hp (thn (hg _ s5 σ3 H5 x u _ I5' r5 (step x H5 y5)) fun _ s6 ⟨σ6,H6,I6,q6⟩=>?_)
  refine wpAny_passesOwn hp (thn (hb _ s6 σ6 H6 _ I6 q6) fun f s7 q7=>?_)
  have again : ∀ {σ7 : St} {H7 : Hp},Inv X (pins ++ jJ fp s5.heap) σ7 H7 s7→N σ7 H7→∃ m,m < n∧∃ i σ' H',Inv X pins σ' H' s7∧tn i s7.heap∧(∀ b∈fp,H' b = none)∧W i m σ' H':=fun {σ7 H7} I7 n7=>by
   obtain ⟨m',hm,w7⟩:=hN σ7 H7 n7
   refine ⟨m',hm,i + 1,σ7,H7,I7.unpinned,T.keep _ _ _ st5 fun b hb o e=>(I7.pin (b,o) (List.mem_append_right _ (List.mem_append_right _ (fS hb e)))).1,fun b hb=>?_,w7⟩
   obtain ⟨o,e,d⟩:=T.obj _ _ st5 b hb
   exact (I7.pin (b,o) (List.mem_append_right _ (List.mem_append_right _ (fS hb e)))).2.1
  cases f with
  | next=>obtain ⟨σ7,H7,I7,n7⟩:=q7; exact again I7 n7
  | cont=>obtain ⟨σ7,H7,I7,n7⟩:=q7; exact again I7 n7
  | brk=>obtain ⟨σ7,H7,I7,q7⟩:=q7; exact ⟨σ7,H7,I7.unpinned,q7⟩
  | ret v=>obtain ⟨x7,σ7,H7,I7,r7,q7⟩:=q7; exact ⟨x7,σ7,H7,I7.unpinned,r7,q7⟩
end
theorem lD {K : PySem.W.Frag} {a : Addr} {xs : List V} {g : TG} {tb : TS} {D : Ends} {σ : St} {H : Hp} (Pv : Nat→St→Hp→Prop) (h0 : Pv 0 σ H) (hl : ∀ i σ H,i ≤ xs.length→Pv i σ H→SqL K H a xs)
  (hs : ∀ i x σ H,xs[i]? = some x→Pv i σ H→g x σ H fun σ2 H2=>tb { D with nx:=Pv (i + 1),ct:=Pv (i + 1),bk:=D.nx } σ2 H2) (hd : ∀ σ H,Pv xs.length σ H→D.nx σ H) :
  ∃ W : Nat→Nat→St→Hp→Prop,(∃ m,W 0 m σ H)∧∀ i m σ H,W i m σ H →
   ((Itl K a).stop i H∧D.nx σ H)∨((Itl K a).go i H∧∃ N : St→Hp→Prop,(∀ σ' H',N σ' H'→∃ m',m' < m∧W (i + 1) m' σ' H')∧∀ x H',(Itl K a).yld i H x H'→g x σ H' fun σ2 H2=>tb { D with nx:=N,ct:=N,bk:=D.nx } σ2 H2):=by
 refine ⟨fun i m σ H=>m = xs.length - i∧i ≤ xs.length∧Pv i σ H,⟨xs.length,by simp,Nat.zero_le _,h0⟩,?_⟩
 rintro i m σ H ⟨rfl,hi,p⟩
 have q:=hl i σ H hi p
 by_cases hlt : i < xs.length
 ·refine .inr ⟨⟨xs,xs[i],q,by simp [hlt]⟩,Pv (i + 1),fun σ' H' p'=>⟨xs.length - (i + 1),by lia,rfl,hlt,p'⟩,fun x H' y=>?_⟩
  obtain ⟨e,y⟩:=y
  subst e
  exact hs i x σ _ (y xs q) p
 ·have e : i = xs.length:=by lia
  subst e
  exact .inl ⟨⟨xs,q,Nat.le_refl _⟩,hd σ H p⟩
theorem hV {lo : Int} {n : Nat} {g : TG} {tb : TS} {D : Ends} {σ : St} {H : Hp} (Pv : Nat→St→Hp→Prop) (h0 : Pv 0 σ H)
  (hs : ∀ i σ H,i < n→Pv i σ H→g (.int (lo + i)) σ H fun σ2 H2=>tb { D with nx:=Pv (i + 1),ct:=Pv (i + 1),bk:=D.nx } σ2 H2) (hd : ∀ σ H,Pv n σ H→D.nx σ H) :
  ∃ W : Nat→Nat→St→Hp→Prop,(∃ m,W 0 m σ H)∧∀ i m σ H,W i m σ H →
   ((Itr lo n).stop i H∧D.nx σ H)∨((Itr lo n).go i H∧∃ N : St→Hp→Prop,(∀ σ' H',N σ' H'→∃ m',m' < m∧W (i + 1) m' σ' H')∧∀ x H',(Itr lo n).yld i H x H'→g x σ H' fun σ2 H2=>tb { D with nx:=N,ct:=N,bk:=D.nx } σ2 H2):=by
 refine ⟨fun i m σ H=>m = n - i∧i ≤ n∧Pv i σ H,⟨n,by simp,Nat.zero_le _,h0⟩,?_⟩
 rintro i m σ H ⟨rfl,hi,p⟩
 by_cases hlt : i < n
 ·refine .inr ⟨hlt,Pv (i + 1),fun σ' H' p'=>⟨n - (i + 1),by lia,rfl,hlt,p'⟩,fun x H' y=>?_⟩
  obtain ⟨e,y⟩:=y
  subst e y
  exact hs i σ _ hlt p
 ·have e : i = n:=by lia
  subst e
  exact .inl ⟨Nat.le_refl _,hd σ H p⟩
theorem qC {c : TT} {tb : TS} {D : Ends} {σ : St} {H : Hp} (Pv : St→Hp→Prop) (μ : St→Hp→Nat) (h0 : Pv σ H)
  (hs : ∀ σ H,Pv σ H→c σ H fun b H1=>if b = true then tb { D with nx:=fun σ' H'=>Pv σ' H'∧μ σ' H' < μ σ H,ct:=fun σ' H'=>Pv σ' H'∧μ σ' H' < μ σ H,bk:=D.nx } σ H1 else D.nx σ H1)
  (mono : ∀ σ H Q Q',(∀ b H1,Q b H1→Q' b H1)→c σ H Q→c σ H Q') : xC c tb D σ H:=by
 refine ⟨fun m σ H=>m = μ σ H∧Pv σ H,⟨_,rfl,h0⟩,?_⟩
 rintro m σ H ⟨rfl,p⟩
 refine mono σ H _ _ (fun b H1 q=>?_) (hs σ H p)
 cases b with
 | true=>exact ⟨_,fun σ' H' ⟨p',l⟩=>⟨_,l,rfl,p'⟩,q⟩
 | false=>exact q
end L2
namespace L2
open PySem PySem.Spec PyProof.Rows
abbrev R2:=V→V→Hp→VK→Prop
def OpR (X : Cx) (f : Value→Value→Sem Value) (r : R2) : Prop :=
 ∀ (pins : List (Addr × Obj)) (s : Shared) (σ : St) (H : Hp) (x y : V) (v u : Value) (Q : VK),Inv X pins σ H s→RelV x v→RelV y u→r x y H Q →
  wpAny (model X.prog X.w) X.A (f v u) (EP X pins σ Q) X.xe s
def UnR (X : Cx) (f : Value→Sem Value) (r : V→Hp→VK→Prop) : Prop :=
 ∀ (pins : List (Addr × Obj)) (s : Shared) (σ : St) (H : Hp) (x : V) (v : Value) (Q : VK),Inv X pins σ H s→RelV x v→r x H Q →
  wpAny (model X.prog X.w) X.A (f v) (EP X pins σ Q) X.xe s
def cV (X : Cx) (f : Value) (r : List V→Hp→VK→Prop) : Prop :=
 ∀ (pins : List (Addr × Obj)) (s : Shared) (σ : St) (H : Hp) (xs : List V) (us : List Value) (Q : VK),Inv X pins σ H s→Vals xs us→r xs H Q →
  wpAny (model X.prog X.w) X.A (call f us) (EP X pins σ Q) X.xe s
def tOp (r : R2) (ta tb : TE) : TE:=fun σ H Q=>ta σ H fun x H1=>tb σ H1 fun y H2=>r x y H2 Q
def tUn (r : V→Hp→VK→Prop) (ta : TE) : TE:=fun σ H Q=>ta σ H fun x H1=>r x H1 Q
def rI (C : Int→Int→Prop) (g : Int→Int→V) : R2:=fun x y H Q=>∃ i j,x = .int i∧y = .int j∧C i j∧Q (g i j) H
def rI0 (g : Int→Int→V) : R2:=fun x y H Q=>∃ i j,x = .int i∧y = .int j∧Q (g i j) H
def rU (g : Int→V) : V→Hp→VK→Prop:=fun x H Q=>∃ i,x = .int i∧Q (g i) H
section
variable {X : Cx} {a b c : Expr} {ta tb tc : TE} {pos : Pos}
theorem binT (ha : PE X a ta) (hb : PE X b tb) {pins : List (Addr × Obj)} {s : Shared} {σ : St} {H : Hp} {R : V→V→Hp→Prop} (I : Inv X pins σ H s)
  (h : ta σ H fun x H1=>tb σ H1 fun y H2=>R x y H2) {Q : Value→Shared→Prop} {f : Value→Value→Sem Value}
  (hf : ∀ v u s2 x y H2,Inv X pins σ H2 s2→RelV x v→RelV y u→R x y H2→wpAny (model X.prog X.w) X.A (f v u) Q X.xe s2) :
  wpAny (model X.prog X.w) X.A (eval a X.env) (fun v s₁=>wpAny (model X.prog X.w) X.A (eval b X.env) (fun u s₂=>wpAny (model X.prog X.w) X.A (f v u) Q X.xe s₂) X.xe s₁) X.xe s:=by
 refine thn (ha pins s σ H _ I h) fun v s1 ⟨x,H1,I1,r1,q1⟩=>?_
 refine thn (hb pins s1 σ H1 _ I1 q1) fun u s2 ⟨y,H2,I2,r2,q2⟩=>?_
 exact hf v u s2 x y H2 I2 r1 r2 q2
theorem bA {op : Operator} {r : R2} (ho : OpR X (binaryOp op) r) (ha : PE X a ta) (hb : PE X b tb) : PE X (.BinOp a op b pos) (tOp r ta tb):=by
 intro pins s σ H Q I h
 exact wpAny_BinOp (binT ha hb I h fun v u s2 x y H2 I2 rx ry q=>ho pins s2 σ H2 x y v u Q I2 rx ry q)
theorem vG {op : UnaryOp} {r : V→Hp→VK→Prop} (ho : UnR X (unaryOp op) r) (ha : PE X a ta) : PE X (.UnaryOp op a pos) (tUn r ta):=by
 intro pins s σ H Q I h
 exact UnaryOp_ (thn (ha pins s σ H _ I h) fun v s1 ⟨x,H1,I1,r1,q1⟩=>ho pins s1 σ H1 x v Q I1 r1 q1)
theorem opI {f : Value→Value→Sem Value} {C : Int→Int→Prop} {g : Int→Int→Int}
  (rule : ∀ (i j : Int) (t u : Tok) (s : Shared) (Q : Value→Shared→Prop) (E : Value→Shared→Prop),C i j→Q (.int (g i j) s.toks) { s with toks:=s.toks + 1 }→wpAny (model X.prog X.w) X.A (f (.int i t) (.int j u)) Q E s) :
  OpR X f (rI C fun i j=>.int (g i j)):=by
 intro pins s σ H x y v u Q I rx ry h
 obtain ⟨i,j,rfl,rfl,hc,q⟩:=h
 obtain ⟨t,rfl⟩:=rx
 obtain ⟨t',rfl⟩:=ry
 exact rule i j t t' s _ _ hc ⟨.int (g i j),H,I.tok _,⟨_,rfl⟩,q⟩
theorem opI0 {f : Value→Value→Sem Value} {g : Int→Int→Int}
  (rule : ∀ (i j : Int) (t u : Tok) (s : Shared) (Q : Value→Shared→Prop) (E : Value→Shared→Prop),Q (.int (g i j) s.toks) { s with toks:=s.toks + 1 }→wpAny (model X.prog X.w) X.A (f (.int i t) (.int j u)) Q E s) :
  OpR X f (rI0 fun i j=>.int (g i j)):=by
 intro pins s σ H x y v u Q I rx ry h
 obtain ⟨i,j,rfl,rfl,q⟩:=h
 obtain ⟨t,rfl⟩:=rx
 obtain ⟨t',rfl⟩:=ry
 exact rule i j t t' s _ _ ⟨.int (g i j),H,I.tok _,⟨_,rfl⟩,q⟩
theorem opB0 {f : Value→Value→Sem Value} {g : Int→Int→Bool}
  (rule : ∀ (i j : Int) (t u : Tok) (s : Shared) (Q : Value→Shared→Prop) (E : Value→Shared→Prop),Q (.bool (g i j)) s→wpAny (model X.prog X.w) X.A (f (.int i t) (.int j u)) Q E s) :
  OpR X f (rI0 fun i j=>.bl (g i j)):=by
 intro pins s σ H x y v u Q I rx ry h
 obtain ⟨i,j,rfl,rfl,q⟩:=h
 obtain ⟨t,rfl⟩:=rx
 obtain ⟨t',rfl⟩:=ry
 exact rule i j t t' s _ _ ⟨.bl (g i j),H,I,rfl,q⟩
def CDiv (i j : Int) : Prop:=0 < j∧j < 1073741824
def CPow (i j : Int) : Prop:=0 ≤ j∧j ≤ 1000000∧i.natAbs < 2 ^ 64
def CMul (i j : Int) : Prop:=(-(2 ^ 64) < i∧i < 2 ^ 64)∨(-(2 ^ 64) < j∧j < 2 ^ 64)
theorem CMul.ok {i j : Int} (h : CMul i j) : IntMulOk i j:=by
 rcases h with ⟨h1,h2⟩ | ⟨h1,h2⟩
 ·exact .of_left (intBits_le_64 h1 h2)
 ·exact .of_right (intBits_le_64 h1 h2)
theorem dA : OpR X (binaryOp .Add) (rI0 fun i j=>.int (i + j)):=opI0 fun _ _ _ _ _ _ _ q=>add_int q
theorem gD : OpR X (binaryOp .Sub) (rI0 fun i j=>.int (i - j)):=opI0 fun _ _ _ _ _ _ _ q=>sub_int q
theorem qD : OpR X (binaryOp .Mult) (rI CMul fun i j=>.int (i * j)):=opI fun _ _ _ _ _ _ _ hc q=>mul_int q hc.ok
theorem mZ : OpR X (binaryOp .FloorDiv) (rI CDiv fun i j=>.int (i / j)):=opI fun i j _ _ _ _ _ hc q=>by
 have h1 : (0 : Int) < j:=hc.1
 have h2 : j < 1073741824:=hc.2
 exact floordiv_int (by lia) (by rw [Int.fdiv_eq_ediv_of_nonneg i (by lia)]; exact q) (.inl (PyProof.noPylong_small (by lia)))
theorem eZ : OpR X (binaryOp .Mod) (rI (fun _ j=>0 < j) fun i j=>.int (i % j)):=opI fun i j _ _ _ _ _ hc q=>by
 have h1 : (0 : Int) < j:=hc
 exact mod_int' (by lia) (by rw [Int.fmod_eq_emod_of_nonneg i (by lia)]; exact q)
theorem qE : OpR X (binaryOp .Pow) (rI CPow fun i j=>.int (i ^ j.toNat)):=opI fun _ _ _ _ _ _ _ hc q=>pow_int_small hc.1 hc.2.1 hc.2.2 q
theorem unI {f : Value→Sem Value} {g : Int→Int}
  (rule : ∀ (i : Int) (t : Tok) (s : Shared) (Q : Value→Shared→Prop) (E : Value→Shared→Prop),Q (.int (g i) s.toks) { s with toks:=s.toks + 1 }→wpAny (model X.prog X.w) X.A (f (.int i t)) Q E s) :
  UnR X f (rU fun i=>.int (g i)):=by
 intro pins s σ H x v Q I rx h
 obtain ⟨i,rfl,q⟩:=h
 obtain ⟨t,rfl⟩:=rx
 exact rule i t s _ _ ⟨.int (g i),H,I.tok _,⟨_,rfl⟩,q⟩
theorem qF : UnR X (unaryOp .USub) (rU fun i=>.int (-i)):=unI fun _ _ _ _ _ q=>neg_int q
end
def scal : V→V→Bool
 | .non,.non=>true | .non,.int _=>true | .int _,.non=>true | .non,.bl _=>true | .bl _,.non=>true | .non,.str _=>true | .str _,.non=>true
 | .int _,.int _=>true | .bl _,.bl _=>true | .str _,.str _=>true | .byt _,.byt _=>true
 | .int _,.str _=>true | .str _,.int _=>true | .bl _,.str _=>true | .str _,.bl _=>true
 | _,_=>false
def rEq : R2:=fun x y H Q=>scal x y = true∧Q (.bl (decide (x = y))) H
def rNe : R2:=fun x y H Q=>scal x y = true∧Q (.bl (!decide (x = y))) H
theorem tL {i j : Int} : decide (V.int i = V.int j) = (i == j):=by
 rw [Bool.eq_iff_iff]
 simp
theorem xG {i j : Bool} : decide (V.bl i = V.bl j) = (i == j):=by
 rw [Bool.eq_iff_iff]
 simp
theorem tO {i j : Str} : decide (V.str i = V.str j) = (i == j):=by
 rw [Bool.eq_iff_iff]
 simp
theorem tP {i j : Array UInt8} : decide (V.byt i = V.byt j) = (i.toList == j.toList):=by
 rw [Bool.eq_iff_iff]
 cases i
 cases j
 simp
section
variable {X : Cx} {a b c : Expr} {ta tb tc : TE} {pos : Pos}
theorem bN {pins : List (Addr × Obj)} {σ : St} {H : Hp} {s : Shared} {Q : VK} {k k' : Bool} (I : Inv X pins σ H s) (q : Q (.bl k) H) (e : k = k') : EP X pins σ Q (.bool k') s:=by
 subst e
 exact ⟨.bl k,H,I,rfl,q⟩
theorem cI : OpR X (compareOp .Eq) rEq:=by
 intro pins s σ H x y v u Q I rx ry h
 obtain ⟨hs,q⟩:=h
 cases x with
 | non =>
  cases rx
  cases y with
  | non=>cases ry; exact PySem.EqNone.eq_none_none (bN I q (by simp))
  | bl j=>cases ry; exact PySem.EqNone.eq_none_bool (bN I q (by simp))
  | int j=>obtain ⟨t',rfl⟩:=ry; exact PySem.EqNone.eq_none_int (bN I q (by simp))
  | str j=>obtain ⟨t',rfl⟩:=ry; exact PySem.EqNone.eq_none_str (bN I q (by simp))
  | _=>exact absurd (show false = true from hs) Bool.false_ne_true
 | bl i =>
  cases rx
  cases y with
  | non=>cases ry; exact PySem.EqNone.eq_bool_none (bN I q (by simp))
  | bl j=>cases ry; exact eq_bool (bN I q xG)
  | str j=>obtain ⟨t',rfl⟩:=ry; exact PySem.EqMixed.eq_bool_str (bN I q (by simp))
  | _=>exact absurd (show false = true from hs) Bool.false_ne_true
 | int i =>
  obtain ⟨t,rfl⟩:=rx
  cases y with
  | non=>cases ry; exact PySem.EqNone.eq_int_none (bN I q (by simp))
  | int j=>obtain ⟨t',rfl⟩:=ry; exact eq_int (bN I q tL)
  | str j=>obtain ⟨t',rfl⟩:=ry; exact PySem.EqMixed.eq_int_str (bN I q (by simp))
  | _=>exact absurd (show false = true from hs) Bool.false_ne_true
 | str i =>
  obtain ⟨t,rfl⟩:=rx
  cases y with
  | non=>cases ry; exact PySem.EqNone.eq_str_none (bN I q (by simp))
  | bl j=>cases ry; exact PySem.EqMixed.eq_str_bool (bN I q (by simp))
  | int j=>obtain ⟨t',rfl⟩:=ry; exact PySem.EqMixed.eq_str_int (bN I q (by simp))
  | str j=>obtain ⟨t',rfl⟩:=ry; exact eq_str (bN I q tO)
  | _=>exact absurd (show false = true from hs) Bool.false_ne_true
 | byt i =>
  obtain ⟨t,rfl⟩:=rx
  cases y with
  | byt j=>obtain ⟨t',rfl⟩:=ry; exact PySem.W.eq_bytes (bN I q tP)
  | _=>exact absurd (show false = true from hs) Bool.false_ne_true
 | _=>cases y <;> exact absurd (show false = true from hs) Bool.false_ne_true
theorem vH : OpR X (compareOp .NotEq) rNe:=by
 intro pins s σ H x y v u Q I rx ry h
 obtain ⟨hs,q⟩:=h
 cases x with
 | non =>
  cases rx
  cases y with
  | non=>cases ry; exact PySem.EqNone.ne_none_none (bN I q (by simp))
  | bl j=>cases ry; exact PySem.EqNone.ne_none_bool (bN I q (by simp))
  | int j=>obtain ⟨t',rfl⟩:=ry; exact PySem.EqNone.ne_none_int (bN I q (by simp))
  | str j=>obtain ⟨t',rfl⟩:=ry; exact PySem.EqNone.ne_none_str (bN I q (by simp))
  | _=>exact absurd (show false = true from hs) Bool.false_ne_true
 | bl i =>
  cases rx
  cases y with
  | non=>cases ry; exact PySem.EqNone.ne_bool_none (bN I q (by simp))
  | bl j=>cases ry; exact ne_bool (bN I q (congrArg not xG))
  | str j=>obtain ⟨t',rfl⟩:=ry; exact PySem.EqMixed.ne_bool_str (bN I q (by simp))
  | _=>exact absurd (show false = true from hs) Bool.false_ne_true
 | int i =>
  obtain ⟨t,rfl⟩:=rx
  cases y with
  | non=>cases ry; exact PySem.EqNone.ne_int_none (bN I q (by simp))
  | int j=>obtain ⟨t',rfl⟩:=ry; exact ne_int (bN I q (congrArg not tL))
  | str j=>obtain ⟨t',rfl⟩:=ry; exact PySem.EqMixed.ne_int_str (bN I q (by simp))
  | _=>exact absurd (show false = true from hs) Bool.false_ne_true
 | str i =>
  obtain ⟨t,rfl⟩:=rx
  cases y with
  | non=>cases ry; exact PySem.EqNone.ne_str_none (bN I q (by simp))
  | bl j=>cases ry; exact PySem.EqMixed.ne_str_bool (bN I q (by simp))
  | int j=>obtain ⟨t',rfl⟩:=ry; exact PySem.EqMixed.ne_str_int (bN I q (by simp))
  | str j=>obtain ⟨t',rfl⟩:=ry; exact ne_str (bN I q (congrArg not tO))
  | _=>exact absurd (show false = true from hs) Bool.false_ne_true
 | byt i =>
  obtain ⟨t,rfl⟩:=rx
  cases y with
  | byt j=>obtain ⟨t',rfl⟩:=ry; exact PySem.W.ne_bytes (bN I q (congrArg not tP))
  | _=>exact absurd (show false = true from hs) Bool.false_ne_true
 | _=>cases y <;> exact absurd (show false = true from hs) Bool.false_ne_true
theorem kH : OpR X (compareOp .Lt) (rI0 fun i j=>.bl (decide (i < j))):=opB0 fun _ _ _ _ _ _ _ q=>lt_int q
theorem aAI : OpR X (compareOp .LtE) (rI0 fun i j=>.bl (decide (i ≤ j))):=opB0 fun _ _ _ _ _ _ _ q=>le_int q
theorem pO : OpR X (compareOp .Gt) (rI0 fun i j=>.bl (decide (j < i))):=opB0 fun _ _ _ _ _ _ _ q=>gt_int q
theorem aB0 : OpR X (compareOp .Is) (fun x y H Q=>y = .non∧Q (.bl (decide (x = .non))) H):=by
 intro pins s σ H x y v u Q I rx ry h
 obtain ⟨rfl,q⟩:=h
 cases ry
 refine is_none_gen (bN I q ?_)
 cases x <;> first
  | (cases rx; rfl)
  | (obtain ⟨t,rfl⟩:=rx; rfl)
theorem aX (b : Expr) {op : CmpOp} (h : op ≠ .In:=by decide) (h2 : op ≠ .NotIn:=by decide) : behindInMarks op b = false:=by
 have e1 : (op == CmpOp.In) = false:=by cases op <;> first | rfl | exact absurd rfl h
 have e2 : (op == CmpOp.NotIn) = false:=by cases op <;> first | rfl | exact absurd rfl h2
 cases b <;> simp [behindInMarks,e1,e2]
theorem cW {op : CmpOp} {r : R2} (ho : OpR X (compareOp op) r) (ha : PE X a ta) (hb : PE X b tb) (hm : behindInMarks op b = false) : PE X (.Compare a [op] [b] pos) (tOp r ta tb):=by
 intro pins s σ H Q I h
 exact wpAny_Compare1 (binT ha hb I h fun v u s2 x y H2 I2 rx ry q=>ho pins s2 σ H2 x y v u Q I2 rx ry q) hm
def cD (t : TE) : TT:=fun σ H Q=>t σ H fun x H'=>∃ k,x = .bl k∧Q k H'
theorem aT {op : CmpOp} {r : R2} (ho : OpR X (compareOp op) r) (ha : PE X a ta) (hb : PE X b tb) (hm : behindInMarks op b = false) : PT X (.Compare a [op] [b] pos) (cD (tOp r ta tb)):=by
 intro pins s σ H Q I h
 refine wpAny_isTrue_Compare1 (thn (ha pins s σ H _ I h) fun v s1 ⟨x,H1,I1,r1,q1⟩=>thn (hb pins s1 σ H1 _ I1 q1) fun u s2 ⟨y,H2,I2,r2,q2⟩ =>
  thn (ho pins s2 σ H2 x y v u _ I2 r1 r2 q2) fun c s3 ⟨z,H3,I3,r3,k,e,q3⟩=>?_) hm
 subst e
 cases r3
 exact wpAny_truthy_bool ⟨H3,I3,q3⟩
def aB1 (r r' : R2) (ta tb tc : TE) : TE:=fun σ H Q=>ta σ H fun x H1=>tb σ H1 fun y H2=>r x y H2 fun z H3=>∃ k,z = .bl k ∧
 (if k = true then tc σ H3 fun w' H4=>r' y w' H4 Q else Q (.bl false) H3)
theorem zW {op op' : CmpOp} {r r' : R2} (ho : OpR X (compareOp op) r) (ho' : OpR X (compareOp op') r') (ha : PE X a ta) (hb : PE X b tb) (hc : PE X c tc)
  (hm : lastMarks [op,op'] [b,c] = false:=by with_unfolding_all rfl) : PE X (.Compare a [op,op'] [b,c] pos) (aB1 r r' ta tb tc):=by
 intro pins s σ H Q I h
 refine Compare_chain (thn (ha pins s σ H _ I h) fun v s1 ⟨x,H1,I1,r1,q1⟩=>chain_link (thn (hb pins s1 σ H1 _ I1 q1) fun u s2 ⟨y,H2,I2,r2,q2⟩ =>
  thn (ho pins s2 σ H2 x y v u _ I2 r1 r2 q2) fun d s3 ⟨z,H3,I3,r3,k,e,q3⟩=>?_)) hm
 subst e
 cases r3
 refine wpAny_truthy_bool ?_
 cases k with
 | false=>exact ite_ff ⟨.bl false,H3,I3,rfl,q3⟩
 | true=>exact ite_tt (chain_last (thn (hc pins s3 σ H3 _ I3 q3) fun w' s4 ⟨z',H4,I4,r4,q4⟩=>ho' pins s4 σ H4 y z' u w' Q I4 r2 r4 q4))
theorem lR : (sizeLine : Nat) < 2 ^ 63:=by rw [sizeLine_eq]; decide
theorem aAJ {x : V} {us : List Value} (r : Vals [x] us) : ∃ u,us = [u]∧RelV x u:=by
 cases r with
 | cons r1 r2=>cases r2; exact ⟨_,rfl,r1⟩
theorem aAK {x y : V} {us : List Value} (r : Vals [x,y] us) : ∃ u w',us = [u,w']∧RelV x u∧RelV y w':=by
 cases r with
 | cons r1 r2 =>
  cases r2 with
  | cons r3 r4=>cases r4; exact ⟨_,_,rfl,r1,r3⟩
theorem oJ (hc : X.calm = true) : cV X (.builtin "max") (fun xs H Q=>∃ i j,xs = [.int i,.int j]∧Q (.int (if j > i then j else i)) H):=by
 intro pins s σ H xs us Q I r h
 obtain ⟨i,j,rfl,q⟩:=h
 obtain ⟨u,w',rfl,⟨t,rfl⟩,⟨t',rfl⟩⟩:=aAK r
 refine max_two_ints (I.ok.hd hc) fun h' tk k=>⟨_,H,I.kept k,?_,q⟩
 by_cases hj : j > i
 ·rw [if_pos hj,if_pos hj]; exact ⟨_,rfl⟩
 ·rw [if_neg hj,if_neg hj]; exact ⟨_,rfl⟩
theorem oK (hc : X.calm = true) : cV X (.builtin "min") (fun xs H Q=>∃ i j,xs = [.int i,.int j]∧Q (.int (if j < i then j else i)) H):=by
 intro pins s σ H xs us Q I r h
 obtain ⟨i,j,rfl,q⟩:=h
 obtain ⟨u,w',rfl,⟨t,rfl⟩,⟨t',rfl⟩⟩:=aAK r
 refine min_two_ints (I.ok.hd hc) fun h' tk k=>⟨_,H,I.kept k,?_,q⟩
 by_cases hj : j < i
 ·rw [if_pos hj,if_pos hj]; exact ⟨_,rfl⟩
 ·rw [if_neg hj,if_neg hj]; exact ⟨_,rfl⟩
end
end L2
namespace L2
open PySem PySem.Spec PyProof.Rows
structure ObjM (h : Heap) (x dx C : Addr) (mA : Str→Option Value) : Prop where
 obj : h.get? x = some (PySem.W.instObj C dx)
 ns : h.Ns1 dx mA
 ne : dx ≠ x
theorem xH {h : Heap} {dx : Addr} {mA : Str→Option Value} (n : h.Ns1 dx mA) : ∃ od,h.get? dx = some od∧∀ name,PySem.W.lookIn name od = some (mA name):=by
 obtain ⟨o,es,ep,ho,hd,hk,_,hm⟩:=n
 refine ⟨o,ho,fun name=>?_⟩
 have e:=hm name
 unfold nsFind findBy at e
 rw [← Array.find?_toList] at e
 unfold PySem.W.lookIn
 rw [hd]
 dsimp only
 split
 ·rename_i y q
  rw [q] at e
  exact congrArg some e
 ·rename_i q
  rw [q] at e
  have a : es.toList.any (·.refKey) = false:=by
   rw [List.any_eq_false]
   intro y hy
   obtain ⟨z,t,hkey⟩:=hk y (Array.mem_toList_iff.mp hy)
   simp [DictEntry.refKey,hkey]
  have a' : ¬ es.toList.any (·.refKey) = true:=by rw [a]; exact Bool.false_ne_true
  rw [if_neg a']
  exact congrArg some e
theorem ObjM.look {h : Heap} {x dx C : Addr} {mA : Str→Option Value} (I : ObjM h x dx C mA) : ∃ od,PySem.W.InstAt h x (PySem.W.instObj C dx) C (some od)∧∀ name,PySem.W.lookIn name od = some (mA name) :=
 let ⟨od,ho,hl⟩:=xH I.ns
 ⟨od,⟨I.obj,rfl,rfl,ho⟩,hl⟩
section
variable {prog : Program} {w : World} {A : Around} {E : Value→Shared→Prop} {s : Shared} {K : PySem.W.Frag} {x dx C f : Addr} {mA : Str→Option Value} {name : Str} {v : Value}
theorem aAX {expr : Bool} {Q : Value→Shared→Prop} (X : K.In s.heap) (I : ObjM s.heap x dx C mA) (hg : PySem.W.plainGet K C name = true) (hh : PySem.W.hasDictIn K C = true)
  (ha : PySem.W.findIn K (.ref C) name = some none) (hv : mA name = some v) (hv' : PySem.W.handedIn v = true) (h : Q v { s with toks:=s.toks + 1 }) :
  wpAny (model prog w) A (getAttr (.ref x) name expr) Q E s:=by
 obtain ⟨od,J,hl⟩:=I.look
 exact PySem.W.get_value X J (PySem.W.plainGet_of hg).1 (PySem.W.findObj_own hh ha rfl (by rw [hl,hv])) hv' h
theorem zX {pl : Sem Bool} {Q : Value × List Value→Shared→Prop} (X : K.In s.heap) (I : ObjM s.heap x dx C mA) (hg : PySem.W.plainGet K C name = true)
  (hf : PySem.W.findIn K (.ref C) name = some (some (.ref f))) (ht : PySem.W.isFn K (.ref f) = true) (hv : mA name = none) (h : Q (.ref f,[.ref x]) s) :
  wpAny (model prog w) A (getMethod (.ref x) name pl) Q E s:=by
 obtain ⟨od,J,hl⟩:=I.look
 exact PySem.W.method_fn X J (PySem.W.plainGet_of hg).1 (PySem.W.plainGet_of hg).2 hf (beq_iff_eq.mp ht) (by show (PySem.W.lookIn name od).map (·.isSome) = some false; rw [hl,hv]; rfl) h
theorem aAY {ns : List Str} {Q : Unit→Shared→Prop} (X : K.In s.heap) (I : ObjM s.heap x dx C mA)
  (hs : PySem.W.findIn K (.ref C) "__setattr__" = some (some (.builtin "object.__setattr__"))) (hp : PySem.W.plainOver K C = true) (ht : PySem.W.takerIn K C name = some none) (hh : PySem.W.hasDictIn K C = true)
  (hw : PySem.Within mA ns) (hsz : ns.length ≤ sizeLine)
  (h : ∀ h',ObjM h' x dx C (fun y=>if y = name then some v else mA y)→Heap.SameBut dx s.heap h'→Q () { s with heap:=h',toks:=s.toks + 2 }) :
  wpAny (model prog w) A (setAttr (.ref x) name v) Q E s:=by
 obtain ⟨od,J,hl⟩:=I.look
 refine PySem.W.set_plain X J hs (PySem.W.osa_open (s:={ s with toks:=s.toks + 1 }) (r:=none) X J hp ht fun b=>?_)
 obtain ⟨cd,hc,hd'⟩:=PySem.W.any_some hh
 have hx : s.heap.get? x = some ⟨.ref C,some dx,.plain,#[]⟩:=I.obj
 refine wpAny_bind (wpAny_pure (wpAny_bind (wpAny_bind (wpAny_loadPart hx (wpAny_bind (PySem.W.Looks.here (s:={ s with toks:=s.toks + 1 }) (PySem.W.looks_clsIn X hc) ?_))))))
 rw [hd']
 refine wpAny_pure (a:=some dx) (wpAny_bind (wpAny_pure (wpAny_bind ?_)))
 refine wpAny_nsSet1 (s:={ s with toks:=s.toks + 1 }) I.ns fun h' hn2 hs2=>?_
 obtain ⟨oD,esD,epD,hoD,hdD,hcD⟩:=hn2.count (PySem.Within.cons name v hw)
 refine wpAny_bind (wpAny_lookBehind hoD (by rw [hdD]; exact pastItsLine_dict (Nat.le_trans hcD (by rw [List.length_cons]; lia))) ?_)
 exact wpAny_pure (h _ ⟨(hs2.2 _ (Ne.symm I.ne)).trans I.obj,hn2,I.ne⟩ hs2)
theorem zY {R : Result→Shared→Prop} {vs : List Value} {kw : List (Str × Value)} (X : K.In s.heap) (hm : PySem.W.makesIn K C = true)
  (hi : PySem.W.findIn K (.ref C) "__init__" = some (some (.ref f))) (hf : PySem.W.typeIn K (.ref f) = some (.type "function"))
  (h : codeAny (model prog w) (A.under (.builtin "type.__call__" ⟨.ref C :: vs,kw⟩)) (.call (.ref f) ⟨.ref (s.heap.objs.size + 1) :: vs,kw⟩) (PySem.W.InitBack (s.heap.objs.size + 1) R)
   { s with heap:=(s.heap.push PySem.W.emptyDict).push (PySem.W.instObj C s.heap.objs.size) }) :
  codeAny (model prog w) A (.call (.ref C) ⟨vs,kw⟩) R s:=by
 obtain ⟨hh,g,d,t,os⟩:=s
 exact PySem.W.make_core (PySem.W.makes_of X hm) (PySem.W.looks_findIn X hi) (fun self=>PySem.W.bind_fn X self hf) (.inl rfl) h
end
def putF (f : Str) (v : V) : List (Str × V)→List (Str × V)
 | []=>[(f,v)]
 | (g,x) :: r=>if g = f then (g,v) :: r else (g,x) :: putF f v r
theorem bL (f g : Str) (v : V) : ∀ fs : List (Str × V),(putF f v fs).lookup g = if g = f then some v else fs.lookup g
 | []=>by
  show List.lookup g [(f,v)] = _
  by_cases h : g = f
  ·have hb : (g == f) = true:=beq_iff_eq.mpr h
   simp only [List.lookup,hb,if_pos h]
  ·have hb : (g == f) = false:=beq_eq_false_iff_ne.mpr h
   simp only [List.lookup,hb,if_neg h]
 | (k,x) :: r=>by
  have ih:=bL f g v r
  rw [show putF f v ((k,x) :: r) = (if k = f then (k,v) :: r else (k,x) :: putF f v r) from rfl]
  by_cases hk : k = f
  ·rw [if_pos hk]
   by_cases h : g = k
   ·have hb : (g == k) = true:=beq_iff_eq.mpr h
    simp only [List.lookup,hb,if_pos (h.trans hk)]
   ·have hb : (g == k) = false:=beq_eq_false_iff_ne.mpr h
    simp only [List.lookup,hb,if_neg (fun e : g = f=>h (e.trans hk.symm))]
  ·rw [if_neg hk]
   by_cases h : g = k
   ·have hb : (g == k) = true:=beq_iff_eq.mpr h
    simp only [List.lookup,hb,if_neg (fun e : g = f=>hk (h.symm.trans e))]
   ·have hb : (g == k) = false:=beq_eq_false_iff_ne.mpr h
    simp only [List.lookup,hb]
    exact ih
theorem jK (f : Str) (v : V) : ∀ fs : List (Str × V),f∈(putF f v fs).map (·.1)∧∀ g,g∈fs.map (·.1)→g∈(putF f v fs).map (·.1)
 | []=>⟨by simp [putF],fun g h=>by simp at h⟩
 | (k,x) :: r=>by
  obtain ⟨i1,i2⟩:=jK f v r
  rw [show putF f v ((k,x) :: r) = (if k = f then (k,v) :: r else (k,x) :: putF f v r) from rfl]
  by_cases hk : k = f
  ·rw [if_pos hk]
   subst hk
   exact ⟨by simp,fun g h=>by simpa using h⟩
  ·rw [if_neg hk]
   refine ⟨?_,fun g h=>?_⟩
   ·rw [List.map_cons]
    exact List.mem_cons_of_mem _ i1
   ·rw [List.map_cons] at h ⊢
    rcases List.mem_cons.mp h with e | e
    ·exact List.mem_cons.mpr (.inl e)
    ·exact List.mem_cons_of_mem _ (i2 g e)
theorem dB (f : Str) (v : V) : ∀ fs : List (Str × V),(putF f v fs).length ≤ fs.length + 1
 | []=>by simp [putF]
 | (k,x) :: r=>by
  have ih:=dB f v r
  rw [show putF f v ((k,x) :: r) = (if k = f then (k,v) :: r else (k,x) :: putF f v r) from rfl]
  by_cases hk : k = f
  ·rw [if_pos hk,List.length_cons,List.length_cons]; lia
  ·rw [if_neg hk,List.length_cons,List.length_cons]; lia
theorem RelO.some_of {v : V} {o : Option Value} (r : RelO (some v) o) : ∃ u,o = some u∧RelV v u:=by
 cases o with
 | none=>exact (show False from r).elim
 | some u=>exact ⟨u,rfl,r⟩
theorem RelO.none_of {o : Option Value} (r : RelO none o) : o = none:=by
 cases o with
 | none=>rfl
 | some u=>exact (show False from r).elim
theorem xI {v : V} {u : Value} (r : RelV v u) : PySem.W.handedIn u = true:=by
 cases v with
 | non=>cases (show u = Value.none from r); rfl
 | bl b=>cases (show u = Value.bool b from r); rfl
 | int i=>obtain ⟨t,e⟩:=(show ∃ t,u = Value.int i t from r); cases e; rfl
 | str x=>obtain ⟨t,e⟩:=(show ∃ t,u = Value.str x t from r); cases e; rfl
 | byt b=>obtain ⟨t,e⟩:=(show ∃ t,u = Value.bytes b t from r); cases e; rfl
 | flt b=>obtain ⟨t,e⟩:=(show ∃ t,u = Value.float b t from r); cases e; rfl
 | ref a=>cases (show u = Value.ref a from r); rfl
 | ty n=>cases (show u = Value.type n from r); rfl
section
variable {P : Program} {w : World} {H H' : Hp} {h h' : Heap} {a C dx : Addr} {fs fs' : List (Str × V)}
theorem kI (hok : HOk P w H h) (e : H a = some (.ins C dx fs)) : ∃ mA,ObjM h a dx C mA∧(∀ f,RelO (fs.lookup f) (mA f))∧PySem.Within mA (fs.map (·.1))∧fs.length ≤ 1000∧H dx = some (.own a):=by
 obtain ⟨d,z,ne,ob,mA,n,r,q⟩:=(show bX P w H h a (.ins C dx fs) from hok a _ e)
 exact ⟨mA,⟨ob,n,ne⟩,r,q,z,d⟩
end
structure Cls (K : PySem.W.Frag) (C : Addr) : Prop where
 pg : PySem.W.plainGet K C Str.empty = true
 hd : PySem.W.hasDictIn K C = true
 po : PySem.W.plainOver K C = true
 sa : PySem.W.findIn K (.ref C) "__setattr__" = some (some (.builtin "object.__setattr__"))
theorem Cls.get {K : PySem.W.Frag} {C : Addr} (c : Cls K C) (f : Str) : PySem.W.plainGet K C f = true:=c.pg
def eJ (K : PySem.W.Frag) (C : Addr) (f : Str) : Prop:=PySem.W.findIn K (.ref C) f = some none
theorem eJ.taker {K : PySem.W.Frag} {C : Addr} {f : Str} (n : eJ K C f) : PySem.W.takerIn K C f = some none:=by
 unfold PySem.W.takerIn
 rw [show PySem.W.findIn K (.ref C) f = some none from n]
 rfl
structure Meth (K : PySem.W.Frag) (C : Addr) (m : Str) (f : Addr) : Prop where
 at_ : PySem.W.findIn K (.ref C) m = some (some (.ref f))
 fn : PySem.W.isFn K (.ref f) = true
 kp : PySem.W.keepIn K (.ref f) = true
section
variable {X : Cx} {pins : List (Addr × Obj)} {σ : St} {H : Hp} {s : Shared} {a C dx : Addr} {fs : List (Str × V)} {f : Str} {v : V} {A : Around} {E : Value→Shared→Prop}
theorem vI {b : Bool} {Q : Value→Shared→Prop} (I : Inv X pins σ H s) (e : H a = some (.ins C dx fs)) (c : Cls X.K C) (n : eJ X.K C f) (l : fs.lookup f = some v)
  (h : ∀ u s',Inv X pins σ H s'→RelV v u→Q u s') : wpAny (model X.prog X.w) A (getAttr (.ref a) f b) Q E s:=by
 obtain ⟨mA,O,r,_,_,_⟩:=kI I.hok e
 obtain ⟨u,hu,ru⟩:=RelO.some_of (v:=v) (o:=mA f) (by rw [← l]; exact r f)
 exact aAX I.kIn O (c.get f) c.hd n hu (xI ru) (h u _ (I.tok _) ru)
theorem lS {m : Str} {g : Addr} {pl : Sem Bool} {Q : Value × List Value→Shared→Prop} (I : Inv X pins σ H s) (e : H a = some (.ins C dx fs)) (c : Cls X.K C) (k : Meth X.K C m g) (l : fs.lookup m = none)
  (h : Q (.ref g,[.ref a]) s) : wpAny (model X.prog X.w) A (getMethod (.ref a) m pl) Q E s:=by
 obtain ⟨mA,O,r,_,_,_⟩:=kI I.hok e
 have hn : mA m = none:=RelO.none_of (by rw [← l]; exact r m)
 exact zX I.kIn O (c.get m) k.at_ k.fn hn h
theorem vJ {y : V} {u : Value} {Q : Unit→Shared→Prop} (I : Inv X pins σ H s) (e : H a = some (.ins C dx fs)) (c : Cls X.K C) (n : eJ X.K C f) (hl : fs.length < 1000) (ry : RelV y u)
  (h : ∀ s',Inv X pins σ (upd H a (.ins C dx (putF f y fs))) s'→Q () s') : wpAny (model X.prog X.w) A (setAttr (.ref a) f u) Q E s:=by
 obtain ⟨mA,O,r,wi,_,ho⟩:=kI I.hok e
 have hz : (fs.map (·.1)).length ≤ sizeLine:=by rw [List.length_map,sizeLine_eq]; lia
 refine aAY I.kIn O c.sa c.po n.taker c.hd wi hz fun h' O' sb=>h _ ?_
 have hd : ∃ o,h'.get? dx = some o:=let ⟨o,_,_,e',_⟩:=O'.ns; ⟨o,e'⟩
 refine I.write (x:=a) (e:=dx) (by rw [e]; exact True.intro) (.inr ho) (fun b q hb z=>(sb.2 b hb).trans z) hd ?_
 refine ⟨by rw [aI O.ne]; exact ho,?_,O.ne,O'.obj,_,O'.ns,fun g=>?_,fun g hg=>?_⟩
 ·have:=dB f y fs; lia
 ·show RelO ((putF f y fs).lookup g) (if g = f then some u else mA g)
  rw [bL]
  by_cases q : g = f
  ·rw [if_pos q,if_pos q]; exact ry
  ·rw [if_neg q,if_neg q]; exact r g
 ·by_cases q : g = f
  ·rw [q]; exact (jK f y fs).1
  ·refine (jK f y fs).2 g (wi g fun z=>hg ?_)
   show (if g = f then some u else mA g) = none
   rw [if_neg q]; exact z
theorem Inv.made (I : Inv X pins σ H s) : Inv X pins σ (upd (upd H s.heap.objs.size (.own (s.heap.objs.size + 1))) (s.heap.objs.size + 1) (.ins C s.heap.objs.size []))
  { s with heap:=(s.heap.push PySem.W.emptyDict).push (PySem.W.instObj C s.heap.objs.size) }:=by
 have e1 : (s.heap.push PySem.W.emptyDict).get? s.heap.objs.size = some PySem.W.emptyDict:=Heap.get?_push_size s.heap rfl
 have e2 : ((s.heap.push PySem.W.emptyDict).push (PySem.W.instObj C s.heap.objs.size)).get? (s.heap.objs.size + 1) = some (PySem.W.instObj C s.heap.objs.size):=by
  have:=Heap.get?_push_size (s.heap.push PySem.W.emptyDict) (o:=PySem.W.instObj C s.heap.objs.size) rfl
  rwa [Heap.size_push] at this
 have e3 : (s.heap.push PySem.W.emptyDict).Ns s.heap.objs.size (fun _=>none):=⟨PySem.W.emptyDict,#[],_,e1,rfl,(fun e he=>absurd he (by simp)),fun _=>rfl⟩
 have I1:=I.laid (a:=s.heap.objs.size) (o:=.own (s.heap.objs.size + 1)) (h':=s.heap.push PySem.W.emptyDict) (t':=s.toks) (fun b u q=>Heap.get?_push_of_some _ q) (Nat.le_refl _) ⟨_,e1⟩
 refine I1.laid (a:=s.heap.objs.size + 1) (o:=.ins C s.heap.objs.size []) (t':=s.toks) (fun b u q=>Heap.get?_push_of_some _ q) (Nat.le_of_eq (Heap.size_push _ _)) ?_
 have ne : s.heap.objs.size ≠ s.heap.objs.size + 1:=Nat.ne_of_lt (Nat.lt_succ_self _)
 refine ⟨by rw [aI ne,aD],Nat.zero_le _,ne,e2,fun _=>none,(Heap.Ns1.of_empty e3).at fun o q=>Heap.get?_push_of_some _ q,fun _=>True.intro,fun y hy=>absurd rfl hy⟩
theorem aAZ {prog : Program} {w : World} {env : Env} {e : Expr} {f : Str} {pos : Pos} {s : Shared} {Q : Value→Shared→Prop} (hb : attributeBase e f env (eval e env) = eval e env)
  (h : wpAny (model prog w) A (eval e env) (fun o s₁=>wpAny (model prog w) A (getAttr o f true) Q E s₁) E s) : wpAny (model prog w) A (eval (.Attribute e f pos) env) Q E s :=
 Attribute_any_ h (by rw [arm_eval_Attribute,hb])
end
def tFld (K : PySem.W.Frag) (ta : TE) (f : Str) : TE:=fun σ H Q=>ta σ H fun x H1=>∃ a C dx fs v,x = .ref a∧H1 a = some (.ins C dx fs)∧Cls K C∧eJ K C f∧fs.lookup f = some v∧Q v H1
def sFld (K : PySem.W.Frag) (ta tv : TE) (f : Str) : TS:=fun D σ H=>tv σ H fun y H1=>ta σ H1 fun x H2=>∃ a C dx fs,x = .ref a∧H2 a = some (.ins C dx fs)∧Cls K C∧eJ K C f∧fs.length < 1000 ∧
 D.nx σ (upd H2 a (.ins C dx (putF f y fs)))
section
variable {X : Cx} {o e value : Expr} {f : Str} {pos pos' tpos : Pos} {ta tv : TE}
theorem fH (he : PE X e ta) (hb : attributeBase e f X.env (eval e X.env) = eval e X.env) : PE X (.Attribute e f pos) (tFld X.K ta f):=by
 intro pins s σ H Q I h
 refine aAZ hb (thn (he pins s σ H _ I h) fun u s1 ⟨x,H1,I1,rx,a,C,dx,fs,v,ex,ea,c,n,l,q⟩=>?_)
 subst ex
 obtain rfl : u = Value.ref a:=rx
 exact vI I1 ea c n l fun u' s2 I2 ru=>⟨v,H1,I2,ru,q⟩
theorem lT (ha : PE X o ta) (hv : PE X value tv) (hs : swapsWith value (some (.Attribute o f pos')) pos.line X.env = pure false) : PS X (.Assign [.Attribute o f pos'] value pos) (sFld X.K ta tv f):=by
 intro pins s σ H D I h
 refine plainObj_wpAny_Assign_Attribute (thn (hv pins s σ H _ I h) fun u s1 ⟨y,H1,I1,ry,q⟩=>thn (ha pins s1 σ H1 _ I1 q) fun ov s2 ⟨x,H2,I2,rx,a,C,dx,fs,ex,ea,c,n,l,q2⟩=>?_) hs
 subst ex
 obtain rfl : ov = Value.ref a:=rx
 exact vJ I2 ea c n l ry fun s3 I3=>⟨σ,_,I3,q2⟩
end
section
variable {X : Cx} {pins : List (Addr × Obj)} {σ : St} {H : Hp} {s : Shared} {A : Around} {E : Value→Shared→Prop} {Q : Value→Shared→Prop} {c : Value} {b : Bool}
inductive TyOf (K : PySem.W.Frag) (H : Hp) : V→Value→Prop where
 | non : TyOf K H .non (.type "NoneType")
 | bl (x : Bool) : TyOf K H (.bl x) (.type "bool")
 | int (i : Int) : TyOf K H (.int i) (.type "int")
 | str (x : Str) : TyOf K H (.str x) (.type "str")
 | flt (x : UInt64) : TyOf K H (.flt x) (.type "float")
 | lst {a : Addr} {xs : List V} (e : H a = some (.lst xs)) : TyOf K H (.ref a) (.type "list")
 | frz {a : Addr} {o : Obj} {xs : List V} (e : H a = some (.frz o (.lst xs))) : TyOf K H (.ref a) (.type "list")
 | tup {a : Addr} {xs : List V} (e : H a = some (.tup xs)) : TyOf K H (.ref a) (.type "tuple")
 | dK {a : Addr} {kvs : List (Key × V)} (e : H a = some (.dK kvs)) : TyOf K H (.ref a) (.type "dict")
 | dT {a : Addr} {kvs : List (List Key × V)} (e : H a = some (.dT kvs)) : TyOf K H (.ref a) (.type "dict")
 | ins {a C dx : Addr} {fs : List (Str × V)} (e : H a = some (.ins C dx fs)) (cl : Cls K C) (ha : PySem.W.findIn K (.ref C) "__class__" = some (some (.builtin "object.__class__")))
   (hn : PySem.W.specialIn K (.builtin "object.__class__") "__get__" = some (some (.builtin "getset_descriptor.__get__"))) (htk : PySem.W.takesIn K (.builtin "object.__class__") = some true)
   (hm : PySem.W.mroIn K C (.type "object") = some true) : TyOf K H (.ref a) (.ref C)
theorem xJ {x : V} {u t : Value} (I : Inv X pins σ H s) (rx : RelV x u) (ty : TyOf X.K H x t) (e : PySem.W.kitOne X.K t c = some b) (h : ∀ tk,Q (.bool b) { s with toks:=tk }) :
  wpAny (model X.prog X.w) A (call (.builtin "isinstance") [u,c]) Q E s:=by
 cases ty with
 | non=>cases (show u = Value.none from rx); exact PySem.W.kia_one PySem.W.kitx_none I.kIn True.intro e (fun z=>nomatch z) h
 | bl y=>cases (show u = Value.bool y from rx); exact PySem.W.kia_one PySem.W.kitx_bool I.kIn True.intro e (fun z=>nomatch z) h
 | int i=>obtain ⟨t,q⟩:=(show ∃ t,u = Value.int i t from rx); cases q; exact PySem.W.kia_one PySem.W.kitx_int I.kIn True.intro e (fun z=>nomatch z) h
 | str y=>obtain ⟨t,q⟩:=(show ∃ t,u = Value.str y t from rx); cases q; exact PySem.W.kia_one PySem.W.kitx_str I.kIn True.intro e (fun z=>nomatch z) h
 | flt y=>obtain ⟨t,q⟩:=(show ∃ t,u = Value.float y t from rx); cases q; exact PySem.W.kia_one PySem.W.kitx_float I.kIn True.intro e (fun z=>nomatch z) h
 | @lst a xs ea =>
  cases (show u = Value.ref a from rx)
  obtain ⟨_,_,n,_,h1⟩:=(show bX X.prog X.w H s.heap a (.lst xs) from I.hok a _ ea)
  exact PySem.W.kia_one PySem.W.kitx_list I.kIn ⟨_,h1,rfl⟩ e (fun z=>nomatch z) h
 | @frz a ob xs ea =>
  cases (show u = Value.ref a from rx)
  obtain ⟨_,_,_,n,_,h1⟩:=(show bX X.prog X.w H s.heap a (.frz ob (.lst xs)) from I.hok a _ ea)
  exact PySem.W.kia_one PySem.W.kitx_list I.kIn ⟨_,h1,rfl⟩ e (fun z=>nomatch z) h
 | @tup a xs ea =>
  cases (show u = Value.ref a from rx)
  obtain ⟨_,_,_,p⟩:=(show bX X.prog X.w H s.heap a (.tup xs) from I.hok a _ ea)
  obtain ⟨o,h1,h2,_⟩:=p
  exact PySem.W.kia_one PySem.W.kitx_tuple I.kIn ⟨o,h1,h2⟩ e (fun z=>nomatch z) h
 | @dK a kvs ea =>
  cases (show u = Value.ref a from rx)
  obtain ⟨_,_,vs,_,p⟩:=(show bX X.prog X.w H s.heap a (.dK kvs) from I.hok a _ ea)
  obtain ⟨o,es,ep,h1,h2,_⟩:=p
  exact PySem.W.kia_one PySem.W.kitx_dict I.kIn ⟨o,h1,h2.1⟩ e (fun z=>nomatch z) h
 | @dT a kvs ea =>
  cases (show u = Value.ref a from rx)
  obtain ⟨_,_,xs,_,o,es,ep,h1,h2,_⟩:=(show bX X.prog X.w H s.heap a (.dT kvs) from I.hok a _ ea)
  exact PySem.W.kia_one PySem.W.kitx_dict I.kIn ⟨o,h1,h2.1⟩ e (fun z=>nomatch z) h
 | @ins a C dx fs ea cl ha hn htk hm =>
  cases (show u = Value.ref a from rx)
  obtain ⟨mA,O,_⟩:=kI I.hok ea
  obtain ⟨od,J,_⟩:=O.look
  exact PySem.W.kia_one (PySem.W.kitx_own (cl.get _) cl.hd ha hn htk hm) I.kIn J e (fun z=>nomatch z) h
end
end L2
namespace L2
open PySem PySem.Spec PyProof.Rows
structure Room (k : Nat) (A : Around) : Prop where
 hd : A.handled = none
 dp : A.depth + 3 * k + 5 < recursionLimit
 un : A.units + 16 * k + 200 < cLine
 gd : A.guards = some []
theorem Room.mono {j k : Nat} {A : Around} (r : Room k A) (h : j ≤ k) : Room j A:=⟨r.hd,by have:=r.dp; lia,by have:=r.un; lia,r.gd⟩
theorem Room.deeper {k : Nat} {A : Around} (r : Room (k + 1) A) (env : Env) : Room k (A.deeper env) :=
 ⟨r.hd,by have:=r.dp; show A.depth + 1 + 3 * k + 5 < _; lia,by have:=r.un; show A.units + 3 + 16 * k + 200 < _; lia,r.gd⟩
theorem vK {A : Around} {C : Addr} {us : List Value} {kw : List (Str × Value)} : (A.under (.builtin "type.__call__" ⟨.ref C :: us,kw⟩)).depth = A.depth + 1:=by
 first | rfl | simp [Around.under,Code.weight,Code.isCreation,Code.isGuard,Code.isCaller,Code.frames,Code.isFrame,guardIds]
theorem vL {A : Around} {C : Addr} {us : List Value} {kw : List (Str × Value)} : (A.under (.builtin "type.__call__" ⟨.ref C :: us,kw⟩)).units = A.units + 1:=by
 first | rfl | simp [Around.under,Code.cUnits,Code.frames,Code.isFrame]
theorem Room.make {k : Nat} {A : Around} (r : Room (k + 1) A) (C : Addr) (us : List Value) (kw : List (Str × Value)) : Room k (A.under (.builtin "type.__call__" ⟨.ref C :: us,kw⟩)) :=
 ⟨r.hd,by have:=r.dp; rw [vK]; lia,by have:=r.un; rw [vL]; lia,r.gd⟩
theorem Room.depth {k : Nat} {A : Around} (r : Room k A) : A.depth < recursionLimit:=by have:=r.dp; lia
theorem Room.u {k n : Nat} {A : Around} (r : Room k A) (h : n ≤ 200:=by decide) : A.units + n < cLine:=by have:=r.un; lia
def tNil : TA:=fun _ H Q=>Q [] H
def bK (ta : TE) (tr : TA) : TA:=fun σ H Q=>ta σ H fun x H1=>tr σ H1 fun xs H2=>Q (x :: xs) H2
section
variable {X : Cx} {e : Expr} {es : List Expr} {te : TE} {t : TA} {pos : Pos}
theorem aB : PA X [] tNil:=fun _ _ _ _ H Q I h=>Calls.spliced_nil ⟨[],H,I,.nil,h⟩
theorem aA (ha : PE X e te) (hr : PA X es t) (hs : starEach (e :: es) X.env = (false,eval e X.env) :: starEach es X.env:=by rfl) : PA X (e :: es) (bK te t):=by
 intro pos pins s σ H Q I h
 rw [hs]
 show wpAny _ _ (spliced ((false,eval e X.env) :: backTo pos (starEach es X.env))) _ _ s
 refine Calls.spliced_cons (thn (ha pins s σ H _ I h) fun u s1 ⟨x,H1,I1,r1,q1⟩=>?_)
 exact thn (hr pos pins s1 σ H1 _ I1 q1) fun us s2 ⟨xs,H2,I2,r2,q2⟩=>⟨x :: xs,H2,I2,.cons r1 r2,q2⟩
def tTup (t : TA) : TE:=fun σ H Q=>t σ H fun xs H1=>xs.length ≤ sizeLine∧∀ p,H1 p = none→Q (.ref p) (upd H1 p (.tup xs))
def tLst (t : TA) : TE:=fun σ H Q=>t σ H fun xs H1=>xs.length ≤ sizeLine∧∀ p,H1 p = none→Q (.ref p) (upd H1 p (.lst xs))
theorem bF {x1} (h : PA X es t) : PE X (.Tuple es x1 pos) (tTup t):=by
 intro pins s σ H Q I hq
 refine wpAny_Tuple_spliced (thn (h pos pins s σ H _ I hq) fun us s1 ⟨xs,H1,I1,r,z,q⟩=>⟨by rw [← r.length]; exact z,?_⟩)
 have hf : H1 s1.heap.objs.size = none:=I1.hok.fresh (Nat.le_refl _)
 refine ⟨.ref s1.heap.objs.size,upd H1 s1.heap.objs.size (.tup xs),I1.laid (t':=s1.toks) (fun b u e=>Heap.get?_push_of_some _ e) (Nat.le_refl _) ?_,rfl,q _ hf⟩
 exact ⟨z,us,r,⟨_,Heap.get?_push_size _ rfl,rfl,_,rfl,rfl⟩⟩
theorem cC (h : PA X es t) : PE X (.List es pos) (tLst t):=by
 intro pins s σ H Q I hq
 refine wpAny_List_spliced (thn (h pos pins s σ H _ I hq) fun us s1 ⟨xs,H1,I1,r,z,q⟩=>⟨by rw [← r.length]; exact z,?_⟩)
 have hf : H1 s1.heap.objs.size = none:=I1.hok.fresh (Nat.le_refl _)
 refine ⟨.ref s1.heap.objs.size,upd H1 s1.heap.objs.size (.lst xs),I1.laid (t':=s1.toks) (fun b u e=>Heap.get?_push_of_some _ e) (Nat.le_refl _) ?_,rfl,q _ hf⟩
 exact ⟨z,us,0,r,Heap.get?_push_size _ rfl⟩
end
abbrev Sp:=List V→Hp→VK→XK→Prop
abbrev CXT:=List Env→Hp→Shared→XK→Value→Shared→Prop
structure Env0 (P : Program) (w : World) (K : PySem.W.Frag) (mg : Str→Option Value) (base : Heap) (A : Around) (outer : List Env) (s : Shared) (H : Hp) : Prop where
 frames : A.frames = some outer
 mod : Mod K mg base
 bs : ∀ b o,base.get? b = some o→s.heap.get? b = some o∧H b = none
 bsz : base.objs.size ≤ s.heap.objs.size
 funs : s.heap.FunFrames base outer
 frf : ∀ b∈frs outer,H b = none
 hok : HOk P w H s.heap
 bare : AllBare s.gens
def CE (outer : List Env) (P : Program) (w : World) (H : Hp) (s : Shared) (Q : VK) (u : Value) (s' : Shared) : Prop :=
 ∃ v H',s'.os = s.os∧AllBare s'.gens∧Un (frs outer) [] H H' s.heap s'.heap∧HOk P w H' s'.heap∧RelV v u∧Q v H'
def CR (CX : CXT) (outer : List Env) (P : Program) (w : World) (H : Hp) (s : Shared) (Q : VK) (E : XK) (r : Result) (s' : Shared) : Prop :=
 match r with
 | .ok (.ret u)=>CE outer P w H s Q u s'
 | .ok _=>False
 | .error e=>CX outer H s E e s'
structure FnOk (P : Program) (w : World) (K : PySem.W.Frag) (mg : Str→Option Value) (base : Heap) (CX : CXT) (k : Nat) (f : Addr) (fd : FuncData) (ps : List Str) (sp : Sp) : Prop where
 len : ∀ vs H Q E,sp vs H Q E→vs.length = ps.length
 run : ∀ (A : Around) (outer : List Env) (s : Shared) (H : Hp) (args : Args) (us : List Value) (vs : List V) (Q : VK) (E : XK),Room k A→Env0 P w K mg base A outer s H→BindsTo s fd args (ps.zip us)→Vals vs us→sp vs H Q E →
  codeAny (model P w) A (.call (.ref f) args) (CR CX outer P w H s Q E) s
theorem Env0.make {P : Program} {w : World} {K : PySem.W.Frag} {mg : Str→Option Value} {base : Heap} {A : Around} {outer : List Env} {s : Shared} {H : Hp} (e : Env0 P w K mg base A outer s H) (C : Addr) (us : List Value) (kw : List (Str × Value)) :
  Env0 P w K mg base (A.under (.builtin "type.__call__" ⟨.ref C :: us,kw⟩)) outer s H:=⟨by first | exact e.frames | (simpa [Around.under,Code.envs,Code.isFrame,pushEnvs] using e.frames),e.mod,e.bs,e.bsz,e.funs,e.frf,e.hok,e.bare⟩
section
variable {X : Cx} {pins : List (Addr × Obj)} {σ : St} {H : Hp} {s s' : Shared}
theorem Inv.env0 (I : Inv X pins σ H s) : Env0 X.prog X.w X.K X.mg X.base X.A X.stack s H :=
 ⟨I.ok.frames,I.ok.mod,I.bs,Nat.le_trans I.ok.bsz I.sz,I.stack,I.stkFree,I.hok,I.bare⟩
theorem Inv.after {Q : VK} {u : Value} (I : Inv X pins σ H s) (h : CE X.stack X.prog X.w H s Q u s') : EP X pins σ Q u s':=by
 obtain ⟨v,H',os,bare,un,hok,r,q⟩:=h
 obtain ⟨hh,g,d,t,os'⟩:=s'
 obtain rfl : os' = s.os:=os
 exact ⟨v,H',I.call (h':=hh) (g':=g) (d':=d) (t':=t) (ch:=[]) un hok bare (fun b z=>absurd z (by simp)),r,q⟩
end
def lU (sp : Sp) (dvs : List V) (E : XK) (t : TA) : TE:=fun σ H Q=>t σ H fun vs H1=>sp (vs ++ dvs) H1 Q E
def vM (C : Addr) (m : Str) (sp : Sp) (dvs : List V) (E : XK) (ta : TE) (t : TA) : TE:=fun σ H Q=>ta σ H fun x H1=>∃ a dx fs,x = .ref a∧H1 a = some (.ins C dx fs)∧fs.lookup m = none ∧
 t σ H1 fun vs H2=>sp (x :: (vs ++ dvs)) H2 Q E
def aCC (C : Addr) (sp : Sp) (dvs : List V) (E : XK) (t : TA) : TE:=fun σ H Q=>t σ H fun vs H1=>∀ x dx,H1 x = none→H1 dx = none→dx ≠ x →
 sp (.ref x :: (vs ++ dvs)) (upd (upd H1 dx (.own x)) x (.ins C dx [])) (fun v H2=>v = .non∧Q (.ref x) H2) E
def eA (K : PySem.W.Frag) (fd : FuncData) (ps : List Str) (ds : List Value) : Prop :=
 ∀ (s : Shared) (us : List Value),K.In s.heap→(us ++ ds).length = ps.length→BindsTo s fd ⟨us,[]⟩ (ps.zip (us ++ ds))
theorem eA.all {K : PySem.W.Frag} {fd : FuncData} {ps : List Str} (h : ∀ us : List Value,us.length = ps.length→bindArgs fd ⟨us,[]⟩ = pure (ps.zip us)) : eA K fd ps []:=fun s us _ hl=>by
 rw [List.append_nil] at hl ⊢
 exact .of_eq (h us hl)
def fJ (CX : CXT) (X : Cx) (E : XK) : Prop:=∀ (pins : List (Addr × Obj)) (σ : St) (H : Hp) (s : Shared) (e : Value) (s' : Shared),Inv X pins σ H s→CX X.stack H s E e s'→X.xe e s'
section
variable {X : Cx} {CX : CXT} {k : Nat} {f C : Addr} {fd : FuncData} {ps : List Str} {sp : Sp} {dvs : List V} {ds : List Value} {E : XK} {x m : Str} {p pos apos : Pos} {e o : Expr} {es : List Expr} {ta : TE} {t : TA}
theorem qG {pins : List (Addr × Obj)} {σ : St} {H : Hp} {s : Shared} {Q : VK} {us : List Value} {vs : List V} (F : FnOk X.prog X.w X.K X.mg X.base CX k f fd ps sp) (hr : Room k X.A) (hb : eA X.K fd ps ds) (hd : Vals dvs ds) (hx : fJ CX X E)
  (I : Inv X pins σ H s) (r : Vals vs us) (h : sp (vs ++ dvs) H Q E) : wpAny (model X.prog X.w) X.A (call (.ref f) us) (EP X pins σ Q) X.xe s:=by
 have r2 : Vals (vs ++ dvs) (us ++ ds):=r.append hd
 have hl : (us ++ ds).length = ps.length:=by rw [← r2.length]; exact F.len _ _ _ _ h
 refine wpAny_call (codeAny_mono (F.run X.A X.stack s H ⟨us,[]⟩ (us ++ ds) (vs ++ dvs) Q E hr I.env0 (hb s us I.kIn hl) r2 h) fun r s' hq=>?_)
 cases r with
 | error e=>exact hx pins σ H s e s' I hq
 | ok fl =>
  cases fl with
  | ret u=>exact I.after hq
  | next=>exact False.elim hq
  | brk=>exact False.elim hq
  | cont=>exact False.elim hq
theorem aA0 (F : FnOk X.prog X.w X.K X.mg X.base CX k f fd ps sp) (hr : Room k X.A) (hg : Gl X x) (hm : X.mg x = some (.ref f)) (hk : PySem.W.keepIn X.K (.ref f) = true) (hb : eA X.K fd ps ds) (hd : Vals dvs ds) (hx : fJ CX X E)
  (ha : PA X (e :: es) t) (hdb : (x == ("__debug__" : Str)) = false:=by decide) (he : starEach (e :: es) X.env = (false,eval e X.env) :: starEach es X.env:=by rfl) (hpl : (backTo pos (starEach es X.env)).any (·.1) = false:=by rfl) :
  PE X (.Call (.Name x p) (e :: es) [] pos) (lU sp dvs E t):=by
 intro pins s σ H Q I h
 refine wpAny_Call_Name_kw (mY I hg hm ?_ hdb)
 refine PySem.W.callWith_K (h₀:=X.base) I.ok.mod.kin hk (thn (ha pos pins s σ H _ I h) fun us s1 ⟨vs,H1,I1,r,q⟩=>⟨I1.kIn,?_⟩) he hpl
 exact qG F hr hb hd hx I1 r q
theorem kJ {pl : Sem Bool} (he : PE X o ta) (c : Cls X.K C) (hm : Meth X.K C m f) (F : FnOk X.prog X.w X.K X.mg X.base CX k f fd ps sp) (hr : Room k X.A) (hb : eA X.K fd ps ds) (hd : Vals dvs ds) (hx : fJ CX X E) (ha : PA X (e :: es) t)
  (hst : starEach (e :: es) X.env = (false,eval e X.env) :: starEach es X.env:=by rfl) (hpl : (backTo pos (starEach es X.env)).any (·.1) = false:=by rfl)
  (ht : eval (.Call (.Attribute o m apos) (e :: es) [] pos) X.env = (do
   let ov ← eval o X.env
   standAt apos.atName
   let (f,first) ← holding [ov] (getMethod ov m pl)
   callWith pos f first (backTo pos (starEach (e :: es) X.env)) (backToKw pos (keywordEach [] X.env))):=by rfl) :
  PE X (.Call (.Attribute o m apos) (e :: es) [] pos) (vM C m sp dvs E ta t):=by
 intro pins s σ H Q I h
 refine PySem.W.methodCall_KW (pl:=pl) (thn (he pins s σ H _ I h) fun u s1 ⟨x,H1,I1,rx,a,dx,fs,ex,ea,l,q⟩=>?_) ht
 subst ex
 obtain rfl : u = Value.ref a:=rx
 refine lS I1 ea c hm l ?_
 refine PySem.W.callWith_K (first:=[.ref a]) (h₀:=X.base) I.ok.mod.kin hm.kp (thn (ha pos pins s1 σ H1 _ I1 q) fun us s2 ⟨vs,H2,I2,r,q2⟩=>⟨I2.kIn,?_⟩) hst hpl
 exact qG (us:=.ref a :: us) (vs:=.ref a :: vs) F hr hb hd hx I2 (.cons rfl r) q2
theorem dC {pl : Sem Bool} (he : PE X o ta) (c : Cls X.K C) (hm : Meth X.K C m f) (F : FnOk X.prog X.w X.K X.mg X.base CX k f fd ps sp) (hr : Room k X.A) (hb : eA X.K fd ps ds) (hd : Vals dvs ds) (hx : fJ CX X E)
  (ht : eval (.Call (.Attribute o m apos) [] [] pos) X.env = (do
   let ov ← eval o X.env
   standAt apos.atName
   let (f,first) ← holding [ov] (getMethod ov m pl)
   callWith pos f first (backTo pos (starEach [] X.env)) (backToKw pos (keywordEach [] X.env))):=by rfl) :
  PE X (.Call (.Attribute o m apos) [] [] pos) (vM C m sp dvs E ta tNil):=by
 intro pins s σ H Q I h
 refine PySem.W.methodCall_KW (pl:=pl) (thn (he pins s σ H _ I h) fun u s1 ⟨x,H1,I1,rx,a,dx,fs,ex,ea,l,q⟩=>?_) ht
 subst ex
 obtain rfl : u = Value.ref a:=rx
 refine lS I1 ea c hm l ?_
 exact PySem.W.callWith_K0 (first:=[.ref a]) I1.kIn hm.kp (qG (us:=[.ref a]) (vs:=[.ref a]) F hr hb hd hx I1 (.cons rfl .nil) q)
structure Mk (K : PySem.W.Frag) (C f : Addr) : Prop where
 makes : PySem.W.makesIn K C = true
 init : PySem.W.findIn K (.ref C) "__init__" = some (some (.ref f))
 fn : PySem.W.isFn K (.ref f) = true
 kp : PySem.W.keepIn K (.ref C) = true
theorem zZ {pins : List (Addr × Obj)} {σ : St} {H : Hp} {s : Shared} {Q : VK} {us : List Value} {vs : List V} (M : Mk X.K C f) (F : FnOk X.prog X.w X.K X.mg X.base CX k f fd ps sp) (hr : Room (k + 1) X.A) (hb : eA X.K fd ps ds) (hd : Vals dvs ds)
  (hx : fJ CX X E) (I : Inv X pins σ H s) (r : Vals vs us)
  (h : ∀ x dx,H x = none→H dx = none→dx ≠ x→sp (.ref x :: (vs ++ dvs)) (upd (upd H dx (.own x)) x (.ins C dx [])) (fun v H2=>v = .non∧Q (.ref x) H2) E) :
  wpAny (model X.prog X.w) X.A (call (.ref C) us) (EP X pins σ Q) X.xe s:=by
 have hq:=h (s.heap.objs.size + 1) s.heap.objs.size (I.hok.fresh (Nat.le_succ _)) (I.hok.fresh (Nat.le_refl _)) (Nat.ne_of_lt (Nat.lt_succ_self _))
 have I2:=Inv.made (C:=C) I
 have r2 : Vals (V.ref (s.heap.objs.size + 1) :: (vs ++ dvs)) (Value.ref (s.heap.objs.size + 1) :: (us ++ ds)):=.cons rfl (r.append hd)
 have hl : (Value.ref (s.heap.objs.size + 1) :: us ++ ds).length = ps.length:=by
  have e:=r2.length
  rw [F.len _ _ _ _ hq] at e
  exact e.symm
 refine wpAny_call (zY (f:=f) I.kIn M.makes M.init (beq_iff_eq.mp M.fn) (codeAny_mono (F.run _ X.stack _ _ ⟨Value.ref (s.heap.objs.size + 1) :: us,[]⟩ (Value.ref (s.heap.objs.size + 1) :: (us ++ ds)) _ _ E (hr.make C us [])
  (I2.env0.make C us []) (hb _ (Value.ref (s.heap.objs.size + 1) :: us) I2.kIn hl) r2 hq) fun r s' hq'=>?_))
 cases r with
 | error e=>exact hx pins σ _ _ e s' I2 hq'
 | ok fl =>
  cases fl with
  | ret u =>
   obtain ⟨v,H',I3,rv,ev,q3⟩:=I2.after hq'
   subst ev
   exact ⟨rv,⟨V.ref (s.heap.objs.size + 1),H',I3,rfl,q3⟩⟩
  | next=>exact False.elim hq'
  | brk=>exact False.elim hq'
  | cont=>exact False.elim hq'
theorem nA (M : Mk X.K C f) (F : FnOk X.prog X.w X.K X.mg X.base CX k f fd ps sp) (hr : Room (k + 1) X.A) (hg : Gl X x) (hm : X.mg x = some (.ref C)) (hb : eA X.K fd ps ds) (hd : Vals dvs ds) (hx : fJ CX X E)
  (ha : PA X (e :: es) t) (hdb : (x == ("__debug__" : Str)) = false:=by decide) (he : starEach (e :: es) X.env = (false,eval e X.env) :: starEach es X.env:=by rfl) (hpl : (backTo pos (starEach es X.env)).any (·.1) = false:=by rfl) :
  PE X (.Call (.Name x p) (e :: es) [] pos) (aCC C sp dvs E t):=by
 intro pins s σ H Q I h
 refine wpAny_Call_Name_kw (mY I hg hm ?_ hdb)
 refine PySem.W.callWith_K (h₀:=X.base) I.ok.mod.kin M.kp (thn (ha pos pins s σ H _ I h) fun us s1 ⟨vs,H1,I1,r,q⟩=>⟨I1.kIn,?_⟩) he hpl
 exact zZ M F hr hb hd hx I1 r q
end
def PK (X : Cx) (kws : List Keyword) (t : TA) : Prop :=
 ∀ (pos : Pos) (pins : List (Addr × Obj)) (s : Shared) (σ : St) (H : Hp) (Q : List V→Hp→Prop),Inv X pins σ H s→t σ H Q→wpAny (model X.prog X.w) X.A (evalAll ((backToKw pos (keywordEach kws X.env)).map (·.2))) (AP X pins σ Q) X.xe s
section
variable {X : Cx} {CX : CXT} {k : Nat} {f C : Addr} {fd : FuncData} {ps ks : List Str} {sp : Sp} {E : XK} {x m : Str} {p pos apos kpos : Pos} {e o : Expr} {es : List Expr} {kws : List Keyword} {te ta : TE} {t tk : TA} {nm : Option Str}
theorem aB2 : PK X [] tNil:=fun _ _ _ _ H Q I h=>wpAny_evalAll_nil ⟨[],H,I,.nil,h⟩
theorem aA1 (ha : PE X e te) (hr : PK X kws t) : PK X (⟨nm,e,kpos⟩ :: kws) (bK te t):=by
 intro pos pins s σ H Q I h
 show wpAny _ _ (evalAll ((do let v ← eval e X.env; standAt pos; pure v) :: (backToKw pos (keywordEach kws X.env)).map (·.2))) _ _ s
 refine wpAny_evalAll_cons (wpAny_bind (thn (ha pins s σ H _ I h) fun u s1 ⟨x,H1,I1,r1,q1⟩=>wpAny_bind (wpAny_standAt (wpAny_pure ?_))))
 exact thn (hr pos pins s1 σ H1 _ I1 q1) fun us s2 ⟨xs,H2,I2,r2,q2⟩=>⟨x :: xs,H2,I2,.cons r1 r2,q2⟩
variable {g : List Value→List Value→List Value} {gV : List V→List V→List V}
end
structure aS (N P : List Str) (sc : Scope) : Prop where
 kind : sc.kind = .function
 co : sc.isCoroutine = false
 gen : sc.isGenerator = false
 nd : N.Nodup
 pre : N.take P.length = P
 par : ∀ x∈P,sc.names.lookup x = some .local∨sc.names.lookup x = some .cell
 nofree : ∀ y∈sc.names,y.2 ≠ .free
theorem oM {kindOf : Str→Option NameKind} {x : Str} : ∀ {binds : List (Str × Value)} {m : Str→Option Value},(∀ v,(x,v) ∉ binds)→bindL kindOf binds m x = m x
 | [],_,_=>rfl
 | (n,v) :: r,m,h=>by
  unfold bindL
  rw [oM fun w hw=>h w (List.mem_cons_of_mem _ hw)]
  split
  ·have : x ≠ n:=by rintro rfl; exact h v List.mem_cons_self
   simp [this]
  ·rfl
theorem oN {kindOf : Str→Option NameKind} {x : Str} : ∀ {binds : List (Str × Value)} {m : Str→Option Value},(∀ v,(x,v) ∉ binds)→bindC kindOf binds m x = m x
 | [],_,_=>rfl
 | (n,v) :: r,m,h=>by
  unfold bindC
  rw [oN fun w hw=>h w (List.mem_cons_of_mem _ hw)]
  split
  ·rfl
  ·have : x ≠ n:=by rintro rfl; exact h v List.mem_cons_self
   simp [this]
theorem oO {kindOf : Str→Option NameKind} {x : Str} {v : Value} : ∀ {P : List Str} {vs : List Value} {i : Nat} {m : Str→Option Value},P.Nodup→P[i]? = some x→vs[i]? = some v→kindOf x = some .local →
  bindL kindOf (P.zip vs) m x = some v
 | [],_,_,_,_,h,_,_=>by simp at h
 | _ :: _,[],_,_,_,_,h,_=>by simp at h
 | p :: P,w :: vs,0,m,nd,h1,h2,hk=>by
  simp at h1 h2; subst h1; subst h2
  show bindL kindOf ((p,w) :: P.zip vs) m p = _
  unfold bindL
  rw [oM fun v hv=>(List.nodup_cons.mp nd).1 (List.of_mem_zip hv).1,if_pos hk]
  simp
 | p :: P,w :: vs,i + 1,m,nd,h1,h2,hk=>by
  show bindL kindOf ((p,w) :: P.zip vs) m x = _
  unfold bindL
  exact oO (i:=i) (List.nodup_cons.mp nd).2 (by simpa using h1) (by simpa using h2) hk
theorem oP {kindOf : Str→Option NameKind} {x : Str} {v : Value} : ∀ {P : List Str} {vs : List Value} {i : Nat} {m : Str→Option Value},P.Nodup→P[i]? = some x→vs[i]? = some v→kindOf x ≠ some .local →
  bindC kindOf (P.zip vs) m x = some v
 | [],_,_,_,_,h,_,_=>by simp at h
 | _ :: _,[],_,_,_,_,h,_=>by simp at h
 | p :: P,w :: vs,0,m,nd,h1,h2,hk=>by
  simp at h1 h2; subst h1; subst h2
  show bindC kindOf ((p,w) :: P.zip vs) m p = _
  unfold bindC
  rw [oN fun v hv=>(List.nodup_cons.mp nd).1 (List.of_mem_zip hv).1,if_neg hk]
  simp
 | p :: P,w :: vs,i + 1,m,nd,h1,h2,hk=>by
  show bindC kindOf ((p,w) :: P.zip vs) m x = _
  unfold bindC
  exact oP (i:=i) (List.nodup_cons.mp nd).2 (by simpa using h1) (by simpa using h2) hk
def start (N : List Str) (vs : List V) : St:=vs.map some ++ List.replicate (N.length - vs.length) none
def cxOf (CX : CXT) (P : Program) (w : World) (K : PySem.W.Frag) (mg : Str→Option Value) (base : Heap) (N : List Str) (qual : Str) (scope : Scope) (f : Addr) (cd : Value) (A : Around) (outer : List Env) (s : Shared) (H : Hp) (E : XK) : Cx where
 prog:=P
 w:=w
 K:=K
 mg:=mg
 base:=base
 A:=A.deeper (envOfC qual scope s.heap.objs.size f cd)
 N:=N
 s₀:=s
 H₀:=H
 env:=envOfC qual scope s.heap.objs.size f cd
 outer:=outer
 stack:=envOfC qual scope s.heap.objs.size f cd :: outer
 ex:=[]
 calm:=true
 fn:=fun _=>true
 pn:=[]
 xe:=fun e s'=>wpAny (model P w) (A.deeper (envOfC qual scope s.heap.objs.size f cd)) (leaving (envOfC qual scope s.heap.objs.size f cd) e) (fun _ s''=>CX outer H s E e s'') (fun e' s''=>CX outer H s E e' s'') s'
theorem qH {sc : Scope} {n : Nat} {x : Str} (h : sc.names.lookup x = some .cell) : ∃ c,(cellsFrom n sc.names []).lookup x = some c:=by
 have q:=PySem.W.cellsFrom_some sc.names n [] (.inl h)
 exact Option.isSome_iff_exists.mp q
theorem xK {CX : CXT} {P : Program} {w : World} {K : PySem.W.Frag} {mg : Str→Option Value} {base : Heap} {N ps : List Str} {qual : Str} {scope : Scope} {f : Addr} {cd : Value} {A : Around} {outer : List Env} {s s1 : Shared} {H : Hp} {E : XK} {us : List Value} {vs : List V}
  (S : aS N ps scope) (hd : A.handled = none) (e0 : Env0 P w K mg base A outer s H) (hl : vs.length = ps.length) (r : Vals vs us)
  (x : InCallC s s.heap.objs.size (bindL (envOfC qual scope s.heap.objs.size f cd).kindOf (ps.zip us) fun _=>none) (cellsFrom (s.heap.objs.size + 1) scope.names []) (bindC (envOfC qual scope s.heap.objs.size f cd).kindOf (ps.zip us) fun _=>none) s1) :
  Inv (cxOf CX P w K mg base N qual scope f cd A outer s H E) [] (start N vs) H s1:=by
 have hpl : ps.length ≤ N.length:=by have:=congrArg List.length S.pre; rw [List.length_take] at this; lia
 obtain ⟨h1,tk,rfl,hk⟩:=x.done
 have noA : ∀ b : Addr,b ∉ (cxOf CX P w K mg base N qual scope f cd A outer s H E).ex:=fun b z=>absurd (show b∈([] : List Addr) from z) (by simp)
 refine ⟨⟨e0.mod,S.kind,rfl,rfl,Nat.le_refl _,fun y z c h1 h2=>?_,fun y hy=>?_,fun y c _ h=>?_,fun _=>hd,Around.frames_deeper e0.frames,.inr ⟨rfl,rfl⟩,fun b z=>absurd z (noA b),e0.bs,e0.bsz,fun b _ _=>noA b,fun b z=>absurd z (noA b),e0.funs,e0.frf⟩,
  rfl,e0.bare,Un.kept hk,⟨_,x.toInCall.ns,fun i y v h1 h2 h3=>?_⟩,fun y c h=>⟨_,x.cell y c h⟩,e0.hok.fresh (Nat.le_refl _),fun y c h=>?_,fun p hp=>absurd (show p∈([] : List (Addr × Obj)) from hp) (by simp),e0.hok.kept hk,?_⟩
 ·exact name_of_addr x.apart (PySem.mem_of_lookup h1) (PySem.mem_of_lookup h2)
 ·have hy : scope.names.lookup y = some .cell∨scope.names.lookup y = some .free:=hy
  rcases hy with hy | hy
  ·exact qH hy
  ·exact absurd rfl (S.nofree _ (PySem.mem_of_lookup hy))
 ·exact Nat.le_of_lt (x.above y c (PySem.mem_of_lookup h))
 ·have hi : i < vs.length:=by
   unfold start at h2
   by_cases hi : i < vs.length
   ·exact hi
   ·rw [List.getElem?_append_right (by simpa using hi)] at h2
    rw [List.getElem?_replicate] at h2
    split at h2 <;> cases h2
  have ha : vs[i]? = some v:=by
   unfold start at h2
   rw [List.getElem?_append_left (by simpa using hi),List.getElem?_map] at h2
   cases e : vs[i]? with
   | none=>rw [e] at h2; cases h2
   | some a=>rw [e] at h2; cases h2; rfl
  obtain ⟨u,hu,rv⟩:=r.get ha
  have hp : ps[i]? = some y:=by
   rw [← S.pre,List.getElem?_take_of_lt (by lia)]; exact h1
  have ndP : ps.Nodup:=by rw [← S.pre]; exact S.nd.sublist (List.take_sublist _ _)
  refine ⟨u,rv,?_⟩
  rcases S.par y (List.mem_of_getElem? hp) with k | k
  ·exact .inl ⟨k,oO ndP hp hu k⟩
  ·obtain ⟨c,e⟩:=qH (n:=s.heap.objs.size + 1) k
   refine .inr ⟨.inl k,c,e,?_⟩
   have q:=x.cell y c e
   rw [oP ndP hp hu (by show scope.names.lookup y ≠ _; rw [k]; decide)] at q
   exact q
 ·exact e0.hok.fresh (Nat.le_of_lt (x.above y c (PySem.mem_of_lookup h)))
 ·unfold start
  show _ = N.length
  rw [List.length_append,List.length_map,List.length_replicate]
  lia
theorem aAL {CX : CXT} {P : Program} {w : World} {K : PySem.W.Frag} {mg : Str→Option Value} {base : Heap} {k : Nat} {f : Addr} {name qual : Str} {params : Arguments} {body : List Stmt} {scope : Scope} {dV kV doc pm cdv ct oc : Value} {an od : Option Addr}
  {osl : Array (Option Value)} {N ps : List Str} {sp : Sp} (lk : K.lookup f = some ⟨oc,od,.func (PySem.W.fnOf name qual params body scope dV kV doc pm an cdv ct),osl⟩) (hcd : PySem.W.codeIn K cdv qual = true) (S : aS N ps scope)
  (len : ∀ vs H Q E,sp vs H Q E→vs.length = ps.length)
  (hbody : ∀ (A : Around) (outer : List Env) (s : Shared) (H : Hp) (vs : List V) (Q : VK) (E : XK),Room k (A.deeper (envOfC qual scope s.heap.objs.size f cdv))→sp vs H Q E →
   ∃ t,PSs (cxOf CX P w K mg base N qual scope f cdv A outer s H E) body t∧t { nx:=fun _ H'=>Q .non H',rt:=Q } (start N vs) H) :
  FnOk P w K mg base CX (k + 1) f (PySem.W.fnOf name qual params body scope dV kV doc pm an cdv ct) ps sp:=by
 refine ⟨len,fun A outer s H args us vs Q E hr e0 hb r hsp=>?_⟩
 have hl:=len _ _ _ _ hsp
 have KX : K.In s.heap:=e0.mod.kin.keeps fun b o e=>(e0.bs b o e).1
 have lim : s.heap.NoLimit:=e0.mod.nolimit.keeps fun b o e=>(e0.bs b o e).1
 have hkind : ∀ y∈ps.zip us,scope.names.lookup y.1 = some .local∨(scope.names.lookup y.1 = some .cell∧((cellsFrom (s.heap.objs.size + 1) scope.names []).lookup y.1).isSome = true):=fun ⟨n,v⟩ hy=>by
  rcases S.par n (List.of_mem_zip hy).1 with q | q
  ·exact .inl q
  ·exact .inr ⟨q,PySem.W.cellsFrom_some _ _ _ (.inl q)⟩
 refine codeAny_call_function hr.depth (KX _ _ lk) rfl S.co S.gen rfl (PySem.W.codeRec_of KX hcd) (hb _ _ _ _ ?_)
 refine wpAny_newFunctionEnv_cells S.kind hkind fun env he s1 x=>?_
 subst he
 refine ⟨lim.keeps x.toInCall.keep,codeAny_func ?_⟩
 obtain ⟨t,ht,hq⟩:=hbody A outer s H vs Q E (hr.deeper _) hsp
 have I : Inv (cxOf CX P w K mg base N qual scope f cdv A outer s H E) [] (start N vs) H s1:=xK S hr.hd e0 hl r x
 refine wpAny_mono (ht [] s1 (start N vs) H _ I hq) (fun fl s' hs=>?_) fun e s' hs=>hs
 have fin : ∀ {σ' : St} {H' : Hp} {v : V} {u : Value},Inv (cxOf CX P w K mg base N qual scope f cdv A outer s H E) [] σ' H' s'→RelV v u→Q v H'→CE outer P w H s Q u s' :=
  fun {σ' H' v u} J rv q=>⟨v,H',J.os,J.bare,J.base,J.hok,rv,q⟩
 cases fl with
 | ret u =>
  obtain ⟨v,σ',H',J,rv,q⟩:=hs
  exact fin J rv q
 | next =>
  obtain ⟨σ',H',J,q⟩:=hs
  exact fin (v:=V.non) (u:=Value.none) J rfl q
 | brk =>
  obtain ⟨_,_,_,q⟩:=hs
  exact False.elim q
 | cont =>
  obtain ⟨_,_,_,q⟩:=hs
  exact False.elim q
end L2
namespace L2
open PySem PySem.Spec PyProof.Rows
section
variable {X : Cx} {x : Str} {p pos : Pos} {e : Expr} {es : List Expr} {t : TA} {id T : String} {r : List V→Hp→VK→Prop}
def tCB (r : List V→Hp→VK→Prop) (t : TA) : TE:=fun σ H Q=>t σ H fun vs H1=>r vs H1 Q
theorem aO (hc : cV X (.builtin id) r) (hg : Gl X x) (hm : X.mg x = none) (hv : bootBuiltins x = some (.builtin id)) (ha : PA X (e :: es) t) (hn : x ≠ "__name__" := by decide) (hdb : (x == ("__debug__" : Str)) = false:=by decide)
  (he : starEach (e :: es) X.env = (false,eval e X.env) :: starEach es X.env:=by rfl) (hpl : (backTo pos (starEach es X.env)).any (·.1) = false:=by rfl) : PE X (.Call (.Name x p) (e :: es) [] pos) (tCB r t):=by
 intro pins s σ H Q I h
 refine wpAny_Call_Name_kw (iH I hg hm hv ?_ hn hdb)
 exact PyProof.Rows.callWith_builtin1 (thn (ha pos pins s σ H _ I h) fun us s1 ⟨vs,H1,I1,r1,q1⟩=>hc pins s1 σ H1 vs us Q I1 r1 q1) he hpl
theorem eX (hc : cV X (.type T) r) (hg : Gl X x) (hm : X.mg x = none) (hv : bootBuiltins x = some (.type T)) (ha : PA X (e :: es) t) (hn : x ≠ "__name__" := by decide) (hdb : (x == ("__debug__" : Str)) = false:=by decide)
  (he : starEach (e :: es) X.env = (false,eval e X.env) :: starEach es X.env:=by rfl) (hpl : (backTo pos (starEach es X.env)).any (·.1) = false:=by rfl) : PE X (.Call (.Name x p) (e :: es) [] pos) (tCB r t):=by
 intro pins s σ H Q I h
 refine wpAny_Call_Name_kw (iH I hg hm hv ?_ hn hdb)
 exact PyProof.Rows.callWith_type1 (thn (ha pos pins s σ H _ I h) fun us s1 ⟨vs,H1,I1,r1,q1⟩=>hc pins s1 σ H1 vs us Q I1 r1 q1) he hpl
end
end L2
namespace HT
open PySem PyProof.Rows
section
open PySem.SeqAt
open PySem.AutoSeq1 (wpAny_loadPart')
open PySem.MeetsSeq PySem.MeetsSeq2 PySem.MeetsSeq3
end
section
variable {prog : Program} {w : World} {A : Around} {E : Value→Shared→Prop} {s : Shared}
def sIx (n d : Nat) : Option Int→Nat
 | none=>d
 | some v=>if v < 0 then (v + (n : Int)).toNat else min v.toNat n
end
end HT
namespace L2
open PySem PySem.Spec PyProof.Rows
abbrev TO:=St→Hp→(Option Int→Hp→Prop)→Prop
def PO (X : Cx) (e : Option Expr) (t : TO) : Prop :=
 ∀ (pins : List (Addr × Obj)) (s : Shared) (σ : St) (H : Hp) (Q : Option Int→Hp→Prop),Inv X pins σ H s→t σ H Q →
  wpAny (model X.prog X.w) X.A (evalPart e X.env) (fun u s'=>∃ o H',Inv X pins σ H' s'∧IsPart u o∧Q o H') X.xe s
def aA2 : TO:=fun _ H Q=>Q none H
def aAM (t : TE) : TO:=fun σ H Q=>t σ H fun x H1=>∃ i,x = .int i∧Q (some i) H1
theorem vN {ns : List Int} : ∀ {us : List Value},Vals (ns.map V.int) us→IntsAre us ns:=by
 induction ns with
 | nil=>intro us r; rw [List.map_nil] at r; cases r; exact .nil
 | cons n ns ih =>
  intro us r
  rw [List.map_cons] at r
  cases r with
  | cons r1 r2 =>
   obtain ⟨t,e⟩:=r1
   subst e
   exact .cons n t (ih r2)
section
variable {X : Cx} {e : Expr} {te : TE} {lo hi : Option Expr} {tl th : TO} {pos p2 : Pos}
theorem nB : PO X none aA2:=by
 intro pins s σ H Q I h
 rw [evalPart_none]
 exact wpAny_pure ⟨none,H,I,.none,h⟩
theorem nE (h : PE X e te) : PO X (some e) (aAM te):=by
 intro pins s σ H Q I hw
 rw [evalPart_some]
 refine thn (h pins s σ H _ I hw) fun u s1 ⟨x,H1,I1,r1,q1⟩=>?_
 obtain ⟨i,rfl,q⟩:=q1
 obtain ⟨t,rfl⟩:=r1
 exact ⟨some i,H1,I1,.int i t,q⟩
def SlR (X : Cx) (r : V→Option Int→Option Int→Hp→VK→Prop) : Prop :=
 ∀ (pins : List (Addr × Obj)) (s : Shared) (σ : St) (H : Hp) (x : V) (v vl vu : Value) (lo hi : Option Int) (sl : Addr) (Q : VK),Inv X pins σ H s→RelV x v→s.heap.IsSliceOf sl vl vu .none→IsPart vl lo→IsPart vu hi→r x lo hi H Q →
  ∃ T id,typeLookup (.type T) "__getitem__" = pure (some (.builtin id))∧s.TypeIs v T∧wpAny (model X.prog X.w) X.A (getItem v (.ref sl)) (EP X pins σ Q) X.xe s
def tSl (r : V→Option Int→Option Int→Hp→VK→Prop) (te : TE) (tl th : TO) : TE:=fun σ H Q=>te σ H fun x H1=>tl σ H1 fun l H2=>th σ H2 fun u H3=>r x l u H3 Q
theorem aAa {r : V→Option Int→Option Int→Hp→VK→Prop} (hr : SlR X r) (he : PE X e te) (hl : PO X lo tl) (hu : PO X hi th) : PE X (.Subscript e (.Slice lo hi none p2) pos) (tSl r te tl th):=by
 intro pins s σ H Q I h
 refine Subscript_ (thn (he pins s σ H _ I h) fun v s1 ⟨x,H1,I1,r1,q1⟩=>?_)
 refine wpAny_Slice (thn (hl pins s1 σ H1 _ I1 q1) fun vl s2 ⟨l,H2,I2,pl,q2⟩=>thn (hu pins s2 σ H2 _ I2 q2) fun vu s3 ⟨u,H3,I3,pu,q3⟩=>?_)
 rw [evalPart_none]
 refine wpAny_pure ?_
 have I4 : Inv X pins σ H3 { s3 with heap:=s3.heap.push { cls:=.type "slice",data:=.fields #[vl,vu,.none] } }:=I3.kept (t':=s3.toks) fun b ob q=>Heap.get?_push_of_some _ q
 obtain ⟨T,id,hT,ht,hg⟩:=hr pins { s3 with heap:=s3.heap.push { cls:=.type "slice",data:=.fields #[vl,vu,.none] } } σ H3 x v vl vu l u s3.heap.objs.size Q I4 r1 (Heap.IsSliceOf.new ..) pl pu q3
 show wpAny (model X.prog X.w) X.A (subscriptTail e (.Slice lo hi none p2) v (.ref s3.heap.objs.size)) (EP X pins σ Q) X.xe { s3 with heap:=s3.heap.push { cls:=.type "slice",data:=.fields #[vl,vu,.none] } }
 exact tail_any (ops:=[.ref s3.heap.objs.size,v]) ht hT hg (by with_unfolding_all rfl)
def cutV (xs : List V) (lo hi : Option Int) : List V:=(xs.drop (HT.sIx xs.length 0 lo)).take (HT.sIx xs.length xs.length hi - HT.sIx xs.length 0 lo)
theorem sK (xs : List V) (lo hi : Option Int) : (cutV xs lo hi).length ≤ xs.length:=by
 unfold cutV
 rw [List.length_take,List.length_drop]
 lia
end
end L2
namespace L2
open PySem PySem.Spec PyProof.Rows
def ixN (n : Nat) (i : Int) : Option Nat:=if 0 ≤ i then (if i < n then some i.toNat else none) else if -(n : Int) ≤ i then some (i + n).toNat else none
def atI {α : Type} (xs : List α) (i : Int) : Option α:=(ixN xs.length i).bind fun j=>xs[j]?
theorem nF {n : Nat} {i : Int} {j : Nat} (h : ixN n i = some j) : seqIndex? i n = some j∧j < n∧-(n : Int) ≤ i∧i < n:=by
 unfold ixN at h
 by_cases h0 : 0 ≤ i
 ·rw [if_pos h0] at h
  by_cases h1 : i < n
  ·rw [if_pos h1] at h
   have e : i.toNat = j:=Option.some.inj h
   exact ⟨by rw [seqIndex_of h0 h1,e],by lia,by lia,h1⟩
  ·rw [if_neg h1] at h; cases h
 ·rw [if_neg h0] at h
  by_cases h1 : -(n : Int) ≤ i
  ·rw [if_pos h1] at h
   have e : (i + n).toNat = j:=Option.some.inj h
   exact ⟨by rw [seqIndex_neg (by lia) h1,e],by lia,h1,by lia⟩
  ·rw [if_neg h1] at h; cases h
theorem tQ {α : Type} {xs : List α} {i : Int} {v : α} (h : atI xs i = some v) : ∃ j,seqIndex? i xs.length = some j∧xs[j]? = some v∧j < xs.length∧-(xs.length : Int) ≤ i∧i < xs.length:=by
 unfold atI at h
 cases e : ixN xs.length i with
 | none=>rw [e] at h; cases h
 | some j =>
  rw [e] at h
  obtain ⟨h1,h2,h3,h4⟩:=nF e
  exact ⟨j,h1,h,h2,h3,h4⟩
theorem bD {α : Type} {xs : List α} {j : Nat} {v : α} (h : xs[j]? = some v) : atI xs (j : Int) = some v:=by
 have hj : j < xs.length:=(List.getElem?_eq_some_iff.mp h).1
 have e : ixN xs.length (j : Int) = some j:=by
  unfold ixN
  rw [if_pos (by lia),if_pos (by lia)]; simp
 unfold atI; rw [e]; exact h
theorem qI {α : Type} (xs : List α) (v : α) : atI (xs ++ [v]) (-1) = some v:=by
 have hl : (xs ++ [v]).length = xs.length + 1:=by simp
 have e : ixN (xs ++ [v]).length (-1) = some xs.length:=by
  unfold ixN
  rw [hl,if_neg (by decide),if_pos (by lia)]
  congr 1
  lia
 unfold atI
 rw [e]
 show (xs ++ [v])[xs.length]? = some v
 simp
def aA3 (b : Expr) : Prop:=∀ o i,subscripted b false o i = operate [o,i] (getItem o i)
def IxR (X : Cx) (r : R2) : Prop :=
 ∀ (value slice : Expr) (pins : List (Addr × Obj)) (s : Shared) (σ : St) (H : Hp) (x y : V) (v u : Value) (Q : VK),Inv X pins σ H s→RelV x v→RelV y u→r x y H Q →
  subscripted slice false v u = operate [v,u] (getItem v u)→wpAny (model X.prog X.w) X.A (subscriptTail value slice v u) (EP X pins σ Q) X.xe s
def MtR (X : Cx) (id : String) (r : V→List V→Hp→VK→Prop) : Prop :=
 ∀ (pins : List (Addr × Obj)) (s : Shared) (σ : St) (H : Hp) (x : V) (xs : List V) (v : Value) (us : List Value) (Q : VK),Inv X pins σ H s→RelV x v→Vals xs us→r x xs H Q →
  wpAny (model X.prog X.w) X.A (call (.builtin id) (v :: us)) (EP X pins σ Q) X.xe s
section
variable {X : Cx} {a b : Expr} {ta tb : TE} {pos : Pos}
theorem bH {r : R2} (hr : IxR X r) (ha : PE X a ta) (hb : PE X b tb) (hs : aA3 b) : PE X (.Subscript a b pos) (tOp r ta tb):=by
 intro pins s σ H Q I h
 exact Subscript_ (binT ha hb I h fun v u s2 x y H2 I2 rx ry q=>hr a b pins s2 σ H2 x y v u Q I2 rx ry q (hs _ _))
def rIxL (K : PySem.W.Frag) : R2:=fun x y H Q=>∃ p xs i v,x = .ref p∧y = .int i∧SqL K H p xs∧atI xs i = some v∧Q v H
def rIxT (K : PySem.W.Frag) : R2:=fun x y H Q=>∃ p xs i v,x = .ref p∧y = .int i∧SqT K H p xs∧atI xs i = some v∧Q v H
theorem bE : IxR X (rIxL X.K):=by
 intro value slice pins s σ H x y v u Q I rx ry h hs
 obtain ⟨p,xs,i,z,rfl,rfl,hq,he,q⟩:=h
 cases rx
 obtain ⟨t,rfl⟩:=ry
 obtain ⟨its,r,pl,hz⟩:=I.list hq
 obtain ⟨j,h1,h2,h3,h4,h5⟩:=tQ he
 obtain ⟨w,ew,rw'⟩:=r.get h2
 have hl:=r.length
 have hn:=lR
 have fin : EP X pins σ Q w s:=⟨z,H,I,rw',q⟩
 by_cases h0 : 0 ≤ i
 ·have hj : i.toNat = j:=by
   rw [seqIndex_of h0 h5] at h1
   exact Option.some.inj h1
  exact item_listR pl.isList h0 (by lia) (by rw [hj]; simpa using ew) fin hs
 ·have hj : (i + (its.toArray.size : Int)).toNat = j:=by
   rw [seqIndex_neg (by lia) h4] at h1
   rw [List.size_toArray,← hl]
   exact Option.some.inj h1
  exact subscriptTail_builtinR (x:=w) pl.isList.typeIs slot_list_getitem.lookup
   (wpAny_getItem_list_neg (Q:=fun r s'=>r = w∧EP X pins σ Q r s') pl.isList (by lia) (by rw [List.size_toArray] <;> lia) (by lia) (by rw [hj]; simpa using ew) ⟨rfl,fin⟩) hs
theorem eK : IxR X (rIxT X.K):=by
 intro value slice pins s σ H x y v u Q I rx ry h hs
 obtain ⟨p,xs,i,z,rfl,rfl,hq,he,q⟩:=h
 cases rx
 obtain ⟨t,rfl⟩:=ry
 obtain ⟨its,r,pl,hz⟩:=I.tuple hq
 obtain ⟨j,h1,h2,h3,h4,h5⟩:=tQ he
 obtain ⟨w,ew,rw'⟩:=r.get h2
 have hl:=r.length
 have hn:=lR
 have fin : EP X pins σ Q w s:=⟨z,H,I,rw',q⟩
 exact subscriptTail_builtinR (x:=w) pl.typeIs slot_tuple_getitem.lookup
  (getItem_tuple (j:=j) (Q:=fun r s'=>r = w∧EP X pins σ Q r s') pl (by lia) (by lia) (by rw [List.size_toArray,← hl]; exact h1) (by simpa using ew) ⟨rfl,fin⟩) hs
theorem vO (its : List Value) (n j : Nat) (u : Value) : Obj.mapSeq (·.setIfInBounds j u) { cls:=.type "list",data:=.seq its.toArray n } = { cls:=.type "list",data:=.seq (its.set j u).toArray n }:=by
 simp [Obj.mapSeq]
theorem Inv.lst {pins : List (Addr × Obj)} {σ : St} {H : Hp} {s : Shared} {p : Addr} {xs : List V} (I : Inv X pins σ H s) (h : H p = some (.lst xs)) :
  ∃ (its : List Value) (n : Nat),Vals xs its∧s.heap.get? p = some { cls:=.type "list",data:=.seq its.toArray n }∧xs.length ≤ sizeLine:=by
 obtain ⟨z,its,n,r,e⟩:=I.hok p _ h
 exact ⟨its,n,r,e,z⟩
theorem Inv.lstUpd {pins : List (Addr × Obj)} {σ : St} {H : Hp} {s : Shared} {p : Addr} {xs ys : List V} {its its' : List Value} {n n' : Nat} {f : Obj→Obj} (I : Inv X pins σ H s) (h : H p = some (.lst xs))
  (ho : s.heap.get? p = some { cls:=.type "list",data:=.seq its.toArray n }) (hf : f { cls:=.type "list",data:=.seq its.toArray n } = { cls:=.type "list",data:=.seq its'.toArray n' }) (r : Vals ys its') (hz : ys.length ≤ sizeLine) (t : Nat) :
  Inv X pins σ (upd H p (.lst ys)) { s with heap:=s.heap.update p f,toks:=t }:=by
 have e : (s.heap.update p f).get? p = some { cls:=.type "list",data:=.seq its'.toArray n' }:=by
  rw [Heap.get?_update_self f ho (by rw [hf] <;> rfl),hf]
 refine I.write (x:=p) (e:=p) (by rw [h]; trivial) (.inl rfl) (fun b u hb q=>(Heap.get?_update_other _ _ (Ne.symm hb)).trans q) ⟨_,e⟩ ?_
 exact ⟨hz,its',n',r,e⟩
def aCD : V→V→V→Hp→(Hp→Prop)→Prop:=fun o i v H Q=>∃ p xs k j,o = .ref p∧i = .int k∧H p = some (.lst xs)∧ixN xs.length k = some j∧Q (upd H p (.lst (xs.set j v)))
theorem iV : PSet X aCD:=by
 intro pins s σ H o i v ov iv u Q I ro ri rv h
 obtain ⟨p,xs,k,j,rfl,rfl,hp,hj,q⟩:=h
 cases ro
 obtain ⟨t,rfl⟩:=ri
 obtain ⟨its,n,r,ho,hz⟩:=I.lst hp
 obtain ⟨h1,h2,h3,h4⟩:=nF hj
 have hl:=r.length
 have hn:=lR
 have I' : Inv X pins σ (upd H p (.lst (xs.set j v))) { s with heap:=s.heap.update p (Obj.mapSeq (·.setIfInBounds j u)) } :=
  I.lstUpd hp ho (vO its n j u) (r.set rv j) (by rw [List.length_set]; exact hz) s.toks
 by_cases h0 : 0 ≤ k
 ·have hk : k.toNat = j:=by
   rw [seqIndex_of h0 h4] at h1
   exact Option.some.inj h1
  exact PySem.W.ki_setAt ho h0 (by lia) (by rw [List.size_toArray,← hl]; exact h4) (by rw [hk]; exact ⟨_,I',q⟩)
 ·have hk : (k + (its.toArray.size : Int)).toNat = j:=by
   rw [seqIndex_neg (by lia) h3] at h1
   rw [List.size_toArray,← hl]
   exact Option.some.inj h1
  exact PySem.W.ki_setBack ho (by lia) (by rw [List.size_toArray,← hl]; exact h3) (by lia) (by rw [hk]; exact ⟨_,I',q⟩)
theorem qJ (lo hi : Option Int) (n : Nat) : (sliceBounds lo hi none n).1 = ((HT.sIx n 0 lo : Nat) : Int)∧(sliceBounds lo hi none n).2.1 = ((HT.sIx n n hi : Nat) : Int)∧(sliceBounds lo hi none n).2.2 = 1:=by
 refine ⟨?_,?_,rfl⟩
 ·cases lo with
  | none=>simp [sliceBounds,HT.sIx]
  | some i =>
   simp only [sliceBounds,HT.sIx,Option.getD_none,show (1 : Int) > 0 by decide,if_true]
   by_cases h : i < 0
   ·simp only [h,if_true] <;> lia
   ·simp only [h,if_false] <;> lia
 ·cases hi with
  | none=>simp [sliceBounds,HT.sIx]
  | some i =>
   simp only [sliceBounds,HT.sIx,Option.getD_none,show (1 : Int) > 0 by decide,if_true]
   by_cases h : i < 0
   ·simp only [h,if_true] <;> lia
   ·simp only [h,if_false] <;> lia
theorem pJ (its : List Value) (lo hi : Option Int) : slicePick its.toArray lo hi none = ((its.drop (HT.sIx its.length 0 lo)).take (HT.sIx its.length its.length hi - HT.sIx its.length 0 lo)).toArray:=by
 obtain ⟨h1,h2,h3⟩:=qJ lo hi its.toArray.size
 unfold slicePick
 rw [h1,h2,h3]
 simp only [sliceRange_one,pick_run,List.size_toArray] <;> rfl
def rSlL (K : PySem.W.Frag) : V→Option Int→Option Int→Hp→VK→Prop:=fun x lo hi H Q=>∃ a xs,x = .ref a∧SqL K H a xs∧∀ p,H p = none→Q (.ref p) (upd H p (.lst (cutV xs lo hi)))
theorem aA4 : SlR X (rSlL X.K):=by
 intro pins s σ H x v vl vu lo hi sl Q I rx hs pl pu h
 obtain ⟨a,xs,rfl,hx,q⟩:=h
 cases rx
 obtain ⟨its,r,ht,hz⟩:=I.list hx
 have hlen:=r.length
 refine ⟨"list",_,slot_list_getitem.lookup,ht.isList.typeIs,?_⟩
 refine wpAny_getItem_list_slice ht.isList hs pl pu .none (by simp) ?_ (by rw [List.size_toArray] <;> lia)
 rw [pJ,← hlen]
 refine ⟨.ref s.heap.objs.size,_,I.laid (t':=s.toks) (o:=.lst (cutV xs lo hi)) (fun b ob q=>Heap.get?_push_of_some _ q) (Nat.le_refl _) ?_,rfl,q _ (I.hok.fresh (Nat.le_refl _))⟩
 exact ⟨Nat.le_trans (sK xs lo hi) hz,_,0,(r.drop (HT.sIx xs.length 0 lo)).take (HT.sIx xs.length xs.length hi - HT.sIx xs.length 0 lo),Heap.get?_push_size _ rfl⟩
def dD : V→Bool
 | .non=>true
 | .bl _=>true
 | .int _=>true
 | .str _=>true
 | _=>false
def eqV : V→V→Bool
 | .non,.non=>true
 | .bl a,.bl b=>a == b
 | .bl a,.int b=>(if a then 1 else 0) == b
 | .int a,.bl b=>a == (if b then 1 else 0)
 | .int a,.int b=>a == b
 | .str a,.str b=>a == b
 | _,_=>false
theorem lV {A : Around} {s : Shared} {y x : V} {u v : Value} (ry : RelV y u) (rx : RelV x v) (fy : dD y = true) (fx : dD x = true) : SeqAt.EqAt A s u v (eqV y x):=by
 cases y with
 | non =>
  cases ry
  cases x with
  | non=>cases rx; exact SeqAt.EqAt.same _
  | bl b=>cases rx; exact SeqAt.EqAt.none_bool b
  | int b=>obtain ⟨t,rfl⟩:=rx; exact SeqAt.EqAt.none_int b t
  | str b=>obtain ⟨t,rfl⟩:=rx; exact SeqAt.EqAt.none_str b t
  | _=>exact absurd (show false = true from fx) Bool.false_ne_true
 | bl a =>
  cases ry
  cases x with
  | non=>cases rx; exact SeqAt.EqAt.bool_none a
  | bl b=>cases rx; exact SeqAt.EqAt.bool_bool a b
  | int b=>obtain ⟨t,rfl⟩:=rx; exact SeqAt.EqAt.bool_int a b t
  | str b=>obtain ⟨t,rfl⟩:=rx; exact SeqAt.EqAt.bool_str a b t
  | _=>exact absurd (show false = true from fx) Bool.false_ne_true
 | int a =>
  obtain ⟨t',rfl⟩:=ry
  cases x with
  | non=>cases rx; exact SeqAt.EqAt.int_none a t'
  | bl b=>cases rx; exact SeqAt.EqAt.int_bool a t' b
  | int b=>obtain ⟨t,rfl⟩:=rx; exact SeqAt.EqAt.int_int a t' b t
  | str b=>obtain ⟨t,rfl⟩:=rx; exact SeqAt.EqAt.int_str a t' b t
  | _=>exact absurd (show false = true from fx) Bool.false_ne_true
 | str a =>
  obtain ⟨t',rfl⟩:=ry
  cases x with
  | non=>cases rx; exact SeqAt.EqAt.str_none a t'
  | bl b=>cases rx; exact SeqAt.EqAt.str_bool a t' b
  | int b=>obtain ⟨t,rfl⟩:=rx; exact SeqAt.EqAt.str_int a t' b t
  | str b=>obtain ⟨t,rfl⟩:=rx; exact SeqAt.EqAt.str_str a t' b t
  | _=>exact absurd (show false = true from fx) Bool.false_ne_true
 | _=>exact absurd (show false = true from fy) Bool.false_ne_true
def eqU (x : V) (u : Value) : Bool:=match u with
 | .none=>eqV .non x
 | .bool b=>eqV (.bl b) x
 | .int i _=>eqV (.int i) x
 | .str z _=>eqV (.str z) x
 | _=>false
theorem xL {x y : V} {u : Value} (r : RelV y u) (f : dD y = true) : eqU x u = eqV y x:=by
 cases y with
 | non=>cases r; rfl
 | bl b=>cases r; rfl
 | int i=>obtain ⟨t,rfl⟩:=r; rfl
 | str z=>obtain ⟨t,rfl⟩:=r; rfl
 | _=>exact absurd (show false = true from f) Bool.false_ne_true
theorem iK {x : V} : ∀ {xs : List V} {us : List Value},Vals xs us→xs.all dD = true→us.any (eqU x) = xs.any fun y=>eqV y x
 | _,_,.nil,_=>rfl
 | y :: xs,u :: us,.cons r t,f=>by
  rw [List.all_cons,Bool.and_eq_true] at f
  rw [List.any_cons,List.any_cons,xL r f.1,iK t f.2]
theorem gE {A : Around} {s : Shared} {x : V} {v : Value} (rx : RelV x v) (fx : dD x = true) : ∀ {xs : List V} {us : List Value},Vals xs us→xs.all dD = true→∀ u∈us,SeqAt.EqAt A s u v (eqU x u)
 | _,_,.nil,_=>fun u hu=>by cases hu
 | y :: xs,u :: us,.cons r t,f=>fun u' hu=>by
  rw [List.all_cons,Bool.and_eq_true] at f
  rcases List.mem_cons.mp hu with rfl | hu
  ·rw [xL r f.1]; exact lV r rx f.1 fx
  ·exact gE rx fx t f.2 u' hu
def inV (x : V) (xs : List V) : Bool:=xs.any fun y=>eqV y x
def rIn (K : PySem.W.Frag) (neg : Bool) : R2:=fun x y H Q=>∃ p xs,y = .ref p∧(SqL K H p xs∨SqT K H p xs)∧dD x = true∧xs.all dD = true∧Q (.bl (if neg then !inV x xs else inV x xs)) H
theorem jL : OpR X (compareOp .In) (rIn X.K false):=by
 intro pins s σ H x y v u Q I rx ry h
 obtain ⟨p,xs,rfl,hq,fx,fs,q⟩:=h
 cases ry
 rcases hq with hq | hq
 ·obtain ⟨its,r,pl,hz⟩:=I.list hq
  refine SeqAt.in_listAt (eqU x) pl.isList (fun w hw=>gE rx fx r fs w (by simpa using hw)) ⟨.bl _,H,I,rfl,?_⟩
  rw [show its.toArray.any (eqU x) = its.any (eqU x) by simp,iK r fs]
  exact q
 ·obtain ⟨its,r,pl,hz⟩:=I.tuple hq
  refine SeqAt.in_tupleAt (eqU x) pl (fun w hw=>gE rx fx r fs w (by simpa using hw)) ⟨.bl _,H,I,rfl,?_⟩
  rw [show its.toArray.any (eqU x) = its.any (eqU x) by simp,iK r fs]
  exact q
theorem qK : OpR X (compareOp .NotIn) (rIn X.K true):=by
 intro pins s σ H x y v u Q I rx ry h
 obtain ⟨p,xs,rfl,hq,fx,fs,q⟩:=h
 cases ry
 rcases hq with hq | hq
 ·obtain ⟨its,r,pl,hz⟩:=I.list hq
  refine SeqAt.notIn_listAt (eqU x) pl.isList (fun w hw=>gE rx fx r fs w (by simpa using hw)) ⟨.bl _,H,I,rfl,?_⟩
  rw [show its.toArray.any (eqU x) = its.any (eqU x) by simp,iK r fs]
  exact q
 ·obtain ⟨its,r,pl,hz⟩:=I.tuple hq
  refine SeqAt.notIn_tupleAt (eqU x) pl (fun w hw=>gE rx fx r fs w (by simpa using hw)) ⟨.bl _,H,I,rfl,?_⟩
  rw [show its.toArray.any (eqU x) = its.any (eqU x) by simp,iK r fs]
  exact q
theorem aR : cV X (.builtin "len") (fun xs H Q=>∃ p ys,xs = [.ref p]∧(SqL X.K H p ys∨SqT X.K H p ys)∧Q (.int ys.length) H):=by
 intro pins s σ H xs us Q I r h
 obtain ⟨p,ys,rfl,hq,q⟩:=h
 obtain ⟨u,rfl,rx⟩:=aAJ r
 cases rx
 have hn:=lR
 rcases hq with hq | hq
 ·obtain ⟨its,r',pl,hz⟩:=I.list hq
  have hlen:=r'.length
  exact Calls.call_len_list pl.isList (by simp only [List.size_toArray] <;> lia) ⟨.int ys.length,H,I.tok _,⟨s.toks + 1,by rw [List.size_toArray,hlen]⟩,q⟩
 ·obtain ⟨its,r',pl,hz⟩:=I.tuple hq
  have hlen:=r'.length
  exact len_tuple pl (by simp only [List.size_toArray] <;> lia) ⟨.int ys.length,H,I.tok _,⟨s.toks + 1,by rw [List.size_toArray,hlen]⟩,q⟩
theorem jM : cV X (.type "list") (fun xs H Q=>∃ p ys,xs = [.ref p]∧(SqL X.K H p ys∨SqT X.K H p ys)∧∀ l,H l = none→Q (.ref l) (upd H l (.lst ys))):=by
 intro pins s σ H xs us Q I r h
 obtain ⟨p,ys,rfl,hq,q⟩:=h
 obtain ⟨u,rfl,rx⟩:=aAJ r
 cases rx
 have fin : ∀ (its : List Value),Vals ys its→ys.length ≤ sizeLine→∀ (h' : Heap) (c' : Nat),(∀ b o',s.heap.get? b = some o'→h'.get? b = some o') →
   h'.get? s.heap.objs.size = some { cls:=.type "list",dict:=none,data:=.seq its.toArray c',slots:=#[] }→EP X pins σ Q (.ref s.heap.objs.size) { s with heap:=h' }:=fun its r' hz h' c' kp e =>
  ⟨.ref s.heap.objs.size,_,I.laid (t':=s.toks) kp (Nat.le_refl _) (show bX X.prog X.w _ h' _ (.lst ys) from ⟨hz,its,c',r',e⟩),rfl,q _ (I.hok.fresh (Nat.le_refl _))⟩
 rcases hq with hq | hq
 ·obtain ⟨its,r',pl,hz⟩:=I.list hq
  have hlen:=r'.length
  obtain ⟨o,ho,hc,n,hd⟩:=pl.isList
  exact call_list_seq p (.inl rfl) ho hc hd (fun h' c' kp e=>fin its r' hz h' c' kp e) (by simp only [List.size_toArray] <;> lia)
 ·obtain ⟨its,r',pl,hz⟩:=I.tuple hq
  have hlen:=r'.length
  obtain ⟨o,ho,hc,n,hd⟩:=pl
  exact call_list_seq p (.inr rfl) ho hc hd (fun h' c' kp e=>fin its r' hz h' c' kp e) (by simp only [List.size_toArray] <;> lia)
def tyV (K : PySem.W.Frag) (T : String) (x : V) (H : Hp) : Prop:=match x with
 | .str _=>T = "str"
 | .int _=>T = "int"
 | .ref p=>(T = "list" ∧ ∃ xs,SqL K H p xs)∨(T = "tuple" ∧ ∃ o,K.lookup p = some o∧o.cls = .type "tuple" ∧ o.dict = none) ∨
   (T = "dict" ∧ ((∃ kvs,H p = some (.dK kvs))∨∃ kvs,H p = some (.dT kvs)))∨(T = "set" ∧ ∃ S n,H p = some (.set S n))
 | _=>False
theorem aB3 {pins : List (Addr × Obj)} {σ : St} {H : Hp} {s : Shared} {T : String} {x : V} {v : Value} (I : Inv X pins σ H s) (r : RelV x v) (ty : tyV X.K T x H) :
  s.TypeIs v T∧∀ a,v = .ref a→∃ ob,s.heap.get? a = some ob∧ob.dict = none:=by
 cases x with
 | str z =>
  obtain ⟨t,rfl⟩:=r
  cases (show T = "str" from ty)
  exact ⟨typeIs_str s z t,fun _ e=>nomatch e⟩
 | int i =>
  obtain ⟨t,rfl⟩:=r
  cases (show T = "int" from ty)
  exact ⟨typeIs_int s i t,fun _ e=>nomatch e⟩
 | ref p =>
  cases r
  rcases ty with ⟨rfl,xs,hq⟩ | ⟨rfl,o,hk,hc,hd⟩ | ⟨rfl,hk⟩ | ⟨rfl,S,n,hk⟩
  ·obtain ⟨its,_,pl,_⟩:=I.list hq
   refine ⟨pl.isList.typeIs,fun a e=>?_⟩
   cases e
   obtain ⟨o,n,e,c,hd,_⟩:=pl
   exact ⟨o,e,hd⟩
  ·refine ⟨⟨o,I.kIn p o hk,hc⟩,fun a e=>?_⟩
   cases e
   exact ⟨o,I.kIn _ o hk,hd⟩
  ·have z : ∃ o,s.heap.get? p = some o∧o.ExactDict:=by
    rcases hk with ⟨kvs,hk⟩ | ⟨kvs,hk⟩
    ·obtain ⟨_,_,_,_,o,_,_,e,ex,_⟩:=I.hok p _ hk
     exact ⟨o,e,ex⟩
    ·obtain ⟨_,_,_,_,o,_,_,e,ex,_⟩:=I.hok p _ hk
     exact ⟨o,e,ex⟩
   obtain ⟨o,e,ex⟩:=z
   refine ⟨⟨o,e,ex.1⟩,fun a e2=>?_⟩
   cases e2
   exact ⟨o,e,ex.2.1⟩
  ·obtain ⟨o,_,_,_,e,ex,_⟩:=I.hok p _ hk
   refine ⟨⟨o,e,ex.1⟩,fun a e2=>?_⟩
   cases e2
   exact ⟨o,e,ex.2.1⟩
 | _=>exact False.elim ty
def tBM (K : PySem.W.Frag) (T : String) (r : V→List V→Hp→VK→Prop) (to : TE) (t : TA) : TE:=fun σ H Q=>to σ H fun x H1=>tyV K T x H1∧t σ H1 fun xs H2=>r x xs H2 Q
variable {o e : Expr} {es : List Expr} {to : TE} {t : TA} {name : Str} {apos cpos : Pos} {T id : String} {r : V→List V→Hp→VK→Prop}
theorem lW (pa : PlainAttrs T) (slot : Slot T name id) (hty : typeOf (.builtin id) = pure (.type "method_descriptor")) (hm : MtR X id r) (ho : PE X o to) (ha : PA X (e :: es) t)
  (hbase : attributeBase o name X.env (eval o X.env) = eval o X.env:=by rfl)
  (hfew : ((backTo cpos (starEach (e :: es) X.env)).all (fun x=>!x.1) && (backToKw cpos (keywordEach [] X.env)).all (fun x=>x.1.isSome)
   && decide ((e :: es).length + ([] : List Keyword).length + (if ([] : List Keyword).isEmpty then 0 else 1) < 30)) = true:=by rfl)
  (hline : (apos.endLine == cpos.line) = true:=by rfl) (hs : starEach (e :: es) X.env = (false,eval e X.env) :: starEach es X.env:=by rfl) (hplain : (backTo cpos (starEach es X.env)).any (·.1) = false:=by rfl) :
  PE X (.Call (.Attribute o name apos) (e :: es) [] cpos) (tBM X.K T r to t):=by
 intro pins s σ H Q I h
 refine wpAny_Call_method_late hbase hfew hline rfl (thn (ho pins s σ H _ I h) fun v s1 ⟨x,H1,I1,r1,ty,q1⟩=>?_)
 obtain ⟨h1,h2⟩:=aB3 I1 r1 ty
 refine ⟨T,id,pa,slot,hty,h1,h2,?_⟩
 have hA:=ha cpos pins s1 σ H1 _ I1 q1
 rw [hs] at hA ⊢
 refine Calls.callWith_builtin (by show (false || (backTo cpos (starEach es X.env)).any (·.1)) = false; rw [hplain] <;> rfl) (Calls.evalArgs_plain ?_)
 exact thn hA fun us s2 ⟨vs,H2,I2,r2,q2⟩=>hm pins s2 σ H2 x vs v us Q I2 r1 r2 q2
end
end L2
namespace L2
open PySem PySem.Spec PyProof.Rows
def MtM (X : Cx) (id : String) (r : V→List V→Hp→VK→Prop) : Prop :=
 ∀ (pins : List (Addr × Obj)) (s : Shared) (σ : St) (H : Hp) (x : V) (xs : List V) (v : Value) (us : List Value) (Q : VK),Inv X pins σ H s→RelV x v→Vals xs us→r x xs H Q →
  wpAny (model X.prog X.w) X.A (call (.builtin id) (v :: us)) (EP X pins σ Q) X.xe s
theorem Vals.one : ∀ {x : V} {us : List Value},Vals [x] us→∃ u,us = [u]∧RelV x u
 | _,_,.cons r .nil=>⟨_,rfl,r⟩
theorem Vals.two : ∀ {x y : V} {us : List Value},Vals [x,y] us→∃ u v,us = [u,v]∧RelV x u∧RelV y v
 | _,_,_,.cons r (.cons q .nil)=>⟨_,_,rfl,r,q⟩
theorem Vals.eraseIdx : ∀ {xs : List V} {us : List Value} (i : Nat),Vals xs us→Vals (xs.eraseIdx i) (us.eraseIdx i)
 | _,_,_,.nil=>.nil
 | _,_,0,.cons _ t=>t
 | _,_,i + 1,.cons r t=>.cons r (Vals.eraseIdx i t)
theorem Vals.rep {xs : List V} {us : List Value} (h : Vals xs us) : ∀ k : Nat,Vals (List.replicate k xs).flatten (List.replicate k us).flatten
 | 0=>.nil
 | k + 1=>by
  rw [List.replicate_succ,List.replicate_succ,List.flatten_cons,List.flatten_cons]
  exact Vals.append h (Vals.rep h k)
theorem oQ {α : Type} : ∀ (l : List α) (i : Nat),(l.eraseIdx i).length ≤ l.length
 | [],_=>Nat.le_refl _
 | _ :: _,0=>Nat.le_succ _
 | _ :: r,i + 1=>Nat.succ_le_succ (oQ r i)
theorem oR (its : List Value) : ∀ (k : Nat) (acc : List Value),
  List.foldl (fun x1 x2=>x1 ++ x2) acc.toArray (List.replicate k its.toArray) = (acc ++ (List.replicate k its).flatten).toArray
 | 0,acc=>by simp
 | k + 1,acc=>by
  have e : acc.toArray ++ its.toArray = (acc ++ its).toArray:=by simp
  have e2 : (acc ++ its) ++ (List.replicate k its).flatten = acc ++ (List.replicate (k + 1) its).flatten:=by
   rw [List.replicate_succ,List.flatten_cons,List.append_assoc]
  rw [← e2,← oR its k (acc ++ its),← e,List.replicate_succ,List.foldl_cons]
section
variable {X : Cx} {pins : List (Addr × Obj)} {σ : St} {H : Hp} {s : Shared} {l b : Addr} {xs ys zs : List V}
theorem Inv.lset {its its' : List Value} {n : Nat} {f : Array Value→Array Value} {t' : Nat} (I : Inv X pins σ H s) (hH : H l = some (.lst xs))
  (e : s.heap.get? l = some { cls:=.type "list",data:=.seq its.toArray n }) (hf : f its.toArray = its'.toArray) (hv : Vals ys its') (hz : ys.length ≤ sizeLine) :
  Inv X pins σ (upd H l (.lst ys)) { s with heap:=s.heap.update l (Obj.mapSeq f),toks:=t' }:=by
 have q:=PySem.IsL.update e f
 rw [hf] at q
 refine I.write (x:=l) (e:=l) (by rw [hH]; exact trivial) (.inl rfl) (fun b' u hb hu=>(Heap.get?_update_other s.heap (Obj.mapSeq f) (Ne.symm hb)).trans hu) ⟨_,q⟩ ?_
 exact ⟨hz,its',_,hv,q⟩
theorem Inv.lnew {its : List Value} {t' : Nat} (I : Inv X pins σ H s) (hv : Vals ys its) (hz : ys.length ≤ sizeLine) :
  Inv X pins σ (upd H s.heap.objs.size (.lst ys)) { s with heap:=s.heap.push { cls:=.type "list",data:=.seq its.toArray },toks:=t' } :=
 I.laid (fun _ _ q=>Heap.get?_push_of_some _ q) (Nat.le_refl _) ⟨hz,its,0,hv,Heap.get?_push_size _ rfl⟩
theorem Inv.fresh (I : Inv X pins σ H s) : H s.heap.objs.size = none:=I.hok.fresh (Nat.le_refl _)
theorem Inv.lstM (I : Inv X pins σ H s) (hH : H l = some (.lst xs)) : xs.length ≤ sizeLine∧∃ (its : List Value) (n : Nat),Vals xs its∧xs.length = its.length∧s.heap.get? l = some { cls:=.type "list",data:=.seq its.toArray n }:=by
 obtain ⟨z,its,n,r,e⟩:=I.hok l _ hH
 exact ⟨z,its,n,r,r.length,e⟩
theorem qL {n : Nat} (h : n ≤ sizeLine) : Builtin.List.listTooLong n = false:=by
 unfold Builtin.List.listTooLong
 exact decide_eq_false (by lia)
end
section
variable {X : Cx}
def aA5 : V→List V→Hp→VK→Prop:=fun x vs H Q=>∃ l xs y,x = .ref l∧vs = [y]∧H l = some (.lst xs)∧xs.length < sizeLine∧Q .non (upd H l (.lst (xs ++ [y])))
theorem hW : MtM X "list.append" aA5:=by
 intro pins s σ H x vs v us Q I rx rv h
 obtain ⟨l,xs,y,rfl,rfl,hH,hz,q⟩:=h
 cases rx
 obtain ⟨u,rfl,ru⟩:=rv.one
 obtain ⟨z,its,n,r,hl,e⟩:=I.lstM hH
 refine call_meets F.slot_list_append ⟨_,e,rfl⟩ F.entry_list_append (F.args_list_append_2 _ _) (PySem.list_append l its.toArray n u (by rw [List.size_toArray]; lia)) ⟨e,?_⟩
 refine ⟨.non,_,I.lset (its':=its ++ [u]) hH e (by simp) (r.append (.cons ru .nil)) ?_,rfl,q⟩
 rw [List.length_append,List.length_singleton]
 lia
def aA6 : V→List V→Hp→VK→Prop:=fun x vs H Q=>∃ l b xs zs,x = .ref l∧vs = [.ref b]∧H l = some (.lst xs)∧H b = some (.lst zs)∧xs.length + zs.length ≤ sizeLine∧Q .non (upd H l (.lst (xs ++ zs)))
theorem xM : MtM X "list.extend" aA6:=by
 intro pins s σ H x vs v us Q I rx rv h
 obtain ⟨l,b,xs,zs,rfl,rfl,hH,hB,hz,q⟩:=h
 cases rx
 obtain ⟨u,rfl,ru⟩:=rv.one
 cases ru
 obtain ⟨z,its,n,r,hl,e⟩:=I.lstM hH
 obtain ⟨z2,its2,n2,r2,hl2,e2⟩:=I.lstM hB
 have hsz : its.toArray.size + its2.toArray.size ≤ sizeLine:=by rw [List.size_toArray,List.size_toArray]; lia
 have hlong : ¬ (!its.toArray.isEmpty && Builtin.List.listTooLong (its.toArray.size + its2.toArray.size)) = true:=by
  rw [qL hsz,Bool.and_false]
  exact Bool.false_ne_true
 refine call_meets F.slot_list_extend ⟨_,e,rfl⟩ F.entry_list_extend (F.args_list_extend_2 _ _)
  (AutoSeq1.list_extend_list_list_0 l its.toArray n b its2.toArray n2 hlong (by rw [List.size_toArray]; lia) (by lia)) ⟨e,e2,?_⟩
 refine ⟨.non,_,I.lset (its':=its ++ its2) hH e (by simp) (r.append r2) ?_,rfl,q⟩
 rw [List.length_append]
 lia
def xN : V→List V→Hp→VK→Prop:=fun x vs H Q=>∃ l xs i k y,x = .ref l∧vs = [.int i]∧H l = some (.lst xs)∧-(2 ^ 63) ≤ i∧i < 2 ^ 63∧seqIndex? i xs.length = some k∧xs[k]? = some y∧Q y (upd H l (.lst (xs.eraseIdx k)))
theorem aAb : MtM X "list.pop" xN:=by
 intro pins s σ H x vs v us Q I rx rv h
 obtain ⟨l,xs,i,k,y,rfl,rfl,hH,h1,h2,hk,hy,q⟩:=h
 cases rx
 obtain ⟨u,rfl,ru⟩:=rv.one
 obtain ⟨t,rfl⟩:=ru
 obtain ⟨z,its,n,r,hl,e⟩:=I.lstM hH
 obtain ⟨w,hw,rw'⟩:=r.get hy
 refine call_meets F.slot_list_pop ⟨_,e,rfl⟩ F.entry_list_pop (F.args_list_pop_2 _ _)
  (MeetsSeq.list_pop_at l its.toArray n i t k w (fitsIndex_both h1 h2) (by rw [List.size_toArray,← hl]; exact hk) (by rw [← Array.getElem?_toList]; exact hw) (by rw [List.size_toArray]; lia)) ⟨e,?_⟩
 refine ⟨y,_,I.lset (its':=its.eraseIdx k) hH e ?_ (r.eraseIdx k) ?_,rw',q⟩
 ·show its.toArray.eraseIdxIfInBounds k = (its.eraseIdx k).toArray
  rw [List.eraseIdxIfInBounds_toArray]
 ·have:=oQ xs k
  lia
def rCat : R2:=fun x y H Q=>∃ l b xs zs,x = .ref l∧y = .ref b∧H l = some (.lst xs)∧H b = some (.lst zs)∧xs.length + zs.length ≤ sizeLine∧∀ p,H p = none→Q (.ref p) (upd H p (.lst (xs ++ zs)))
theorem gH : OpR X (binaryOp .Add) rCat:=by
 intro pins s σ H x y v u Q I rx ry h
 obtain ⟨l,b,xs,zs,rfl,rfl,hH,hB,hz,q⟩:=h
 cases rx
 cases ry
 obtain ⟨z,its,n,r,hl,e⟩:=I.lstM hH
 obtain ⟨z2,its2,n2,r2,hl2,e2⟩:=I.lstM hB
 refine PySem.P.add_list e e2 ?_ (by rw [List.size_toArray,List.size_toArray]; lia)
 have ea : its.toArray ++ its2.toArray = (its ++ its2).toArray:=by simp
 rw [ea]
 exact ⟨.ref _,_,I.lnew (t':=s.toks) (r.append r2) (by rw [List.length_append]; lia),rfl,q _ I.fresh⟩
def rRep : R2:=fun x y H Q=>∃ l k xs,x = .ref l∧y = .int k∧H l = some (.lst xs)∧-(2 ^ 63) ≤ k∧k < 2 ^ 63∧xs.length * k.toNat ≤ sizeLine ∧
 ∀ p,H p = none→Q (.ref p) (upd H p (.lst (List.replicate k.toNat xs).flatten))
theorem aA7 {α : Type} (xs : List α) (k : Nat) : (List.replicate k xs).flatten.length = k * xs.length:=by
 induction k with
 | zero=>simp
 | succ k ih=>rw [List.replicate_succ,List.flatten_cons,List.length_append,ih,Nat.succ_mul,Nat.add_comm]
theorem aB4 : OpR X (binaryOp .Mult) rRep:=by
 intro pins s σ H x y v u Q I rx ry h
 obtain ⟨l,k,xs,rfl,rfl,hH,h1,h2,hz,q⟩:=h
 cases rx
 obtain ⟨t,rfl⟩:=ry
 obtain ⟨z,its,n,r,hl,e⟩:=I.lstM hH
 have hlen : its.toArray.size * k.toNat ≤ sizeLine:=by rw [List.size_toArray,← hl]; exact hz
 have hcap : ¬ its.toArray.size * k.toNat > (2 ^ 63 - 1) / 8:=by
  have : (sizeLine : Nat) ≤ (2 ^ 63 - 1) / 8:=by decide
  lia
 have hfit : ¬ (!Builtin.List.listFitsIndex k) = true:=by
  rw [fitsIndex_both h1 h2]
  exact Bool.false_ne_true
 have hlong : ¬ Builtin.List.listTooLong (its.toArray.size * k.toNat) = true:=by
  rw [qL hlen]
  exact Bool.false_ne_true
 have hnew : List.foldl (fun x1 x2=>x1 ++ x2) #[] (List.replicate (if its.toArray.isEmpty = true then 0 else k.toNat) its.toArray) = (List.replicate k.toNat its).flatten.toArray:=by
  have f0 : ∀ m : Nat,List.foldl (fun x1 x2=>x1 ++ x2) #[] (List.replicate m its.toArray) = (List.replicate m its).flatten.toArray:=fun m=>by
   have:=oR its m []
   rw [List.nil_append] at this
   exact this
  rw [f0]
  cases its with
  | nil=>simp
  | cons a r'=>rw [if_neg (by simp)]
 refine wpAny_binaryOp_repeat_ref (T := "list") (U := "int") (by decide) ⟨_,e,rfl⟩ (fun s'=>typeIs_int s' k t) noFill_list_mul F.fills_int_mul F.slot_int_rmul repeat_list F.slot_int_index.lookup
  (call_meets F.slot_int_rmul (typeIs_int s k t) F.entry_int_rmul (F.args_int_rmul_2 _ _) (int___rmul___int_list k t l its.toArray n)
   ⟨e,rfl,⟨_,e,rfl⟩,call_meets F.slot_list_mul ⟨_,e,rfl⟩ F.entry_list_mul (F.args_list_mul_2 _ _) (AutoListH.list___mul___list_int_3 l its.toArray n k t hfit hcap hlong) ⟨e,?_⟩⟩)
 rw [hnew]
 exact ⟨.ref _,_,I.lnew (t':=s.toks) (r.rep k.toNat) (by rw [aA7,Nat.mul_comm]; exact hz),rfl,q _ I.fresh⟩
end
section
variable {prog : Program} {w : World} {A : Around} {E : Value→Shared→Prop} {s : Shared}
end
section
variable {X : Cx}
end
end L2
namespace Att
open PySem PySem.W PySem.Calls PyProof.Rows
theorem lX {P : Params} {h : Heap} : ∀ (ns : List Int) (vs : List Value),WellAll P h vs (ns.map WData.int)→IntsAre vs ns:=by
 intro ns
 induction ns with
 | nil =>
  intro vs w
  rw [List.map_nil] at w
  cases w
  exact .nil
 | cons n ns ih =>
  intro vs w
  rw [List.map_cons] at w
  cases w with
  | cons a b =>
   cases a
   exact .cons _ _ (ih _ b)
theorem xO {l : OpenLaw} {n : Nat} (hn : l.most = some n) {P : Params} {h : Heap} {args : List WData} {vals : List Value}
  (hpre : l.row.toRowW.claim.pre args = true) (hwl : WellAll P h vals args) :
  ∃ a vs ns,vals = [Value.ref a]∧args = [WData.list (ns.map WData.int)]∧h.get? a = some { cls:=.type "list",data:=.seq vs.toArray }∧IntsAre vs ns∧ns.length ≤ n:=by
 have hsh : WShape.hasAll [] args [.list .int] = true:=(pre_splitW hpre).1
 have hc : l.pre.holds [] { args:=args } = true:=(pre_splitW hpre).2
 obtain ⟨d,r,rfl,h1,h2⟩:=hasAllW_cons hsh
 obtain rfl:=hasAllW_nil h2
 obtain ⟨xs,rfl,h3⟩:=hasW_list h1
 obtain ⟨ns,rfl⟩:=items_int h3
 have hlen : ns.length ≤ n:=by
  unfold OpenLaw.pre at hc
  have h4 : (WTm.not (.lt (.lit (.int (n : Int))) (.len (.arg 0)))).holds [] { args:=[.list (ns.map .int)] } = true:=by
   have h4:=(holds_andW hc).1
   rw [hn] at h4
   exact h4
  have h5:=condW_of h4 (w_not (w_lt w_lit (w_len_list (w_arg rfl))))
  rw [List.length_map] at h5
  refine Nat.le_of_not_lt fun q=>?_
  have q' : (n : Int) < ((ns.length : Nat) : Int):=by lia
  first
   | (rw [decide_eq_true q'] at h5; exact absurd h5 (by decide))
   | (simp at h5; lia)
 cases hwl with
 | cons w1 w2 =>
  cases w2
  cases w1 with
  | list ho hall=>exact ⟨_,_,ns,rfl,rfl,ho,lX ns _ hall,hlen⟩
theorem xP (l : OpenLaw) (args : List WData) : l.row.toRowW.claim.post args (.bool true) args = true :=
 postW_of (r:=l.row.toRowW) (X:=(true == true))
  (show WShape.has [] (.bool true) .bool = true by first | rfl | decide | simp [WShape.has,WShape.arms,WShape.armsAll])
  (show (WTm.eq .res (.lit (.bool true))).value [] { args:=args,res:=some (.bool true),after:=args } = some (.bool (true == true)) from w_eq_bool (w_res rfl) w_lit) rfl
theorem attach_call {l : OpenLaw} {n : Nat} {q : Program} {loose : List Str} {XP : (Str→Option Value)→Heap→Prop} {YP : World→Heap→Prop} {d : DefRec}
  (hn : l.most = some n) (hdf : d.params.defaults = [])
  (call : ∀ (w : World) (s₀ s₁ : Shared) (mg mb : Str→Option Value) (fa : Addr) (o : Obj) (pm cd doc : Value) (a : Addr) (vs : List Value) (ns : List Int),
   Ground q loose [] XP w s₀ mg mb s₁.heap→YP w s₁.heap →
   s₁.heap.get? fa = some o→o.data = .func (docDef d.name d.params d.body d.scope pm cd doc)→s₁.heap.CodeRec cd d.name→mg d.name = some (.ref fa) →
   s₁.heap.get? a = some { cls:=.type "list",data:=.seq vs.toArray }→IntsAre vs ns→ns.length ≤ n→s₁.gens = #[] →
   codeAny (model l.prog w) callerA (.call (.ref fa) ⟨[.ref a],[]⟩) (fun r s'=>r = .ok (.ret (.bool true))∧OldK s₁.heap s'.heap∧s'.os = s₁.os∧AllBare s'.gens) s₁) :
  WalkO q loose XP YP l.row.toRowW d [] (fun f vs=>PySem.call f vs):=by
 intro w s₀ s₁ mg mb G Y fa o pm cd doc dV kV ho hd hcd hD hmg hg args vals as hpre hlay hrd hwl hlo
 obtain rfl : dV = .none:=Dflts.none hD hdf
 obtain rfl : kV = .none:=Dflts.noKw hD
 obtain ⟨a,vs,ns,rfl,rfl,hobj,hints,hlen⟩:=xO hn hpre hwl
 refine enter_call (codeAny_mono (call w s₀ s₁ mg mb fa o pm cd doc a vs ns G Y ho (fd_plain hd) hcd hmg hobj hints hlen hg) fun r s' hq=>?_)
 obtain ⟨rfl,h2,h3,h4⟩:=hq
 exact ⟨.inl ⟨.bool true,.bool true,[],rfl,fun _=>rfl,.bool true,xP l _,fun _=>⟨List.Pairwise.nil,fun _ hm=>(nomatch hm)⟩⟩,h2,h3,h4⟩
section
variable {prog : Program} {w : World} {A : Around} {E : Value→Shared→Prop} {s : Shared} {K : Frag}
end
end Att
namespace L2
open PySem PySem.Spec PyProof.Rows
theorem oT : ∀ {vs : List Value} {ns : List Int},IntsAre vs ns→Vals (ns.map V.int) vs
 | _,_,.nil=>.nil
 | _,_,.cons n t h=>.cons ⟨t,rfl⟩ (oT h)
end L2
namespace L2
open PySem PySem.Spec PyProof.Rows
end L2
namespace L2
open PySem PySem.Spec PyProof.Rows
def fY (s : Stmt) (j : Nat) : Stmt:=match s with
 | .ClassDef _ _ _ body _ _ _ _ _ _ _=>body.getD j (.Pass ⟨0,0,0,0⟩)
 | _=>.Pass ⟨0,0,0,0⟩
def cL (s : Stmt) : Arguments:=match s with
 | .FunctionDef _ a _ _ _ _ _ _ _ _=>a
 | _=>{ posonlyargs:=[],args:=[],vararg:=none,kwonlyargs:=[],kw_defaults:=[],kwarg:=none,defaults:=[] }
def cB (s : Stmt) : List Stmt:=match s with
 | .FunctionDef _ _ b _ _ _ _ _ _ _=>b
 | _=>[]
def aH (s : Stmt) : Scope:=match s with
 | .FunctionDef _ _ _ _ _ _ sc _ _ _=>sc
 | _=>{ kind:=.function,names:=[],isGenerator:=false,isCoroutine:=false }
abbrev CX0 : CXT:=fun _ _ _ _ _ _=>False
abbrev E0 : XK:=fun _ _ _=>False
theorem aK {X : Cx} : fJ CX0 X E0:=fun _ _ _ _ _ _ _ h=>h.elim
structure Fun (K : PySem.W.Frag) (x qual : Str) (st : Stmt) (f : Addr) (fd : FuncData) : Prop where
 ex : ∃ (oc : Value) (od : Option Addr) (kV doc pm : Value) (an : Option Addr) (cdv ct : Value) (osl : Array (Option Value)),
  fd = PySem.W.fnOf x qual (cL st) (cB st) (aH st) .none kV doc pm an cdv ct∧K.lookup f = some ⟨oc,od,.func fd,osl⟩∧PySem.W.codeIn K cdv qual = true
 kp : PySem.W.keepIn K (.ref f) = true
section
variable {P : Program} {w : World} {K : PySem.W.Frag} {mg : Str→Option Value} {base : Heap}
theorem Fun.ok {x qual : Str} {st : Stmt} {f : Addr} {fd : FuncData} {N ps : List Str} {k : Nat} {sp : Sp} (F : Fun K x qual st f fd) (S : aS N ps (aH st)) (len : ∀ vs H Q E,sp vs H Q E→vs.length = ps.length)
  (hbody : ∀ (cdv : Value) (A : Around) (outer : List Env) (s : Shared) (H : Hp) (vs : List V) (Q : VK) (E : XK),Room k (A.deeper (envOfC qual (aH st) s.heap.objs.size f cdv))→sp vs H Q E →
   ∃ t,PSs (cxOf CX0 P w K mg base N qual (aH st) f cdv A outer s H E).nox (cB st) t∧t { nx:=fun _ H'=>Q .non H',rt:=Q } (start N vs) H) : FnOk P w K mg base CX0 (k + 1) f fd ps sp:=by
 obtain ⟨oc,od,kV,doc,pm,an,cdv,ct,osl,rfl,lk,hcd⟩:=F.ex
 refine aAL lk hcd S len fun A outer s H vs Q E hr hsp=>?_
 obtain ⟨t,h,q⟩:=hbody cdv A outer s H vs Q E hr hsp
 exact ⟨t,h.nox,q⟩
theorem Fun.binds {x qual : Str} {st : Stmt} {f : Addr} {fd : FuncData} {ps : List Str} (F : Fun K x qual st f fd)
  (h : ∀ (kV doc pm : Value) (an : Option Addr) (cdv ct : Value) (us : List Value),us.length = ps.length→bindArgs (PySem.W.fnOf x qual (cL st) (cB st) (aH st) .none kV doc pm an cdv ct) ⟨us,[]⟩ = pure (ps.zip us)) : eA K fd ps []:=by
 obtain ⟨oc,od,kV,doc,pm,an,cdv,ct,osl,rfl,lk,hcd⟩:=F.ex
 exact .all (h kV doc pm an cdv ct)
theorem lY {x qual : Str} {st : Stmt} {f : Addr} {oc : Value} {od an : Option Addr} {osl : Array (Option Value)} {kV doc pm cdv ct : Value} (l : K.lookup f = some ⟨oc,od,.func (PySem.W.fnOf x qual (cL st) (cB st) (aH st) .none kV doc pm an cdv ct),osl⟩)
  (c : PySem.W.codeIn K cdv qual = true) (k : PySem.W.keepIn K (.ref f) = true) : Fun K x qual st f (PySem.W.fnOf x qual (cL st) (cB st) (aH st) .none kV doc pm an cdv ct):=⟨⟨oc,od,kV,doc,pm,an,cdv,ct,osl,rfl,l,c⟩,k⟩
end
section
variable {X : Cx}
theorem pv (i : Nat) {x : Str} {pos : Pos} (hN : X.N[i]? = some x:=by rfl) (hv : Vis X.env.scope x:=by first | exact Or.inl rfl | exact Or.inr (Or.inl rfl) | exact Or.inr (Or.inr rfl)) (hd : (x == ("__debug__" : Str)) = false:=by decide)
  (hcd : (x == ("__classdict__" : Str)) = false:=by decide) : PE X (.Name x pos) (tVar i):=aBU hN hv hd hcd
end
theorem iteF {A B : Prop} (h : B) : if false = true then A else B:=by
 rw [if_neg Bool.false_ne_true]
 exact h
theorem iteT {A B : Prop} (h : A) : if true = true then A else B:=by
 rw [if_pos rfl]
 exact h
theorem ite2 {c A B : Prop} [Decidable c] (h1 : c→A) (h2 : ¬ c→B) : if c then A else B:=by
 by_cases h : c
 ·rw [if_pos h]
  exact h1 h
 ·rw [if_neg h]
  exact h2 h
def Same (H H' : Hp) : Prop:=∀ b o,H b = some o→H' b = some o
theorem Same.refl (H : Hp) : Same H H:=fun _ _ h=>h
theorem Same.trans {H H1 H2 : Hp} (a : Same H H1) (b : Same H1 H2) : Same H H2:=fun c o h=>b c o (a c o h)
theorem Same.free {H H' : Hp} (e : Same H H') {l : Addr} (h : H' l = Option.none) : H l = Option.none:=by
 cases q : H l with
 | none=>rfl
 | some o =>
  rw [e l o q] at h
  cases h
end L2
namespace L2
open PySem PySem.Spec PyProof.Rows
def cSt (src : List (Option Nat)) (σ : St) : St:=src.map fun o=>match o with | some j=>σ.getD j none | none=>none
theorem aA8 {src : List (Option Nat)} {σ : St} {i : Nat} {v : V} (h : (cSt src σ)[i]? = some (some v)) : ∃ j,src[i]? = some (some j)∧σ[j]? = some (some v):=by
 unfold cSt at h
 rw [List.getElem?_map] at h
 cases e : src[i]? with
 | none=>rw [e] at h; cases h
 | some o =>
  rw [e] at h
  cases o with
  | none=>cases h
  | some j =>
   refine ⟨j,rfl,?_⟩
   have h' : σ.getD j none = some v:=Option.some.inj h
   rw [List.getD_eq_getElem?_getD] at h'
   cases e2 : σ[j]? with
   | none=>rw [e2] at h'; cases h'
   | some o=>rw [e2] at h'; rw [show o = some v from h']
structure eV (NB : List Str) (src : List (Option Nat)) (scope : Scope) (X : Cx) : Prop where
 kind : scope.kind = .function
 nd : NB.Nodup
 len : src.length = NB.length
 cells : ∀ y∈scope.names,y.2 = .cell→scope.names.lookup y.1 = some .cell
 names : ∀ y∈scope.names,y.2 = .local→scope.names.lookup y.1 = some .local
 free : ∀ y∈scope.names,y.2 = .free→X.env.scope.names.lookup y.1 = some .cell∨X.env.scope.names.lookup y.1 = some .free
 src : ∀ (i : Nat) (x : Str) (j : Nat),NB[i]? = some x→src[i]? = some (some j)→X.N[j]? = some x∧scope.names.lookup x = some .free
def nG (scope : Scope) (x : Str) : Bool:=match scope.names.lookup x with
 | some .cell=>true
 | _=>false
theorem sO {scope : Scope} {x : Str} : nG scope x = true↔scope.names.lookup x = some .cell:=by
 unfold nG
 split
 ·rename_i h; exact ⟨fun _=>h,fun _=>rfl⟩
 ·rename_i h; exact ⟨fun z=>(by cases z),fun z=>absurd z h⟩
def blk (X : Cx) (NB : List Str) (scope : Scope) (cl : List (Str × Addr)) (C : Addr) (s₃ : Shared) (H₃ : Hp) (fp : List Addr) : Cx :=
 { X with N:=NB,s₀:=s₃,H₀:=H₃,env:=compEnvC scope cl C X.env,outer:=X.stack,stack:=X.stack,ex:=fp,fn:=nG scope,pn:=[],xe:=fun _ _=>False }
theorem iW {env : Env} : ∀ (names : List (Str × NameKind)) (acc : List (Str × Addr)),(∀ y∈names,y.2 = NameKind.free→∃ c,env.cells.lookup y.1 = some c)→(∀ x c,acc.lookup x = some c→env.cells.lookup x = some c) →
  ∃ cl,(forIn names acc fun x r=>(if (x.2 == NameKind.free) = true then (do let a ← cellOf env x.1; pure (ForInStep.yield ((x.1,a) :: r))) else pure (ForInStep.yield r) : Sem (ForInStep (List (Str × Addr))))) = (pure cl : Sem (List (Str × Addr))) ∧
   (∀ x c,cl.lookup x = some c→env.cells.lookup x = some c)∧(∀ x c,acc.lookup x = some c→∃ c',cl.lookup x = some c')∧∀ x,(x,NameKind.free)∈names→∃ c,cl.lookup x = some c
 | [],acc,_,ha=>⟨acc,by rw [List.forIn_nil],ha,fun x c h=>⟨c,h⟩,fun x h=>nomatch h⟩
 | (n,k) :: r,acc,hf,ha=>by
  by_cases hk : k = NameKind.free
  ·subst hk
   obtain ⟨c,hc⟩:=hf (n,NameKind.free) List.mem_cons_self rfl
   have ha' : ∀ x c',((n,c) :: acc).lookup x = some c'→env.cells.lookup x = some c':=fun x c' h=>by
    rw [List.lookup_cons] at h
    cases hx : x == n with
    | true =>
     rw [hx] at h
     cases h
     have : x = n:=by simpa using hx
     rw [this]; exact hc
    | false=>rw [hx] at h; exact ha x c' h
   obtain ⟨cl,e1,e2,e3,e4⟩:=iW r ((n,c) :: acc) (fun y hy=>hf y (List.mem_cons_of_mem _ hy)) ha'
   refine ⟨cl,?_,e2,fun x c' h=>?_,fun x h=>?_⟩
   ·rw [List.forIn_cons]
    have ec : cellOf env n = pure c:=by unfold cellOf; rw [hc]
    have e0 : (if ((n,NameKind.free).2 == NameKind.free) = true then (do let a ← cellOf env (n,NameKind.free).1; pure (ForInStep.yield (((n,NameKind.free).1,a) :: acc))) else pure (ForInStep.yield acc) : Sem (ForInStep (List (Str × Addr)))) = pure (ForInStep.yield ((n,c) :: acc)):=by
     rw [if_pos (show (NameKind.free == NameKind.free) = true by decide)]
     show cellOf env n >>= _ = _
     rw [ec]; rfl
    rw [e0]
    exact e1
   ·cases hx : x == n with
    | true=>exact e3 x c (by rw [List.lookup_cons,hx])
    | false=>exact e3 x c' (by rw [List.lookup_cons,hx]; exact h)
   ·rcases List.mem_cons.mp h with h | h
    ·cases h
     exact e3 n c (by rw [List.lookup_cons]; simp)
    ·exact e4 x h
  ·obtain ⟨cl,e1,e2,e3,e4⟩:=iW r acc (fun y hy=>hf y (List.mem_cons_of_mem _ hy)) ha
   refine ⟨cl,?_,e2,e3,fun x h=>?_⟩
   ·rw [List.forIn_cons]
    have hb : (k == NameKind.free) = false:=by simpa using hk
    have e0 : (if ((n,k).2 == NameKind.free) = true then (do let a ← cellOf env (n,k).1; pure (ForInStep.yield (((n,k).1,a) :: acc))) else pure (ForInStep.yield acc) : Sem (ForInStep (List (Str × Addr)))) = pure (ForInStep.yield acc):=by
     rw [if_neg (by show ¬ (k == NameKind.free) = true; rw [hb]; decide)]
    rw [e0]
    exact e1
   ·rcases List.mem_cons.mp h with h | h
    ·cases h; exact absurd rfl hk
    ·exact e4 x h
theorem iX {X : Cx} (ok : X.Ok) {NB : List Str} {src : List (Option Nat)} {scope : Scope} (S : eV NB src scope X) :
  ∃ cl,closureFor scope X.env = pure cl∧(∀ x c,cl.lookup x = some c→X.env.cells.lookup x = some c)∧∀ x,(x,NameKind.free)∈scope.names→∃ c,cl.lookup x = some c:=by
 obtain ⟨cl,e1,e2,_,e4⟩:=iW (env:=X.env) scope.names [] (fun y hy hk=>ok.has y.1 (S.free y hy hk)) (fun x c h=>nomatch h)
 refine ⟨cl,?_,e2,e4⟩
 unfold closureFor
 simp only [bind_pure]
 exact e1
theorem qM {scope : Scope} {env : Env} {x : Str} (h : scope.names.lookup x = some .free) : (relabel scope env).names.lookup x = some .cell∨(relabel scope env).names.lookup x = some .free:=by
 have go : ∀ names : List (Str × NameKind),names.lookup x = some .free →
   (names.map fun (n,k)=>if (k == NameKind.free && env.scope.kind == .function && env.kindOf n == some .cell) then (n,NameKind.cell) else (n,k)).lookup x = some .cell ∨
   (names.map fun (n,k)=>if (k == NameKind.free && env.scope.kind == .function && env.kindOf n == some .cell) then (n,NameKind.cell) else (n,k)).lookup x = some .free:=by
  intro names
  induction names with
  | nil=>intro h; simp at h
  | cons y r ih =>
   intro h
   obtain ⟨n,k⟩:=y
   rw [List.lookup_cons] at h
   rw [List.map_cons]
   cases hx : x == n with
   | true =>
    rw [hx] at h
    cases h
    by_cases hc : (NameKind.free == NameKind.free && env.scope.kind == .function && env.kindOf n == some .cell) = true
    ·left; show List.lookup x ((if _ then _ else _) :: _) = _; rw [if_pos hc,List.lookup_cons,hx]
    ·right; show List.lookup x ((if _ then _ else _) :: _) = _; rw [if_neg hc,List.lookup_cons,hx]
   | false =>
    rw [hx] at h
    by_cases hc : (k == NameKind.free && env.scope.kind == .function && env.kindOf n == some .cell) = true
    ·show List.lookup x ((if _ then _ else _) :: _) = _∨List.lookup x ((if _ then _ else _) :: _) = _
     rw [if_pos hc,List.lookup_cons,hx]; exact ih h
    ·show List.lookup x ((if _ then _ else _) :: _) = _∨List.lookup x ((if _ then _ else _) :: _) = _
     rw [if_neg hc,List.lookup_cons,hx]; exact ih h
 exact go scope.names h
theorem jN {scope : Scope} {env : Env} {x : Str} {k : NameKind} (h : (relabel scope env).names.lookup x = some k) (hk : k = .cell∨k = .free) : (x,NameKind.free)∈scope.names∨(x,NameKind.cell)∈scope.names:=by
 have m:=PySem.mem_of_lookup h
 obtain ⟨⟨n,k'⟩,hm,e⟩:=List.mem_map.mp m
 by_cases q : (k' == NameKind.free && env.scope.kind == .function && env.kindOf n == some .cell) = true
 ·have e' : (n,NameKind.cell) = (x,k):=by simpa [q] using e
  have k1 : k' = NameKind.free:=by
   simp only [Bool.and_eq_true,beq_iff_eq] at q
   exact q.1.1
  cases e'
  left
  rw [← k1]; exact hm
 ·have e' : (n,k') = (x,k):=by simpa [q] using e
  cases e'
  rcases hk with z | z
  ·subst z; exact .inr hm
  ·subst z; exact .inl hm
theorem jO : ∀ (names : List (Str × NameKind)) (h : Heap) (acc : List (Str × Addr)) (x : Str) (c : Addr),(cellsFrom h.objs.size names acc).lookup x = some c→acc.lookup x = some c∨(h.objs.size ≤ c∧(pushCells h names).IsCell c none)
 | [],_,_,_,_,e=>.inl e
 | (name,kind) :: r,h,acc,x,c,e=>by
  unfold cellsFrom at e
  unfold pushCells
  split at e
  ·rename_i hk
   rw [if_pos hk]
   have hsz : (h.push { cls:=.type "cell",data:=.cell none }).objs.size = h.objs.size + 1:=Heap.size_push ..
   rw [← hsz] at e
   rcases jO r _ _ x c e with z | ⟨z1,z2⟩
   ·rw [List.lookup_cons] at z
    cases hx : x == name with
    | true =>
     rw [hx] at z
     cases z
     exact .inr ⟨Nat.le_refl _,_,pushCells_keeps r _ _ _ (Heap.get?_push_size _ rfl),rfl⟩
    | false=>rw [hx] at z; exact .inl z
   ·exact .inr ⟨by lia,z2⟩
  ·rename_i hk
   rw [if_neg hk]
   exact jO r h acc x c e
theorem oU : ∀ (names : List (Str × NameKind)) (n : Nat) (acc : List (Str × Addr)) (x : Str),(x,NameKind.cell)∈names→∃ c,n ≤ c∧(cellsFrom n names acc).lookup x = some c:=by
 have up : ∀ (names : List (Str × NameKind)) (n m : Nat) (acc : List (Str × Addr)) (x : Str) (c : Addr),acc.lookup x = some c→m ≤ c→m ≤ n→∃ c',m ≤ c'∧(cellsFrom n names acc).lookup x = some c':=by
  intro names
  induction names with
  | nil=>intro n m acc x c e h _; exact ⟨c,h,e⟩
  | cons y r ih =>
   intro n m acc x c e h hm
   obtain ⟨name,kind⟩:=y
   unfold cellsFrom
   split
   ·cases hx : x == name with
    | true=>exact ih (n + 1) m _ x n (by rw [List.lookup_cons,hx]) hm (by lia)
    | false=>exact ih (n + 1) m _ x c (by rw [List.lookup_cons,hx]; exact e) h (by lia)
   ·exact ih n m acc x c e h hm
 intro names
 induction names with
 | nil=>intro n acc x h; cases h
 | cons y r ih =>
  intro n acc x h
  obtain ⟨name,kind⟩:=y
  unfold cellsFrom
  rcases List.mem_cons.mp h with z | z
  ·cases z
   rw [if_pos (by decide)]
   exact up r (n + 1) n _ x n (by rw [List.lookup_cons]; simp) (Nat.le_refl _) (by lia)
  ·split
   ·obtain ⟨c,h1,h2⟩:=ih (n + 1) ((name,n) :: acc) x z
    exact ⟨c,by lia,h2⟩
   ·exact ih n acc x z
theorem hZ : ∀ (names : List (Str × NameKind)) (n : Nat) (acc : List (Str × Addr)) (x : Str) (c : Addr),acc.lookup x = some c→(x,NameKind.cell) ∉ names→(cellsFrom n names acc).lookup x = some c
 | [],_,_,_,_,e,_=>e
 | (name,kind) :: r,n,acc,x,c,e,h=>by
  have hr : (x,NameKind.cell) ∉ r:=fun z=>h (List.mem_cons_of_mem _ z)
  unfold cellsFrom
  split
  ·rename_i hk
   have hne : (x == name) = false:=by
    cases hx : x == name with
    | false=>rfl
    | true =>
     have e1 : x = name:=by simpa using hx
     have e2 : kind = .cell:=by simpa using hk
     exact absurd (by rw [e1,e2]; exact List.mem_cons_self) h
   exact hZ r (n + 1) _ x c (by rw [List.lookup_cons,hne]; exact e) hr
  ·exact hZ r n acc x c e hr
theorem jP : ∀ (names : List (Str × NameKind)) (n : Nat) (acc : List (Str × Addr)),(∀ x y c,acc.lookup x = some c→acc.lookup y = some c→x = y)→(∀ x c,acc.lookup x = some c→c < n)→∀ x y c,(cellsFrom n names acc).lookup x = some c→(cellsFrom n names acc).lookup y = some c→x = y
 | [],_,_,hi,_=>hi
 | (name,kind) :: r,n,acc,hi,hl=>by
  unfold cellsFrom
  split
  ·refine jP r (n + 1) _ (fun x y c h1 h2=>?_) (fun x c h=>?_)
   ·rw [List.lookup_cons] at h1 h2
    cases hx : x == name <;> cases hy : y == name <;> rw [hx] at h1 <;> rw [hy] at h2
    ·exact hi x y c h1 h2
    ·cases h2; exact absurd (hl x _ h1) (Nat.lt_irrefl _)
    ·cases h1; exact absurd (hl y _ h2) (Nat.lt_irrefl _)
    ·have e1 : x = name:=by simpa using hx
     have e2 : y = name:=by simpa using hy
     rw [e1,e2]
   ·rw [List.lookup_cons] at h
    cases hx : x == name <;> rw [hx] at h
    ·exact Nat.lt_succ_of_lt (hl x c h)
    ·cases h; exact Nat.lt_succ_self _
  ·exact jP r n acc hi hl
section
variable {X : Cx} {pins : List (Addr × Obj)} {σ : St} {H : Hp} {s : Shared} {NB : List Str} {src : List (Option Nat)} {scope : Scope} {cl : List (Str × Addr)} {fp : List Addr} {h₁ : Heap} {t₁ : Nat}
theorem aA9 (I : Inv X pins σ H s) (S : eV NB src scope X) (c1 : ∀ x c,cl.lookup x = some c→X.env.cells.lookup x = some c) (c2 : ∀ x,(x,NameKind.free)∈scope.names→∃ c,cl.lookup x = some c)
  (hf : ∀ b∈fp,FpOk X pins H b) (hfo : ∀ b∈fp,b < s.heap.objs.size) {m : Str→Option Value} (hn : h₁.Ns s.heap.objs.size m) (hk : ∀ b o,s.heap.get? b = some o→h₁.get? b = some o)
  (hnew : ∀ x c,(cellsFrom (s.heap.objs.size + 1) scope.names cl).lookup x = some c→cl.lookup x = some c∨(s.heap.objs.size < c∧h₁.IsCell c none)) :
  Inv (blk X NB scope (cellsFrom (s.heap.objs.size + 1) scope.names cl) s.heap.objs.size s H fp) [] (cSt src σ) H { s with heap:=h₁,toks:=t₁ }:=by
 have stk : ∀ b∈frs X.stack,b∈X.env.locals :: X.fs:=I.stkSub
 have cellOk : ∀ x c,cl.lookup x = some c→∃ v,s.heap.IsCell c v:=fun x c e=>I.cell x c (c1 x c e)
 have clLt : ∀ x c,cl.lookup x = some c→c < s.heap.objs.size:=fun x c e=>by obtain ⟨v,o,ho,_⟩:=cellOk x c e; exact Heap.lt_size ho
 refine ⟨⟨I.ok.mod,S.kind,I.ok.glob,I.ok.blt,Nat.le_refl _,jP _ _ _ (fun x y c e1 e2=>I.ok.inj x y c (c1 x c e1) (c1 y c e2)) (fun x c e=>Nat.lt_succ_of_lt (clLt x c e)),fun x hx=>?_,fun x c z e=>?_,I.ok.hd,I.ok.frames,.inl rfl,fun b hb=>⟨?_,fun x c e=>?_⟩,I.bs,Nat.le_trans I.ok.bsz I.sz,fun b o e hb=>?_,fun b hb=>?_,I.stack,I.stkFree⟩,
  rfl,I.bare,Un.kept hk,⟨m,hn,fun i x v e1 e2 e3=>?_⟩,fun x c e=>?_,I.hok.fresh (Nat.le_refl _),fun x c e=>?_,fun p hp=>absurd (show p∈([] : List (Addr × Obj)) from hp) (by simp),I.hok.kept hk,?_⟩
 ·have both : (x,NameKind.free)∈scope.names∨(x,NameKind.cell)∈scope.names:=by
   rcases hx with hx | hx
   ·exact jN hx (.inl rfl)
   ·exact jN hx (.inr rfl)
  by_cases hc : (x,NameKind.cell)∈scope.names
  ·obtain ⟨c,_,e⟩:=oU scope.names (s.heap.objs.size + 1) cl x hc
   exact ⟨c,e⟩
  ·rcases both with z | z
   ·obtain ⟨c,e⟩:=c2 x z
    exact ⟨c,hZ _ _ _ _ _ e hc⟩
   ·exact absurd z hc
 ·have hm:=PySem.mem_of_lookup (sO.mp z)
  obtain ⟨c',h1,h2⟩:=oU scope.names (s.heap.objs.size + 1) cl x hm
  have e' : (cellsFrom (s.heap.objs.size + 1) scope.names cl).lookup x = some c:=e
  rw [h2] at e'
  cases e'
  exact Nat.le_of_succ_le h1
 ·exact Nat.ne_of_lt (hfo b hb)
 ·rcases hnew x c e with z | ⟨z,_⟩
  ·exact (hf b hb).2.2.2.2.1 x c (c1 x c z)
  ·exact Nat.ne_of_gt (Nat.lt_trans (hfo b hb) z)
 ·rcases (hf b hb).2.2.2.1 with z | z
  ·exact I.ok.noex b o e z
  ·exact absurd (Nat.lt_of_lt_of_le (Heap.lt_size e) (Nat.le_trans I.ok.bsz z)) (Nat.lt_irrefl _)
 ·intro z
  rcases List.mem_cons.mp (stk b z) with e | e
  ·exact (hf b hb).2.1 e
  ·exact (hf b hb).2.2.1 e
 ·obtain ⟨j,hj,hv⟩:=aA8 e2
  obtain ⟨hN,hF⟩:=S.src i x j e1 hj
  obtain ⟨m0,hn0,hl0⟩:=I.loc
  have hmem:=PySem.mem_of_lookup hF
  have kx:=S.free _ hmem rfl
  have vis : Vis X.env.scope x:=by
   rcases kx with z | z
   ·exact .inr (.inl z)
   ·exact .inr (.inr z)
  obtain ⟨u,r,l⟩:=hl0 j x v hN hv vis
  refine ⟨u,r,.inr ⟨qM hF,?_⟩⟩
  obtain ⟨c,hc⟩:=c2 x hmem
  have hnc : (x,NameKind.cell) ∉ scope.names:=fun z=>by
   have:=S.cells _ z rfl
   rw [hF] at this; cases this
  refine ⟨c,hZ _ _ _ _ _ hc hnc,?_⟩
  rcases l with ⟨hk',_⟩ | ⟨_,c',e,z⟩
  ·have hk'' : X.env.scope.names.lookup x = some .local:=hk'
   rcases kx with z | z <;> (rw [z] at hk''; cases hk'')
  ·rw [c1 x c hc] at e
   cases e
   obtain ⟨o,ho,hd⟩:=z
   exact ⟨o,hk _ _ ho,hd⟩
 ·rcases hnew x c e with z | ⟨_,z⟩
  ·obtain ⟨v,o,ho,hd⟩:=cellOk x c z
   exact ⟨v,o,hk _ _ ho,hd⟩
  ·exact ⟨none,z⟩
 ·rcases hnew x c e with z | ⟨z,_⟩
  ·exact I.freeC x c (c1 x c z)
  ·exact I.hok.fresh (Nat.le_of_lt z)
 ·show (cSt src σ).length = NB.length
  unfold cSt
  rw [List.length_map]
  exact S.len
theorem Inv.unblk {C : Addr} {σB : St} {H' : Hp} {s' : Shared} (I : Inv X pins σ H s) (J : Inv (blk X NB scope cl C s H fp) [] σB H' s') (hf : ∀ b∈fp,FpOk X pins H b) : Inv X pins σ H' s':=by
 refine I.call' (ch:=fp) J.os J.base J.hok J.bare fun b hb=>?_
 obtain ⟨_,f1,_,f3,f4,f5⟩:=hf b hb
 exact ⟨f3,f1,f4,f5⟩
end
def PTs (X : Cx) (ifs : List Expr) (t : TT) : Prop :=
 ∀ (pins : List (Addr × Obj)) (s : Shared) (σ : St) (H : Hp) (Q : Bool→Hp→Prop),Inv X pins σ H s→t σ H Q →
  wpAny (model X.prog X.w) X.A (forIn ifs true fun c r=>if r = true then do let ok ← isTrue c X.env (eval c X.env); pure (ForInStep.yield ok) else pure (ForInStep.yield r)) (TP X pins σ Q) X.xe s
def tYes : TT:=fun _ H Q=>Q true H
theorem cE {X : Cx} : PTs X [] tYes:=fun _ _ _ H _ I h=>wpAny_tests_nil ⟨H,I,h⟩
theorem bS {X : Cx} {c : Expr} {t : TT} (h : PT X c t) : PTs X [c] t:=fun pins s σ H Q I q=>wpAny_tests_one (h pins s σ H Q I q)
def eB (J : It) (g : TG) (tt : TT) (te : TE) (D : Addr) (fin : Hp→Prop) (σB : St) (H1 : Hp) : Prop :=
 ∃ W : Nat→Nat→St→Hp→Prop,(∃ m,W 0 m σB H1)∧∀ i m σ H,W i m σ H→(J.stop i H∧fin H)∨(J.go i H∧∀ x H',J.yld i H x H'→g x σ H' fun σ2 H2=>tt σ2 H2 fun b H3 =>
  if b = true then te σ2 H3 fun v H4=>∃ ys,H4 D = some (.lst ys)∧ys.length < sizeLine∧∃ m',m' < m∧W (i + 1) m' σ2 (upd H4 D (.lst (ys ++ [v]))) else ∃ m',m' < m∧W (i + 1) m' σ2 H3)
theorem xQ {B : Cx} {elt tg iter : Expr} {ifs : List Expr} {scope : Scope} {pos : Pos} {J : It} {g : TG} {tt : TT} {te : TE} {D it : Addr} {fp : List Addr} {tn : Nat→Heap→Prop} {fin : Hp→Prop} {R : Result→Shared→Prop} {s : Shared} {σB : St} {H1 : Hp}
  (hx : B.xe = fun _ _=>False) (hc : B.calm = true) (T : Turn B.prog B.w B.K tg J fp it tn) (hg : PG B tg g) (ht : PTs B ifs tt) (he : PE B elt te) (I : Inv B [] σB H1 s) (st : tn 0 s.heap) (hf : ∀ b∈fp,FpOk B [] H1 b)
  (hw : eB J g tt te D fin σB H1) (hR : ∀ σ' H' s',Inv B [] σ' H' s'→fin H'→R (.ok .next) s') :
  codeAny (model B.prog B.w) B.A (.compLoop (.ListComp elt [⟨tg,iter,ifs,0⟩] scope pos) 0 (.ref it) (.ref D) B.env) R s:=by
 obtain ⟨W,⟨m0,w0⟩,turn⟩:=hw
 have stat : ∀ {H' : Hp},(∀ b∈fp,H' b = none)→∀ b∈fp,FpOk B [] H' b:=fun hn b hb=>⟨hn b hb,(hf b hb).2⟩
 refine codeAny_loop rfl (fun n s'=>∃ i σ' H',Inv B [] σ' H' s'∧tn i s'.heap∧(∀ b∈fp,H' b = none)∧W i n σ' H') ?_ m0 ⟨0,σB,H1,I,st,fun b hb=>(hf b hb).1,w0⟩
 rintro n s3 ⟨i,σ3,H3,I3,st3,fr3,w3⟩
 show wpAny _ B.A ((compTurn (.ListComp elt [⟨tg,iter,ifs,0⟩] scope pos) 0 (.ref it) (.ref D) B.env).onRaise (fun x=>do noteFrame x B.env; theTreesLotGoes x)) _ _ s3
 refine wpAny_noted ?_
 rw [compTurn_list]
 have nx : ∀ {α : Type} {t : Sem α} {Q : α→Shared→Prop} {E' : Value→Shared→Prop} {s : Shared},wpAny (model B.prog B.w) B.A t Q B.xe s→wpAny (model B.prog B.w) B.A t Q E' s:=fun h =>
  wpAny_mono h (fun _ _ q=>q) fun _ _ z=>by rw [hx] at z; exact z.elim
 rcases turn i n σ3 H3 w3 with ⟨stop,qn⟩ | ⟨go,step⟩
 ·refine wpAny_bind (wpAny_standAt (wpAny_bind (thn (T.done B rfl rfl rfl hc i [] s3 σ3 H3 _ I3 (stat fr3) st3 stop) fun r s4 ⟨hr,I4⟩=>?_)))
  subst hr
  exact wpAny_pure (hR σ3 H3 s4 I4 qn)
 ·refine wpAny_bind (wpAny_standAt (wpAny_bind (thn (T.item B rfl rfl rfl hc i [] s3 σ3 H3 _ I3 (stat fr3) st3 go) fun r s4 ⟨u,hr,h4⟩=>?_)))
  subst hr
  refine wpAny_bind (thn h4 fun _ s5 ⟨x,H5,I5,r5,y5,st5,fr5⟩=>?_)
  have I5':=I5.pinned (stat fr5) (T.obj _ _ st5)
  refine wpAny_bind (nx (thn (hg _ s5 σ3 H5 x u _ I5' r5 (step x H5 y5)) fun _ s6 ⟨σ6,H6,I6,q6⟩=>?_))
  have back : ∀ {σ7 : St} {H7 : Hp} {s7 : Shared} {m' : Nat},Inv B ([] ++ jJ fp s5.heap) σ7 H7 s7→m' < n→W (i + 1) m' σ7 H7→∃ m,m < n∧∃ i σ' H',Inv B [] σ' H' s7∧tn i s7.heap∧(∀ b∈fp,H' b = none)∧W i m σ' H':=fun {σ7 H7 s7 m'} I7 hm w7=>by
   refine ⟨m',hm,i + 1,σ7,H7,I7.unpinned,T.keep _ _ _ st5 fun b hb o e=>(I7.pin (b,o) (List.mem_append_right _ (List.mem_append_right _ (fS hb e)))).1,fun b hb=>?_,w7⟩
   obtain ⟨o,e,d⟩:=T.obj _ _ st5 b hb
   exact (I7.pin (b,o) (List.mem_append_right _ (List.mem_append_right _ (fS hb e)))).2.1
  refine wpAny_bind (nx (thn (ht _ s6 σ6 H6 _ I6 q6) fun ok s7 ⟨H7,I7,q7⟩=>?_))
  cases ok with
  | false =>
   rw [if_neg Bool.false_ne_true] at q7
   obtain ⟨m',hm,w7⟩:=q7
   exact wpAny_pure ⟨rfl,back I7 hm w7⟩
  | true =>
   rw [if_pos rfl] at q7
   refine wpAny_bind (wpAny_bind (nx (thn (he _ s7 σ6 H7 _ I7 q7) fun v s8 ⟨y,H8,I8,r8,ys,hD,hl,m',hm,w8⟩=>?_)))
   refine wpAny_bind (nx (thn (hW _ s8 σ6 H8 (.ref D) [y] (.ref D) [v] (fun _ H9=>H9 = upd H8 D (.lst (ys ++ [y]))) I8 rfl (.cons r8 .nil) ⟨D,ys,y,rfl,rfl,hD,hl,rfl⟩) fun _ s9 ⟨_,H9,I9,_,e9⟩=>?_))
   subst e9
   exact wpAny_pure (wpAny_pure ⟨rfl,back I9 hm w8⟩)
end L2
namespace L2
open PySem PySem.Spec PyProof.Rows
theorem qN {M : Model} {A : Around} {E : Value→Shared→Prop} {s : Shared} {scope : Scope} {globals : Addr} {cl : List (Str × Addr)} {qual : Str} {outer : Env} {Q : Env→Shared→Prop}
  (hQ : Q { scope:=scope,locals:=s.heap.objs.size,globals:=globals,cells:=cellsFrom (s.heap.objs.size + 1) scope.names cl,qual:=qual,func:=none,code:=outer.code,frame:=outer.frame,builtins:=outer.builtins }
   { s with heap:=pushCells (s.heap.push { cls:=.type "dict",data:=.dict #[] }) scope.names }) :
  wpAny M A (newFunctionEnv scope globals cl [] qual none .none (some outer)) Q E s:=by
 simp only [newFunctionEnv,Option.isSome_some,if_true]
 refine wpAny_bind (wpAny_alloc ?_)
 refine wpAny_bind (wpAny_layCells _ (fun name kind cells=>by cases hkc : kind == NameKind.cell <;> simp [hkc]) _ _ _ _ ?_)
 rw [show ({ s with heap:=s.heap.push { cls:=.type "dict",data:=.dict #[] } } : Shared).heap.objs.size = s.heap.objs.size + 1 from Heap.size_push ..]
 refine wpAny_bind ?_
 rw [List.forIn_nil]
 exact wpAny_pure (wpAny_pure hQ)
section
variable {X : Cx} {elt tg iter : Expr} {ifs : List Expr} {scope : Scope} {pos : Pos} {wi : TI} {g : TG} {tt : TT} {te : TE} {NB : List Str} {src : List (Option Nat)}
def iA (src : List (Option Nat)) (wi : TI) (g : TG) (tt : TT) (te : TE) : TE:=fun σ H Q=>wi σ H fun J H1=>∀ D,H1 D = none→eB J g tt te D (fun H'=>Q (.ref D) H') (cSt src σ) (upd H1 D (.lst []))
theorem lZ {pins : List (Addr × Obj)} {σ : St} {H2 : Hp} {s2 : Shared} {J : It} {fp : List Addr} {it : Addr} {tn : Nat→Heap→Prop} {cl : List (Str × Addr)} {fin : Addr→Hp→Prop} {E' : Value→Shared→Prop} {RR : Value→Addr→Result→Shared→Prop}
  (S : eV NB src scope X) (hc : X.calm = true) (c1 : ∀ x c,cl.lookup x = some c→X.env.cells.lookup x = some c) (c2 : ∀ x,(x,NameKind.free)∈scope.names→∃ c,cl.lookup x = some c)
  (hg : ∀ cl C s₃ H₃ fp,PG (blk X NB scope cl C s₃ H₃ fp) tg g) (ht : ∀ cl C s₃ H₃ fp,PTs (blk X NB scope cl C s₃ H₃ fp) ifs tt) (he : ∀ cl C s₃ H₃ fp,PE (blk X NB scope cl C s₃ H₃ fp) elt te)
  (I2 : Inv X pins σ H2 s2) (T : Turn X.prog X.w X.K tg J fp it tn) (st2 : tn 0 s2.heap) (f2 : ∀ b∈fp,FpOk X pins H2 b)
  (hw : ∀ D,H2 D = none→eB J g tt te D (fin D) (cSt src σ) (upd H2 D (.lst [])))
  (hR : ∀ D C H' s',FpOk X pins H' C→Inv X pins σ H' s'→(∃ m,s'.heap.Ns C m)→fin D H'→RR (.ref D) C (.ok .next) s') :
  wpAny (model X.prog X.w) X.A (newList []) (fun acc s₃=>wpAny (model X.prog X.w) X.A (newFunctionEnv scope X.env.globals cl [] X.env.qual none .none (some X.env)) (fun cenv s₄ =>
   codeAny (model X.prog X.w) X.A (.compStart (.ListComp elt [⟨tg,iter,ifs,0⟩] scope pos) 0 (.ref it) acc { cenv with scope:=relabel scope X.env }) (RR acc cenv.locals) s₄) E' s₃) E' s2:=by
 refine wpAny_newObj_type (qN ?_)
 have I3:=I2.lnew (ys:=[]) (its:=[]) (t':=s2.toks) .nil (Nat.zero_le _)
 have hD : H2 s2.heap.objs.size = none:=I2.fresh
 have fo : ∀ b∈fp,b < s2.heap.objs.size:=fun b hb=>by obtain ⟨o,e,_⟩:=T.obj _ _ st2 b hb; exact Heap.lt_size e
 have up : ∀ {b : Addr},b∈fp→upd H2 s2.heap.objs.size (.lst []) b = H2 b:=fun {b} hb=>aI (Nat.ne_of_lt (fo b hb))
 have f3 : ∀ b∈fp,FpOk X pins (upd H2 s2.heap.objs.size (.lst [])) b:=fun b hb=>⟨by rw [up hb]; exact (f2 b hb).1,(f2 b hb).2⟩
 have hsz : (s2.heap.push { cls:=.type "list",data:=.seq ([] : List Value).toArray }).objs.size = s2.heap.objs.size + 1:=by rw [Heap.size_push]
 generalize hs3 : ({ s2 with heap:=s2.heap.push { cls:=.type "list",data:=.seq ([] : List Value).toArray } } : Shared) = s3 at I3 ⊢
 have hh3 : s3.heap = s2.heap.push { cls:=.type "list",data:=.seq ([] : List Value).toArray }:=by rw [← hs3]
 have fo3 : ∀ b∈fp,b < s3.heap.objs.size:=fun b hb=>by rw [hh3,hsz]; exact Nat.lt_succ_of_lt (fo b hb)
 have hsz3 : (s3.heap.push { cls:=.type "dict",data:=.dict #[] }).objs.size = s3.heap.objs.size + 1:=Heap.size_push ..
 have hnew : ∀ x c,(cellsFrom (s3.heap.objs.size + 1) scope.names cl).lookup x = some c→cl.lookup x = some c∨(s3.heap.objs.size < c∧(pushCells (s3.heap.push { cls:=.type "dict",data:=.dict #[] }) scope.names).IsCell c none):=fun x c e=>by
  rw [← hsz3] at e
  rcases jO _ _ _ _ _ e with z | ⟨z1,z2⟩
  ·exact .inl z
  ·exact .inr ⟨by rw [hsz3] at z1; exact z1,z2⟩
 have hns₁:=(Heap.Ns.new s3.heap (.type "dict")).keeps (pushCells_keeps scope.names _)
 have keep : ∀ b o,s3.heap.get? b = some o→(pushCells (s3.heap.push { cls:=.type "dict",data:=.dict #[] }) scope.names).get? b = some o:=fun b o e=>pushCells_keeps _ _ b o (Heap.get?_push_of_some _ e)
 generalize hh1 : pushCells (s3.heap.push { cls:=.type "dict",data:=.dict #[] }) scope.names = h₁ at hnew hns₁ keep ⊢
 have IB : Inv (blk X NB scope (cellsFrom (s3.heap.objs.size + 1) scope.names cl) s3.heap.objs.size s3 (upd H2 s2.heap.objs.size (.lst [])) fp) [] (cSt src σ) (upd H2 s2.heap.objs.size (.lst [])) { s3 with heap:=h₁,toks:=s3.toks } :=
  aA9 I3 S c1 c2 f3 fo3 hns₁ keep hnew
 have stB : tn 0 h₁:=T.keep 0 s2.heap h₁ st2 fun b hb o e=>keep b o (by rw [hh3]; exact Heap.get?_push_of_some _ e)
 have fB : ∀ b∈fp,FpOk (blk X NB scope (cellsFrom (s3.heap.objs.size + 1) scope.names cl) s3.heap.objs.size s3 (upd H2 s2.heap.objs.size (.lst [])) fp) [] (upd H2 s2.heap.objs.size (.lst [])) b:=fun b hb=>by
  refine ⟨(f3 b hb).1,Nat.ne_of_lt (fo3 b hb),fun z=>?_,.inl hb,fun x c e=>(IB.ok.exf b hb).2 x c e,fun p hp=>absurd (show p∈([] : List (Addr × Obj)) from hp) (by simp)⟩
  rcases List.mem_cons.mp (I3.stkSub b z) with e | e
  ·exact (f3 b hb).2.1 e
  ·exact (f3 b hb).2.2.1 e
 have loop : codeAny (model X.prog X.w) X.A (.compLoop (.ListComp elt [⟨tg,iter,ifs,0⟩] scope pos) 0 (.ref it) (.ref s2.heap.objs.size) (compEnvC scope (cellsFrom (s3.heap.objs.size + 1) scope.names cl) s3.heap.objs.size X.env)) (RR (.ref s2.heap.objs.size) s3.heap.objs.size)
   { s3 with heap:=h₁,toks:=s3.toks }:=by
  refine xQ (B:=blk X NB scope (cellsFrom (s3.heap.objs.size + 1) scope.names cl) s3.heap.objs.size s3 (upd H2 s2.heap.objs.size (.lst [])) fp) rfl hc T (hg _ _ _ _ _) (ht _ _ _ _ _) (he _ _ _ _ _) IB stB fB (hw _ hD) fun σ' H' s' J' q=>?_
  obtain ⟨m,hm,_⟩:=J'.loc
  exact hR _ _ H' s' (I3.fpOk (Nat.le_refl _) J'.free) (I3.unblk J' f3) ⟨m,hm⟩ q
 exact codeAny_compStart_list loop (T.self _ 0 _ _ _ stB loop)
theorem bJ (S : eV NB src scope X) (hc : X.calm = true) (hi : PI X tg iter wi) (hg : ∀ cl C s₃ H₃ fp,PG (blk X NB scope cl C s₃ H₃ fp) tg g) (ht : ∀ cl C s₃ H₃ fp,PTs (blk X NB scope cl C s₃ H₃ fp) ifs tt)
  (he : ∀ cl C s₃ H₃ fp,PE (blk X NB scope cl C s₃ H₃ fp) elt te) (hs : ∀ x,foldedSetIterable iter X.env x = pure x:=by intro _; rfl) : PE X (.ListComp elt [⟨tg,iter,ifs,0⟩] scope pos) (iA src wi g tt te):=by
 intro pins s σ H Q I h
 obtain ⟨cl,hcl,c1,c2⟩:=iX I.ok S
 rw [eval_ListComp]
 refine wpAny_comprehension_free (use:=none) (cl:=cl) rfl hs hcl S.kind S.names (thn (hi pins s σ H _ I h) fun v s1 h1=>thn h1 fun itv s2 h2=>?_)
 obtain ⟨it,fp,tn,J,H2,e,I2,T,st2,f2,hw⟩:=h2
 subst e
 refine lZ (RR:=fun acc C=>compPost (model X.prog X.w) X.A X.xe none (EP X pins σ Q) acc C) S hc c1 c2 hg ht he I2 T st2 f2 hw fun D C H' s' fC I' hm q=>?_
 obtain ⟨m,hm⟩:=hm
 refine ⟨m,hm,fun h' sb=>⟨.ref D,H',?_,rfl,q⟩⟩
 obtain ⟨g0,g1,_,g3,g4,g5⟩:=fC
 exact I'.turned (t':=s'.toks) (fun b o hb e=>(sb.2 b hb).trans e) g0 g1 g3 g4 g5
theorem cN {i : Nat} {y : Str} {py spos : Pos} (S : eV NB src scope X) (hc : X.calm = true) (hi : PI X tg iter wi) (hg : ∀ cl C s₃ H₃ fp,PG (blk X NB scope cl C s₃ H₃ fp) tg g) (ht : ∀ cl C s₃ H₃ fp,PTs (blk X NB scope cl C s₃ H₃ fp) ifs tt)
  (he : ∀ cl C s₃ H₃ fp,PE (blk X NB scope cl C s₃ H₃ fp) elt te) (hN : X.N.Nodup) (hix : X.N[i]? = some y) (hy : X.env.scope.names.lookup y = some .local)
  (hsw : swapsWith (.ListComp elt [⟨tg,iter,ifs,0⟩] scope pos) (some (.Name y py)) spos.line X.env = pure true) (hs : ∀ x,foldedSetIterable iter X.env x = pure x:=by intro _; rfl) :
  PS X (.Assign [.Name y py] (.ListComp elt [⟨tg,iter,ifs,0⟩] scope pos) spos) (tAsg (iA src wi g tt te) (aQ i)):=by
 intro pins s σ H D0 I h
 obtain ⟨cl,hcl,c1,c2⟩:=iX I.ok S
 rw [exec_Assign_Name_used _ _ _ _ hsw]
 refine wpAny_bind (wpAny_standAt (wpAny_bind ?_))
 show wpAny _ X.A (do let _ ← comprehension (.ListComp elt [⟨tg,iter,ifs,0⟩] scope pos) scope X.env _ (newList []) false (eval iter X.env) (some (assign (.Name y py) X.env))) _ _ s
 refine wpAny_bind (wpAny_mono (wpAny_comprehension_free (use:=some (assign (.Name y py) X.env)) (Q:=fun _ s'=>SP X pins D0 .next s') (cl:=cl) rfl hs hcl S.kind S.names
  (thn (hi pins s σ H _ I h) fun v s1 h1=>thn h1 fun itv s2 h2=>?_)) (fun _ s' hq=>wpAny_pure (wpAny_pure hq)) fun _ _ e=>e)
 obtain ⟨it,fp,tn,J,H2,e,I2,T,st2,f2,hw⟩:=h2
 subst e
 refine lZ (RR:=fun acc C=>compPost (model X.prog X.w) X.A X.xe (some (assign (.Name y py) X.env)) (fun _ s'=>SP X pins D0 .next s') acc C) S hc c1 c2 hg ht he I2 T st2 f2 hw fun D C H' s' fC I' hm q=>?_
 obtain ⟨m,hm⟩:=hm
 obtain ⟨g0,g1,_,g3,g4,g5⟩:=fC
 show wpAny _ X.A (assign (.Name y py) X.env (.ref D)) _ _ _
 refine wpAny_assign_Name (oI I' hN hix (.inl hy) (v:=.ref D) rfl (fun s'' I'' sb=>?_) (.inr hy))
 obtain ⟨a,sb,ha⟩:=sb
 have hne : C ≠ a:=by
  rcases ha with z | z
  ·rw [z]; exact g1
  ·exact fun z'=>g4 y a z z'.symm
 refine ⟨m,hm.sameBut sb hne,fun h' sb'=>⟨_,H',I''.turned (t':=s''.toks) (fun b o hb e=>(sb'.2 b hb).trans e) g0 g1 g3 g4 g5,q⟩⟩
end
end L2
namespace L2
open PySem PySem.Spec PyProof.Rows
section
variable {P : Program} {w : World} {K : PySem.W.Frag} {mg : Str→Option Value} {base : Heap} {N : List Str} {qual : Str} {scope : Scope} {f : Addr} {cd : Value} {A : Around} {outer : List Env} {s : Shared} {H : Hp} {E : XK}
end
end L2
namespace L2
open PySem PySem.Spec PyProof.Rows PySem.W
abbrev bmV : List Value:=[.type "ValueError",.type "Exception",.type "BaseException",.type "object"]
structure ECls (K : PySem.W.Frag) (C : Addr) : Prop where
 ex : PySem.W.excIn K C bmV "ValueError.__new__" = true
 kp : PySem.W.keepIn K (.ref C) = true
 ga : PySem.W.findIn K (.ref C) "__getattribute__" = some (some (.builtin "BaseException.__getattribute__"))
 gt : PySem.W.findIn K (.ref C) "__getattr__" = some none
 cl : PySem.W.findIn K (.ref C) "__class__" = some (some (.builtin "object.__class__"))
 mo : PySem.W.mroIn K C (.type "object") = some true
 mb : PySem.W.mroIn K C (.type "BaseException") = some true
 ty : (PySem.W.clsIn K C).isSome = true
def IsX (p : Addr) (C : Value) (h : Heap) : Prop:=∃ o,h.get? p = some o∧o.cls = C
abbrev excO (p : Addr) (C : Value) : HO:=.ext (IsX p C)
theorem bX.get {P : Program} {w : World} {H : Hp} {h : Heap} {a : Addr} {o : HO} (x : bX P w H h a o) : ∃ u,h.get? a = some u:=by
 cases o with
 | lst xs=>obtain ⟨_,_,_,_,e⟩:=x; exact ⟨_,e⟩
 | tup xs=>obtain ⟨_,_,_,ob,e,_⟩:=x; exact ⟨_,e⟩
 | dK kvs=>obtain ⟨_,_,_,_,o,_,_,e,_⟩:=x; exact ⟨_,e⟩
 | dT kvs=>obtain ⟨_,_,_,_,o,_,_,e,_⟩:=x; exact ⟨_,e⟩
 | set S n=>obtain ⟨o,_,_,_,e,_⟩:=x; exact ⟨_,e⟩
 | ins C dx fs=>obtain ⟨_,_,_,e,_⟩:=x; exact ⟨_,e⟩
 | own y=>exact x
 | xd fs=>obtain ⟨_,⟨_,_,_,e,_⟩,_⟩:=x; exact ⟨_,e⟩
 | rng lo hi=>obtain ⟨_,_,_,e⟩:=x; exact ⟨_,e⟩
 | frz ob u=>obtain ⟨e,_⟩:=x; exact ⟨_,e⟩
 | tbl ps=>exact ⟨_,(show h.get? a = some _ from x)⟩
 | met f y=>exact ⟨_,(show h.get? a = some _ from x)⟩
 | ext φ=>exact x.2.1
theorem HOk.freshN {P : Program} {w : World} {H : Hp} {h : Heap} {a : Addr} (x : HOk P w H h) (e : h.get? a = none) : H a = none:=by
 cases q : H a with
 | none=>rfl
 | some u=>obtain ⟨o,z⟩:=(x a u q).get; rw [e] at z; cases z
theorem Inv.laidN {X : Cx} {pins : List (Addr × Obj)} {σ : St} {H : Hp} {s : Shared} {h' : Heap} {a : Addr} {o : HO} {t' : Nat} (I : Inv X pins σ H s) (k : ∀ b u,s.heap.get? b = some u→h'.get? b = some u) (hp : s.heap.get? a = none) (new : bX X.prog X.w (upd H a o) h' a o) :
  Inv X pins σ (upd H a o) { s with heap:=h',toks:=t' }:=by
 have hn:=I.hok.freshN hp
 have ne : ∀ b u,s.heap.get? b = some u→b ≠ a:=fun b u e z=>by rw [z,hp] at e; cases e
 refine I.un ⟨fun b u e _ _ _=>k b u e,fun b u e _ _ _=>⟨u.slots,k b u e⟩,fun b u e n _=>by rw [aI (ne b u e)]; exact n,fun b u e _=>⟨u,k b u e⟩,fun b xs e=>by rw [aI (aM e hn)]; exact e,fun b u v e=>by rw [aI (aM e hn)]; exact e,fun b ps e=>⟨#[],by rw [aI (aM e hn),e]; simp⟩⟩ fun b u e=>?_
 by_cases hb : b = a
 ·subst hb; rw [aD] at e; cases e; exact new
 ·rw [aI hb] at e
  exact (I.hok b u e).stay (fun c v _ q=>k c v q) (fun c q=>by rw [aI (aM q hn)]; exact q) fun c xs q=>by rw [aI (aM q hn)]; exact q
section
variable {prog : Program} {w : World} {A : Around} {E : Value→Shared→Prop} {s : Shared} {K : PySem.W.Frag} {x C : Addr} {ox : Obj}
theorem tR {M : Model} {h : Heap} (hx : h.get? x = some ox) (hc : ox.cls = .ref C) : PySem.W.Looks M h (typeOf (.ref x)) (.ref C):=hc ▸ (PySem.W.Looks.ld hx).andThen .now
open Builtin Builtin.ObjectAttr Builtin.Getset_descriptor in
theorem vP {tp : Value} {R : Result→Shared→Prop} (X : K.In s.heap) (hx : s.heap.get? x = some ox) (hc : ox.cls = .ref C) (hm : PySem.W.mroIn K C (.type "object") = some true)
  (h : R (.ok (.ret (.ref C))) s) : codeAny (model prog w) A (.call (.builtin "getset_descriptor.__get__") ⟨[.builtin "object.__class__",.ref x,tp],[]⟩) R s:=by
 obtain ⟨hh,g,dr,t,os⟩:=s
 have L0:=tR (M:=model prog w) hx hc
 have L1:=looks_mroIn (M:=model prog w) X hm
 refine codeAny_call_builtin KF.slot_gs.plain KF.entry_gs (KF.slot_gs.check _ _ _ _ _ _ _ _ KF.type_class (KF.args_gs _ _ _) ?_)
 unfold Builtin.«getset_descriptor.__get__» descrGet
 rw [dga_obj]
 refine wpAny_bind (wpAny_pure ?_)
 unfold descrGetter descrCheckInstance descrNameAndClass isInstance
 simp only [KF.owner_class]
 repeat lk
 refine ⟨Code.quiet_builtin _ (by decide +kernel),codeAny_builtin KF.entry_class ?_⟩
 unfold Builtin.«object.__class__» shownTypeOf
 repeat lk
 exact h
theorem xR {tk : Tok} {Q : Fin→Shared→Prop} {h : Heap} {g d t os} (T : ECls K C) (X : K.In h) (hx : h.get? x = some ox) (hc : ox.cls = .ref C) (hq : Q (.done (.ret (.ref C))) ⟨h,g,d,t,os⟩) :
  wpAny (model prog w) A (Builtin.«object.__getattribute__» ⟨[.ref x,.str "__class__" tk],[]⟩) Q E ⟨h,g,d,t,os⟩:=by
 have f5:=F.typeOf_bexc_args
 have hT5 : (⟨h,g,d,t,os⟩ : Shared).TypeIs (.builtin "object.__class__") "getset_descriptor" := PySem.F.typeOf_object_class
 have f5':=PySem.F.typeOf_object_class
 have f6:=F.slot_gs_get.lookup
 have f7:=F.slot_gs_set.lookup
 have L1:=looks_findIn (M:=model prog w) X T.cl
 repeat (any_goals (first | assumption | (with_reducible refine wpAny_loadPart_at hx ?_; rw [hc]) | with_reducible refine L1.at ?_ | wp_step))
 refine vP (s:=⟨h,g,d,t,os⟩) X hx hc T.mo ?_
 repeat (any_goals (first | assumption | wp_step))
theorem xS {M : Model} {nameV : Value} {Q : Unit→Shared→Prop} {h : Heap} {g d t os} (T : ECls K C) (X : K.In h) (hx : h.get? x = some ox) (hc : ox.cls = .ref C) (hq : Q () ⟨h,g,d,t,os⟩) :
  wpAny M A (checkBuiltinCall "BaseException.__getattribute__" ⟨[.ref x,nameV],[]⟩) Q E ⟨h,g,d,t,os⟩:=by
 have hk : builtinKind "BaseException.__getattribute__" = some .slot:=by decide +kernel
 have hsplit : splitId "BaseException.__getattribute__" = some ("BaseException", "__getattribute__"):=by decide +kernel
 have ha:=F.args_bexc_ga (.ref x) nameV
 have L1:=looks_mroIn (M:=M) X T.mb
 simp only [checkBuiltinCall,hk,hsplit]
 refine wpAny_bind ?_
 ·unfold isInstance
  repeat (first | (with_reducible refine wpAny_loadPart_at hx ?_; rw [hc]) | with_reducible refine L1.at ?_ | wp_step)
  exact hq
theorem aB5 {tk : Tok} {fill expr : Bool} {Q : Value→Shared→Prop} {h : Heap} {g d t os} (T : ECls K C) (X : K.In h) (hx : h.get? x = some ox) (hc : ox.cls = .ref C) (hq : Q (.ref C) ⟨h,g,d,t,os⟩) :
  wpAny (model prog w) A (getAttrBy (.ref x) (.str "__class__" tk) fill expr) Q E ⟨h,g,d,t,os⟩:=by
 have f3:=F.attr_ValueError.ga.bind (.ref x)
 have hx0 : (expr && onTheHeap (Value.builtin "BaseException.__getattribute__")) = false:=by cases expr <;> rfl
 have hx2 : (Value.builtin "BaseException.__getattribute__" == Value.builtin "object.__getattribute__") = false:=by decide +kernel
 have hx1 : (onTheHeap (Value.ref C) && Value.builtin "BaseException.__getattribute__" == Value.builtin "object.__getattribute__") = false:=by rw [hx2]; rfl
 have L1:=looks_findIn (M:=model prog w) X T.ga
 have L2:=looks_findIn (M:=model prog w) X T.gt
 repeat (any_goals (first | assumption | (with_reducible refine wpAny_loadPart_at hx ?_; rw [hc]) | with_reducible refine L1.at ?_ | with_reducible refine L2.at ?_ | wp_step))
 refine codeAny_call_builtin F.attr_ValueError.ga.plain F.entry_bexc_ga (xS T X hx hc (xR T X hx hc ?_))
 repeat (any_goals (first | assumption | wp_step))
theorem aAc {Q : Option Value→Shared→Prop} {h : Heap} {g d t os} (T : ECls K C) (X : K.In h) (hx : h.get? x = some ox) (hc : ox.cls = .ref C) (hq : Q (some (.ref C)) ⟨h,g,d,t + 1,os⟩) :
  wpAny (model prog w) A (getAttr? (.ref x) "__class__") Q E ⟨h,g,d,t,os⟩:=by
 unfold getAttr?
 repeat (any_goals (first | assumption | with_reducible apply aB5 T X hx hc | wp_step))
theorem aAd (T : ECls K C) : PySem.W.KitX K (.ref x) (.ref C) (IsX x (.ref C)) where
 ty:=fun _ _ _ ⟨o,e,c⟩=>tR e c
 it:=fun _ _ X _=>by
  obtain ⟨cdD,hcD⟩:=Option.isSome_iff_exists.mp T.ty
  unfold clsIn at hcD
  split at hcD
  ·rename_i c' d' cd' sl' ho
   intro A' Q' E' s' k q
   unfold isType loadHead
   exact wpAny_bind (wpAny_loadPart (k _ _ (X _ _ ho)) (wpAny_pure q))
  ·cases hcD
 ne:=fun h tp dd its n sl X htp=>by
  obtain ⟨cdD,hcD⟩:=Option.isSome_iff_exists.mp T.ty
  refine Bool.eq_false_iff.mpr fun q=>?_
  have e : C = tp:=Value.ref.inj (beq_iff_eq.mp q)
  subst e
  unfold clsIn at hcD
  split at hcD
  ·rename_i c' d' cd' sl' ho
   have z:=(X _ _ ho).symm.trans htp
   cases z
  ·cases hcD
 ca:=fun {_ _ _ _ _ s} X ⟨o,e,c⟩ k=>by
  obtain ⟨h,g,d,t,os⟩:=s
  exact aAc T X e c k
end
section
variable {X : Cx}
inductive TyX (K : PySem.W.Frag) (H : Hp) : V→Value→Prop where
 | of {v : V} {t : Value} (h : TyOf K H v t) : TyX K H v t
 | exc {p C : Addr} (T : ECls K C) (e : H p = some (excO p (.ref C))) : TyX K H (.ref p) (.ref C)
def rIsi (K : PySem.W.Frag) : List V→Hp→VK→Prop:=fun xs H Q=>∃ x c cv t b,xs = [x,c]∧(c = .ty cv∧PySem.W.kitOne K t (.type cv) = some b)∧TyX K H x t∧Q (.bl b) H
theorem gI : cV X (.builtin "isinstance") (rIsi X.K):=by
 intro pins s σ H xs us Q I r h
 obtain ⟨x,c,cv,t,b,rfl,⟨rfl,e⟩,ty,q⟩:=h
 obtain ⟨u1,u2,rfl,r1,r2⟩:=r.two
 obtain rfl : u2 = Value.type cv:=r2
 cases ty with
 | of ty=>exact xJ I r1 ty e fun tk=>⟨.bl b,H,I.tok tk,rfl,q⟩
 | @exc p C T ea =>
  obtain rfl : u1 = Value.ref p:=r1
  have p1 : IsX p (.ref C) s.heap:=(I.hok p _ ea).1
  exact PySem.W.kia_one (aAd T) I.kIn p1 e (fun z=>nomatch z) fun tk=>⟨.bl b,H,I.tok tk,rfl,q⟩
end
section
variable {X : Cx} {x : Str} {C : Addr} {np cpos pos : Pos} {e : Expr} {es : List Expr} {t : TA}
end
end L2
namespace L2
open PySem PySem.Spec PyProof.Rows
section
variable {X : Cx} {CX : CXT} {k : Nat} {f C : Addr} {fd : FuncData} {ps : List Str} {sp : Sp} {dvs : List V} {ds : List Value} {E : St→XK} {x m : Str} {p pos apos : Pos} {e o : Expr} {es : List Expr} {ta : TE} {t : TA}
end
section
variable {X : Cx} {CX : CXT} {k : Nat} {f : Addr} {fd : FuncData} {ps : List Str} {sp : Sp} {dvs : List V} {ds : List Value} {E : XK} {x : Str} {p pos : Pos} {e : Expr} {es : List Expr} {t : TA}
end
section
variable {P : Program} {w : World} {K : PySem.W.Frag} {mg : Str→Option Value} {base : Heap}
end
end L2
namespace L2
open PySem PySem.Spec PyProof.Rows
section
variable {X : Cx} {pins : List (Addr × Obj)} {σ : St} {H : Hp} {s : Shared}
end
end L2
namespace L2
open PySem PySem.Spec PyProof.Rows PySem.W
theorem aBa {h : Heap} {a : Addr} {m m' : Str→Option Value} (x : h.Ns a m) (y : h.Ns a m') : m = m':=by
 obtain ⟨o,es,ep,e,d,_,q⟩:=x
 obtain ⟨o',es',ep',e',d',_,q'⟩:=y
 rw [e] at e'; cases e'
 rw [d] at d'; cases d'
 funext z
 rw [← q z,q' z]
theorem Inv.fromK {X : Cx} {pins : List (Addr × Obj)} {σ : St} {H : Hp} {s : Shared} {h' : Heap} {m : Str→Option Value} {D : Addr} {o : HO} {t' : Nat} (I : Inv X pins σ H s) (F : Fr X.base X.env.locals s.heap m) (F' : Fr X.base X.env.locals h' m)
  (N' : News X.base X.env.locals h' (fF X.base s.heap X.env.locals)) (hD : s.heap.get? D = none) (new : bX X.prog X.w (upd H D o) h' D o) : Inv X pins σ (upd H D o) { s with heap:=h',toks:=t' }:=by
 have hn:=I.hok.freshN hD
 have ne : ∀ b u,s.heap.get? b = some u→b ≠ D:=fun b u e z=>by rw [z,hD] at e; cases e
 have keep : ∀ b u,b ≠ X.env.locals→s.heap.get? b = some u→h'.get? b = some u:=fun b u hb e=>by
  cases q : X.base.get? b with
  | some v =>
   have:=I.bk b v q
   rw [e] at this; cases this
   exact F'.keep b _ q
  | none=>exact (N' (b,u) (iD hb q e)).1
 refine I.step (g':=s.gens) (d':=s.drawn) (ch:=[]) (fun _ z=>absurd z (by simp)) (fun b u hb _ _ e _=>keep b u hb e) (fun b u hb _ _ e _=>⟨u.slots,keep b u hb e⟩) (fun b u _ e n=>by rw [aI (ne b u e)]; exact n) (fun b u _ e=>?_)
  (fun b xs e=>by rw [aI (aM e hn)]; exact e) (fun b u v e=>by rw [aI (aM e hn)]; exact e) (fun b ps e=>⟨#[],by rw [aI (aM e hn),e]; simp⟩) (fun m1 hm=>by rw [aBa hm F.ns]; exact F'.ns) (fun b u e=>?_) I.bare
 ·by_cases hb : b = X.env.locals
  ·obtain ⟨o',_,_,q,_⟩:=F'.ns
   exact ⟨o',by rw [hb]; exact q⟩
  ·exact ⟨u,keep b u hb e⟩
 ·by_cases hb : b = D
  ·subst hb; rw [aD] at e; cases e; exact new
  ·rw [aI hb] at e
   refine (I.hok b u e).stay (fun c v hc q=>keep c v ?_ q) (fun c q=>by rw [aI (aM q hn)]; exact q) fun c xs q=>by rw [aI (aM q hn)]; exact q
   rintro rfl
   rcases hc with z | hc
   ·have f:=I.free; rw [z,e] at f; cases f
   ·rw [I.free] at hc; cases hc
theorem pK {X : Cx} {pins : List (Addr × Obj)} {σ : St} {H : Hp} {s : Shared} {h' : Heap} {D : Addr} {o : Obj} (I : Inv X pins σ H s) (N : News X.base X.env.locals h' ((D,o) :: fF X.base s.heap X.env.locals)) (hlt : ∀ q∈fF X.base s.heap X.env.locals,q.1 < D) : s.heap.get? D = none:=by
 cases e : s.heap.get? D with
 | none=>rfl
 | some u =>
  obtain ⟨_,n1,n2⟩:=N (D,o) List.mem_cons_self
  exact absurd (hlt (D,u) (iD n1 n2 e)) (Nat.lt_irrefl _)
end L2
namespace L2
open PySem PySem.Spec PyProof.Rows PySem.W
def xT (K : PySem.W.Frag) (H : Hp) (a : Addr) (y : Int × Int) : Prop:=SqT K H a [.int y.1,.int y.2]
section
variable {X : Cx}
theorem vQ {pins : List (Addr × Obj)} {σ : St} {H : Hp} {s : Shared} {a : Addr} {y : Int × Int} (I : Inv X pins σ H s) (h : xT X.K H a y) : ∃ o n t u,s.heap.get? a = some o∧o.cls = .type "tuple" ∧ o.data = .seq #[.int y.1 t,.int y.2 u] n:=by
 obtain ⟨its,r,p,_⟩:=I.tuple h
 obtain ⟨u1,u2,rfl,r1,r2⟩:=r.two
 obtain ⟨t,rfl⟩:=r1
 obtain ⟨t',rfl⟩:=r2
 obtain ⟨o,e,c,n,d⟩:=p
 exact ⟨o,n,t,t',e,c,d⟩
end
end L2
namespace L2
open PySem PySem.Spec PyProof.Rows PySem.W
def hAt (hs : Array Int) (i : Nat) : Int:=(hs[i]?).getD 0
def dX (hs : Array Int) (t : SetTable) (h : Int) : Option (Array Int × SetTable) :=
 if t.gaveWay then none else
 match t.probe (hAt hs) h (t.probeStart h) with
 | some (.empty j none) =>
  let q:=t.put j
  let hs1:=SetTable.insertAt hs q.2 h
  if q.1.fits hs1.size && decide (hs1.size ≤ 4096) then
   if q.1.tooFull then
    (match q.1.relaid hs1 (SetTable.grown (hs.size + 1)) with
    | some (t2,order) =>
     let hs2:=order.filterMap (hs1[·]?)
     if hs2.size == hs1.size && t2.fits hs2.size && decide (SetTable.sizeAbove (SetTable.grown (hs.size + 1)) ≤ 4096) then some (hs2,t2) else none
    | none=>none)
   else some (hs1,q.1)
  else none
 | _=>none
def mB (led : Bool) : List Int→Option (Array Int × SetTable):=fun l=>l.foldlM (fun q h=>dX q.1 q.2 h) (#[],SetTable.fresh 0 0 led)
def fA (h : Heap) (S : Addr) (hs : Array Int) (t : SetTable) : Prop:=∃ o es ep,h.get? S = some o∧o.cls = .type "set" ∧ (o.dict = none∧o.slots = #[])∧o.data = .set es ep t∧es.map (·.1) = hs∧t.fits es.size = true
section
variable {prog : Program} {w : World} {A : Around} {E : Value→Shared→Prop} {s : Shared} {S : Addr}
theorem aB6 (es : Array (Int × Value)) : (fun i=>(es[i]?.map (·.1)).getD 0) = hAt (es.map (·.1)):=by
 funext i
 unfold hAt
 rw [Array.getElem?_map]
theorem jQ (es : Array (Int × Value)) (p : Nat) (x : Int × Value) : (SetTable.insertAt es p x).map (·.1) = SetTable.insertAt (es.map (·.1)) p x.1:=by
 unfold SetTable.insertAt
 simp
theorem jR (es : Array (Int × Value)) (order : Array Nat) : (order.filterMap (es[·]?)).map (·.1) = order.filterMap ((es.map (·.1))[·]?):=by
 apply Array.ext'
 rw [Array.toList_map,Array.toList_filterMap,Array.toList_filterMap,List.map_filterMap]
 congr 1
 funext i
 rw [Array.getElem?_map]
theorem vR {hs : Array Int} {t : SetTable} {h : Int} {x : Value} {j : Nat} {Q : SetFound→Shared→Prop} (hS : fA s.heap S hs t) (hg : t.gaveWay = false) (hp : t.probe (hAt hs) h (t.probeStart h) = some (.empty j none)) (q : Q (.free j false) s) :
  wpAny (model prog w) A (setSearch S x h true) Q E s:=by
 obtain ⟨o,es,ep,ho,hc,hdi,hd,hm,hf⟩:=hS
 unfold setSearch setSearchFrom
 refine wpAny_bind (wpAny_setState_of ho hd hf ?_)
 dsimp only
 rw [hg,if_neg Bool.false_ne_true]
 have hp' : t.probe (fun i=>(es[i]?.map (·.1)).getD 0) h (t.probeStart h) = some (.empty j none):=by rw [aB6,hm]; exact hp
 refine wpAny_bind (wpAny_pure ?_)
 erw [hp']
 exact wpAny_pure q
theorem xU {a : Addr} {o : Obj} {n : Nat} {x y : Int} {t u : Tok} {Q : Bool→Shared→Prop} (ho : s.heap.get? a = some o) (hc : o.cls = .type "tuple") (hd : o.data = .seq #[.int x t,.int y u] n) (q : Q true s) :
  wpAny (model prog w) A (hashByValue 8 (.ref a)) Q E s:=by
 have hT : s.TypeIs (.ref a) "tuple" := ⟨_,ho,hc⟩
 unfold hashByValue
 refine wpAny_bind (wpAny_specialOf hT PySem.F.slot_tuple_hash.lookup ?_)
 refine wpAny_bind (wpAny_seqItems ho hd ?_)
 refine wpAny_bind ?_
 show wpAny _ _ (forIn #[Value.int x t,Value.int y u] _ _) _ _ s
 rw [← Array.forIn_toList]
 refine wpAny_forIn_list _ (fun rest r s'=>r.1 = none∧s' = s∧∀ v∈rest,∃ z k,v = Value.int z k) _ ?_ ?_ _ _ ⟨rfl,rfl,fun v hv=>?_⟩
 ·rintro v rest r s' ⟨hr,rfl,hall⟩
  obtain ⟨z,k,rfl⟩:=hall v List.mem_cons_self
  refine wpAny_bind (wpAny_pure ?_)
  exact wpAny_pure ⟨rfl,rfl,fun u' hu'=>hall u' (List.mem_cons_of_mem _ hu')⟩
 ·rintro ⟨r1,r2⟩ s' ⟨hr,rfl,_⟩
  have hr' : r1 = none:=hr
  subst hr'
  exact wpAny_pure q
 ·rcases List.mem_cons.mp hv with z | z
  ·exact ⟨_,_,z⟩
  ·rcases List.mem_cons.mp z with z | z
   ·exact ⟨_,_,z⟩
   ·cases z
theorem tT {hs : Array Int} {t t' : SetTable} {es' : Array (Int × Value)} (hS : fA s.heap S hs t) (hf : t'.fits es'.size = true) (hz : es'.size ≤ 4096) {Q : Unit→Shared→Prop}
  (q : ∀ h',Heap.SameBut S s.heap h'→fA h' S (es'.map (·.1)) t'→Q () { s with heap:=h' }) : wpAny (model prog w) A (storeSet S es' t') Q E s:=by
 obtain ⟨o,es,ep,ho,hc,hdi,hd,hm,_⟩:=hS
 refine wpAny_storeSet_of ho hd (q _ (Heap.SameBut.update s.heap S (Obj.putSet es' t')) ?_) (Nat.le_trans hz (by decide))
 have g:=Heap.get?_update_self (Obj.putSet es' t') ho (by rw [putSet_of es' t' hd]; rfl)
 rw [putSet_of es' t' hd] at g
 exact ⟨_,es',ep + 1,g,hc,hdi,rfl,rfl,hf⟩
theorem aBb {hs hs' : Array Int} {t t' : SetTable} {a : Addr} {o : Obj} {n : Nat} {x y : Int} {tx ty : Tok} {Q : Bool → Shared → Prop} (hu : A.units < cLine) (hS : fA s.heap S hs t) (ho : s.heap.get? a = some o) (hc : o.cls = .type "tuple") (hd : o.data = .seq #[.int x tx, .int y ty] n) (hne : a ≠ S)
    (hst : dX hs t (tupleKeyHash (intKind prog w) [x, y]) = some (hs', t')) (q : ∀ h' tk, Heap.SameBut S s.heap h' → fA h' S hs' t' → Q true { s with heap := h', toks := tk }) : wpAny (model prog w) A (setAdd S (.ref a)) Q E s := by
  have hk : IsTupleKey (intKind prog w) s.heap [x, y] a := ⟨o, _, n, ho, hc, hd, .cons (intKind_is _ _ _ _) (.cons (intKind_is _ _ _ _) .nil)⟩
  unfold setAdd
  refine wpAny_holding (wpAny_bind (wpAny_pyHash_tuple hu hk ?_))
  generalize htk : s.toks + ([x, y].length + 1) = tk
  generalize hh : tupleKeyHash (intKind prog w) [x, y] = h at hst ⊢
  have hS0 := hS
  obtain ⟨ob, es, ep, hb, hbc, hbd, hbe, hm, hf⟩ := hS
  unfold setAddHashed setAddHashedIn
  refine wpAny_holding (wpAny_bind (wpAny_setState_of (s := { s with toks := tk }) hb hbe hf ?_))
  dsimp only
  have hbs : byScan (.ref a) es = false := by unfold byScan; rfl
  rw [hbs, if_neg Bool.false_ne_true]
  unfold dX at hst
  cases hg : t.gaveWay with
  | true => rw [hg, if_pos rfl] at hst; cases hst
  | false =>
    rw [hg, if_neg Bool.false_ne_true] at hst
    split at hst
    · rename_i j hp
      dsimp only at hst
      split at hst
      · rename_i hfz
        rw [Bool.and_eq_true, decide_eq_true_eq] at hfz
        refine wpAny_bind (vR (s := { s with toks := tk }) hS0 hg hp ?_)
        dsimp only
        refine wpAny_bind (wpAny_setState_of (s := { s with toks := tk }) hb hbe hf ?_)
        dsimp only
        have byv : ∀ {kk : Bool → Sem Bool}, wpAny (model prog w) A (kk true) Q E { s with toks := tk } → wpAny (model prog w) A (if (t.put j).1.plain = true then hashByValue 8 (.ref a) >>= kk else pure true >>= kk) Q E { s with toks := tk } := fun {kk} hP => by
          split
          · exact wpAny_bind (xU (s := { s with toks := tk }) ho hc hd hP)
          · exact wpAny_bind (wpAny_pure hP)
        refine byv ?_
        simp only [if_true]
        have hsz : (SetTable.insertAt es (t.put j).2 (h, Value.ref a)).size = (SetTable.insertAt hs (t.put j).2 h).size := by
          rw [← hm, ← jQ es (t.put j).2 (h, Value.ref a), Array.size_map]
        refine wpAny_bind (tT (s := { s with toks := tk }) hS0 (by rw [hsz]; exact hfz.1) (by rw [hsz]; exact hfz.2) fun h1 sb1 S1 => ?_)
        rw [jQ, hm] at S1
        split at hst
        · rename_i htf
          rw [show (!false && (t.put j).1.tooFull) = true by rw [htf]; rfl, if_pos rfl]
          split at hst
          · rename_i t2 order hr
            split at hst
            · rename_i hq
              rw [Bool.and_eq_true, Bool.and_eq_true, decide_eq_true_eq, beq_iff_eq] at hq
              obtain ⟨⟨hq1, hq2⟩, hq3⟩ := hq
              cases hst
              have hes : es.size = hs.size := by rw [← hm, Array.size_map]
              refine wpAny_bind ?_
              unfold setRelay
              obtain ⟨o1, es1, ep1, g1, g2, g3, g4, g5, g6⟩ := id S1
              refine wpAny_bind (wpAny_setState_of (s := { s with heap := h1, toks := tk }) g1 g4 g6 ?_)
              dsimp only
              rw [hes]
              rw [if_neg (by have h4 : (4096 : Nat) ≤ sizeLine := by decide
                             lia)]
              refine wpAny_bind ?_
              rw [g5, hr]
              have hsz2 : (order.filterMap (es1[·]?)).size = es1.size := by
                have e1 := congrArg Array.size (jR es1 order)
                rw [Array.size_map, g5] at e1
                rw [e1, hq1, ← g5, Array.size_map]
              refine wpAny_of_eq (show _ = (pure (order.filterMap (es1[·]?), t') : Sem (Array (Int × Value) × SetTable)) from ?_) ?_
              · show (do
                  let es' := order.filterMap (es1[·]?)
                  if es'.size != es1.size then unsupported "internal:set-table-lost-an-element"
                  pure (es', t') : Sem (Array (Int × Value) × SetTable)) = _
                simp [hsz2]
              dsimp only
              have hle : es1.size ≤ 4096 := by
                have e1 := congrArg Array.size g5
                rw [Array.size_map] at e1
                rw [e1]
                exact hfz.2
              have hfm : (order.filterMap (es1[·]?)).size = (order.filterMap ((SetTable.insertAt hs (t.put j).2 h)[·]?)).size := by
                have e1 := congrArg Array.size (jR es1 order)
                rw [Array.size_map, g5] at e1
                exact e1
              refine tT (s := { s with heap := h1, toks := tk }) S1 (by rw [hfm]; exact hq2) (by rw [hsz2]; exact hle) fun h2 sb2 S2 => ?_
              rw [jR, g5] at S2
              exact wpAny_pure (q h2 tk (sb1.trans sb2) S2)
            · cases hst
          · cases hst
        · rename_i htf
          cases hst
          have htf' : (t.put j).1.tooFull = false := by simpa using htf
          rw [show (!false && (t.put j).1.tooFull) = false by rw [htf']; rfl, if_neg Bool.false_ne_true]
          exact wpAny_pure (q h1 tk sb1 S1)
      · cases hst
    · cases hst
end
end L2
namespace L2
open PySem PySem.Spec PyProof.Rows PySem.W
section
variable {prog : Program} {w : World} {A : Around} {E : Value→Shared→Prop} {s : Shared} {S Ia l : Addr} {R : Result→Shared→Prop}
def fG (h : Heap) (vs : List Value) (ys : List (Int × Int)) : Prop:=vs.length = ys.length∧∀ i v,vs[i]? = some v→∃ a o n t u,v = .ref a∧h.get? a = some o∧o.cls = .type "tuple" ∧ o.data = .seq #[.int (ys.getD i (0,0)).1 t,.int (ys.getD i (0,0)).2 u] n
theorem fG.keeps {h h' : Heap} {vs : List Value} {ys : List (Int × Int)} (p : fG h vs ys) (k : ∀ b o,(∃ xs n,o.data = .seq xs n)→h.get? b = some o→h'.get? b = some o) : fG h' vs ys :=
 ⟨p.1,fun i v e=>let ⟨a,o,n,t,u,e1,e2,c,d⟩:=p.2 i v e; ⟨a,o,n,t,u,e1,k a o ⟨_,_,d⟩ e2,c,d⟩⟩
def dJ (prog : Program) (w : World) (y : Int × Int) : Int:=tupleKeyHash (intKind prog w) [y.1,y.2]
theorem aAe {vs : List Value} {ys : List (Int × Int)} {hsN : Array Int} {tN : SetTable} (hh : A.handled = none) (hu : A.units + 1 < cLine) (hlS : l ≠ S) (hlI : l ≠ Ia) (hSI : S ≠ Ia) :
  ∀ (k i : Nat) (s : Shared) (hs : Array Int) (t : SetTable),vs.length - i = k→i ≤ vs.length→s.heap.IsListIter Ia l i→s.heap.IsList l vs.toArray→fG s.heap vs ys→fA s.heap S hs t →
   ((ys.drop i).map (dJ prog w)).foldlM (fun q h=>dX q.1 q.2 h) (hs,t) = some (hsN,tN) →
   (∀ h' tk,(∀ b o,b ≠ S→b ≠ Ia→s.heap.get? b = some o→h'.get? b = some o)→fA h' S hsN tN→R (.ok (.ret .none)) { s with heap:=h',toks:=tk }) →
   codeAny (model prog w) A (.builtin "set.update.loop" ⟨[.ref S,.ref Ia],[]⟩) R s:=by
 intro k
 induction k with
 | zero =>
  intro i s hs t hk hi hit hl hp hS hf hR
  have e : i = vs.length:=by lia
  refine codeAny_builtin PyProof.Rows.F.entry_set_update_loop ?_
  rw [Around.under_plainId PyProof.Rows.F.plain_set_update_loop _]
  show wpAny _ A.in1 (pyNext (.ref Ia) >>= _) _ _ s
  refine wpAny_bind (wpAny_pyNext_list_end (show A.in1.handled = none from hh) hit hl (by simp; lia) fun h' eb=>?_)
  show wpAny _ A.in1 (ret Value.none) _ _ _
  have hd : ys.drop i = []:=by rw [List.drop_eq_nil_iff]; have:=hp.1; lia
  rw [hd] at hf
  cases hf
  obtain ⟨o,es,ep,q1,q2⟩:=hS
  exact wpAny_pure (hR h' s.toks (fun b o hb hbI e=>eb b o hbI e) ⟨o,es,ep,eb S o hSI q1,q2⟩)
 | succ k ih =>
  intro i s hs t hk hi hit hl hp hS hf hR
  have hlt : i < vs.length:=by lia
  refine codeAny_builtin PyProof.Rows.F.entry_set_update_loop ?_
  rw [Around.under_plainId PyProof.Rows.F.plain_set_update_loop _]
  show wpAny _ A.in1 (pyNext (.ref Ia) >>= _) _ _ s
  have hv : vs[i]? = some vs[i]:=List.getElem?_eq_getElem hlt
  refine wpAny_bind (wpAny_pyNext_list_item hit hl (x:=vs[i]) (by simpa using hv) fun h1 hit1 sb1=>?_)
  obtain ⟨a,o,n,tx,ty,ea,eo,ec,ed⟩:=hp.2 i _ hv
  rw [ea]
  have neI : ∀ b ob,(∃ xs n,ob.data = .seq xs n)→s.heap.get? b = some ob→b ≠ Ia:=fun b ob ⟨xs,m,z⟩ e z'=>by
   obtain ⟨oi,e1,_,d1⟩:=hit
   rw [z',e1] at e; cases e
   rw [d1] at z; cases z
  have hp1 : fG h1 vs ys:=hp.keeps fun b ob hb e=>(sb1.2 b (neI b ob hb e)).trans e
  have hS1 : fA h1 S hs t:=by
   obtain ⟨oS,es,ep,q1,q2⟩:=hS
   exact ⟨oS,es,ep,(sb1.2 S hSI).trans q1,q2⟩
  have hl1 : h1.IsList l vs.toArray:=by
   obtain ⟨ol,q1,q2⟩:=hl
   exact ⟨ol,(sb1.2 l hlI).trans q1,q2⟩
  have eo1 : h1.get? a = some o:=(sb1.2 a (neI a o ⟨_,_,ed⟩ eo)).trans eo
  have neS : ∀ b ob,(∃ xs n,ob.data = .seq xs n)→h1.get? b = some ob→b ≠ S:=fun b ob ⟨xs,m,z⟩ e z'=>by
   obtain ⟨oS,es,ep,q1,_,_,q4,_⟩:=hS1
   rw [z',q1] at e; cases e
   rw [q4] at z; cases z
  have hi2 : i < ys.length:=by have:=hp.1; lia
  have hdr : ys.drop i = ys[i] :: ys.drop (i + 1):=List.drop_eq_getElem_cons hi2
  have hgy : ys.getD i (0,0) = ys[i]:=by rw [List.getD_eq_getElem?_getD,List.getElem?_eq_getElem hi2]; rfl
  rw [hdr,List.map_cons,List.foldlM_cons] at hf
  cases hst : dX hs t (dJ prog w ys[i]) with
  | none=>rw [hst] at hf; cases hf
  | some q =>
   obtain ⟨hs2,t2⟩:=q
   rw [hst] at hf
   have hf2 : ((ys.drop (i + 1)).map (dJ prog w)).foldlM (fun q h=>dX q.1 q.2 h) (hs2,t2) = some (hsN,tN):=hf
   show wpAny _ A.in1 (holding [Value.ref a] (setAdd S (.ref a)) >>= _) _ _ _
   refine wpAny_bind (wpAny_holding (aBb (s:={ s with heap:=h1 }) (by show A.units + 1 < cLine; exact hu) hS1 eo1 ec ed (neS a o ⟨_,_,ed⟩ eo1) (hs':=hs2) (t':=t2) (by rw [hgy]; exact hst) fun h2 tk sb2 S2=>?_))
   refine wpAny_pure ⟨plainId_quiet PyProof.Rows.F.plain_set_update_loop _,?_⟩
   refine ih (i + 1) { s with heap:=h2,toks:=tk } hs2 t2 (by lia) hlt ?_ ?_ (hp1.keeps fun b ob hb e=>(sb2.2 b (neS b ob hb e)).trans e) S2 hf2 fun h3 tk3 k3 S3=>?_
   ·obtain ⟨oi,q1,q2⟩:=hit1
    exact ⟨oi,(sb2.2 Ia (Ne.symm hSI)).trans q1,q2⟩
   ·obtain ⟨ol,q1,q2⟩:=hl1
    exact ⟨ol,(sb2.2 l hlS).trans q1,q2⟩
   ·exact hR h3 tk3 (fun b ob hb hbI e=>k3 b ob hb hbI ((sb2.2 b hb).trans ((sb1.2 b hbI).trans e))) S3
theorem aAf {vs : List Value} {ys : List (Int × Int)} {hsN : Bool→Array Int} {tN : Bool→SetTable} {Q : Value→Shared→Prop} (hh : A.handled = none) (hu : A.units + 8 < cLine) (hl : s.heap.IsList l vs.toArray) (hp : fG s.heap vs ys)
  (hrun : ∀ led,mB led (ys.map (dJ prog w)) = some (hsN led,tN led))
  (h : ∀ (led : Bool) (h' : Heap) (tk : Nat),fA h' s.heap.objs.size (hsN led) (tN led)→(∀ b o,b < s.heap.objs.size→s.heap.get? b = some o→h'.get? b = some o)→Q (.ref s.heap.objs.size) { s with heap:=h',toks:=tk }) :
  wpAny (model prog w) A (call (.type "set") [.ref l]) Q E s:=by
 obtain ⟨c,tl,hmro⟩:=PySem.F.called_set.mro
 have c1:=PySem.F.called_set.made
 have c2:=PySem.F.called_set.sub
 refine wpAny_call (codeAny_of_tree ?_)
 show wpAny _ _ (callAny (.type "set") _) _ _ _
 refine wpAny_pure ⟨Code.quiet_builtin _ (by decide +kernel),codeAny_builtin PySem.F.entry_type_call ?_⟩
 rw [Around.under_plain (weight_type_call_type "set" [.ref l] []) rfl]
 have c3:=PySem.F.called_set.notType
 have c4:=PySem.F.called_set.canCreate
 have c5:=PySem.F.typeCall_set_1 (.ref l)
 repeat (any_goals (first | assumption | wp_step))
 refine codeAny_mono (code_set_new_1 (.ref l) (E:=E) (Q₁:=fun obj s₁=>∃ led : Bool,obj = .ref s.heap.objs.size∧s₁ = { s with heap:=s.heap.push { cls:=.type "set",dict:=none,data:=.set #[] 0 (.fresh 0 0 led) } }) fun led=>⟨led,rfl,rfl⟩) fun r s₁ hr=>?_
 cases r with
 | error e=>exact hr
 | ok fl =>
  cases fl with
  | next=>exact hr.elim
  | brk=>exact hr.elim
  | cont=>exact hr.elim
  | ret obj =>
   obtain ⟨led,rfl,rfl⟩:=hr
   generalize hpu : s.heap.push { cls:=.type "set",dict:=none,data:=.set #[] 0 (.fresh 0 0 led) } = hS
   have hsz : hS.objs.size = s.heap.objs.size + 1:=by rw [← hpu,Heap.size_push]
   have gS : hS.get? s.heap.objs.size = some { cls:=.type "set",dict:=none,data:=.set #[] 0 (.fresh 0 0 led) }:=by rw [← hpu]; exact Heap.get?_push_size _ rfl
   have up : ∀ b o,s.heap.get? b = some o→hS.get? b = some o:=fun b o e=>by rw [← hpu]; exact Heap.get?_push_of_some _ e
   have hT : Shared.TypeIs { s with heap:=hS } (.ref s.heap.objs.size) "set" := ⟨_,gS,rfl⟩
   have c6:=PySem.F.called_set.init.lookup
   have c7:=PySem.F.called_set.init.bind (.ref s.heap.objs.size)
   repeat (any_goals (first | assumption | wp_step))
   refine codeAny_mono (codeAny_call_builtin (R:=wants (fun r s₂=>r = .none∧∃ h' tk,s₂ = { s with heap:=h',toks:=tk }∧fA h' s.heap.objs.size (hsN led) (tN led) ∧
     (∀ b o,b < s.heap.objs.size→s.heap.get? b = some o→h'.get? b = some o)) E) PySem.F.called_set.init.plain PySem.F.entry_set_init (check_set_init_1 hT ?_)) fun r₂ s₂ hr₂=>?_
   ·obtain ⟨ol,hol,hcl,nl,hdl⟩:=hl
    obtain ⟨ocls,odict,odata,oslots⟩:=ol
    simp only at hcl hdl
    subst hcl; subst hdl
    have hol':=up _ _ hol
    have c8:=PySem.F.sub_list_set
    have c9:=PySem.F.sub_list_frozenset
    have c10 : (Value.type "list" == Value.type "dict") = false:=by decide
    have hl1 : hS.IsList l vs.toArray:=⟨_,hol',rfl,nl,rfl⟩
    unfold Builtin.«set.__init__» noKeywords Builtin.Frozenset.updateFrom
    generalize hPI : pyIter = PI
    wp_walk
    subst hPI
    refine wpAny_pyIter_list hl1 ?_
    refine wpAny_bind (wpAny_runValue ?_)
    have hlt : l < s.heap.objs.size:=Heap.lt_size hol
    refine aAe (l:=l) (vs:=vs) (ys:=ys) (hsN:=hsN led) (tN:=tN led) (by simp [hh]) (by simp; lia) (Nat.ne_of_lt hlt) (by rw [hsz]; exact Nat.ne_of_lt (Nat.lt_succ_of_lt hlt)) (by rw [hsz]; exact Nat.ne_of_lt (Nat.lt_succ_self _))
     (vs.length - 0) 0 _ #[] (.fresh 0 0 led) rfl (Nat.zero_le _) ⟨_,Heap.get?_push_size _ rfl,rfl,rfl⟩ (hl1.push _) (hp.keeps fun b o _ e=>Heap.get?_push_of_some _ (up b o e)) ⟨_,#[],0,Heap.get?_push_of_some _ gS,rfl,⟨rfl,rfl⟩,rfl,by simp,rfl⟩ (hrun led) fun h' tk k S'=>?_
    show wpAny _ _ _ _ _ _
    refine wpAny_pure ?_
    show wpAny _ _ (ret Value.none) _ _ _
    refine wpAny_pure ⟨rfl,h',tk,rfl,S',fun b o hb e=>?_⟩
    exact k b o (Nat.ne_of_lt hb) (by rw [hsz]; exact Nat.ne_of_lt (Nat.lt_succ_of_lt hb)) (Heap.get?_push_of_some _ (up b o e))
   ·cases r₂ with
    | error e=>exact hr₂
    | ok fl₂ =>
     cases fl₂ with
     | next=>exact hr₂.elim
     | brk=>exact hr₂.elim
     | cont=>exact hr₂.elim
     | ret r =>
      obtain ⟨rfl,h',tk,rfl,S',k⟩:=hr₂
      repeat (any_goals (first | assumption | wp_step))
      exact h led h' tk S' k
end
end L2
namespace L2
open PySem
def xV (l : List Nat) : Nat:=l.foldl (fun a x=>a ||| (1 <<< x)) 0
theorem xW (l : List Nat) (a j : Nat) : (l.foldl (fun a x=>a ||| (1 <<< x)) a).testBit j = (a.testBit j || l.contains j):=by
 induction l generalizing a with
 | nil=>simp
 | cons x xs ih =>
  rw [List.foldl_cons,ih,Nat.testBit_or,List.contains_cons]
  have : (1 <<< x).testBit j = (j == x):=by
   rw [Nat.one_shiftLeft,Nat.testBit_two_pow]
   by_cases h : x = j
   ·simp [h]
   ·have h' : ¬ j = x:=fun e=>h e.symm
    simp [h,h']
  rw [this,Bool.or_assoc]
theorem kX {l : List Nat} {n j : Nat} (h : xV l = 2 ^ n - 1) (hj : j < n) : j∈l:=by
 have e:=xW l 0 j
 have h' : l.foldl (fun a x=>a ||| (1 <<< x)) 0 = 2 ^ n - 1:=h
 rw [h',Nat.testBit_two_pow_sub_one] at e
 simp [hj] at e
 exact e
def orb (M : Nat) : Nat→Nat→Nat
 | 0,i=>i
 | n + 1,i=>orb M n ((i * 5 + 1) % M)
theorem kK (M a : Nat) : ∀ b i,orb M (b + a) i = orb M a (orb M b i)
 | 0,i=>by rw [Nat.zero_add]; rfl
 | b + 1,i=>by
  rw [show b + 1 + a = (b + a) + 1 by lia]
  show orb M (b + a) _ = orb M a (orb M b _)
  exact kK M a b _
def orbL (M : Nat) : Nat→Nat→List Nat
 | 0,_=>[]
 | n + 1,i=>i :: orbL M n ((i * 5 + 1) % M)
theorem lE {M j : Nat} : ∀ {n i},j∈orbL M n i→∃ k,k < n∧orb M k i = j
 | 0,_,h=>by cases h
 | n + 1,i,h=>by
  rcases List.mem_cons.mp h with z | z
  ·exact ⟨0,by lia,z.symm⟩
  ·obtain ⟨k,a,b⟩:=lE z
   exact ⟨k + 1,by lia,b⟩
structure Rnd (M : Nat) : Prop where
 all : xV (orbL M M 0) = 2 ^ M - 1
 back : orb M M 0 = 0
theorem rnd8 : Rnd 8:=⟨by decide +kernel,by decide +kernel⟩
theorem aAN : Rnd 32:=⟨by decide +kernel,by decide +kernel⟩
theorem xX : Rnd 128:=⟨by decide +kernel,by decide +kernel⟩
theorem xY : Rnd 512:=⟨by decide +kernel,by decide +kernel⟩
theorem Rnd.cover {M : Nat} (R : Rnd M) {i j : Nat} (hi : i < M) (hj : j < M) : ∃ n,n < M∧orb M n i = j:=by
 obtain ⟨a,ha,ea⟩:=lE (kX R.all hi)
 obtain ⟨b,hb,eb⟩:=lE (kX R.all hj)
 by_cases h : a ≤ b
 ·refine ⟨b - a,by lia,?_⟩
  rw [← ea,← kK,show a + (b - a) = b by lia,eb]
 ·refine ⟨M + b - a,by lia,?_⟩
  rw [← ea,← kK,show a + (M + b - a) = M + b by lia,kK,R.back,eb]
def dE (mask : Nat) : Nat→Nat × Nat→Nat × Nat
 | 0,q=>q
 | n + 1,q=>dE mask n (SetTable.leap mask q.1 q.2)
theorem oV (m a : Nat) : ∀ b q,dE m (b + a) q = dE m a (dE m b q)
 | 0,q=>by rw [Nat.zero_add]; rfl
 | b + 1,q=>by
  rw [show b + 1 + a = (b + a) + 1 by lia]
  exact oV m a b _
theorem qO {m : Nat} : ∀ {n : Nat} {q : Nat × Nat},q.1 < m + 1→(dE m n q).1 < m + 1
 | 0,_,h=>h
 | n + 1,q,h=>qO (n:=n) (Nat.mod_lt _ (Nat.succ_pos _))
theorem tU {m : Nat} : ∀ {n : Nat} {q : Nat × Nat},(dE m n q).2 = q.2 / 32 ^ n
 | 0,_=>by simp [dE]
 | n + 1,q=>by
  show (dE m n _).2 = _
  rw [tU]
  show q.2 / 32 / 32 ^ n = _
  rw [Nat.div_div_eq_div_mul,Nat.pow_succ,Nat.mul_comm]
theorem oW {m : Nat} : ∀ {n i : Nat},dE m n (i,0) = (orb (m + 1) n i,0)
 | 0,_=>rfl
 | n + 1,i=>by
  show dE m n (SetTable.leap m i 0) = _
  unfold SetTable.leap
  simp only [Nat.zero_div,Nat.add_zero]
  exact oW
theorem kY {m : Nat} (R : Rnd (m + 1)) {i p j : Nat} (hi : i < m + 1) (hp : p < 2 ^ 64) (hj : j < m + 1) : ∃ n,n < m + 14∧(dE m n (i,p)).1 = j:=by
 have h1:=qO (m:=m) (n:=13) (q:=(i,p)) hi
 have h2 : (dE m 13 (i,p)).2 = 0:=by
  rw [tU]
  exact Nat.div_eq_of_lt (Nat.lt_of_lt_of_le hp (by decide))
 obtain ⟨n,hn,e⟩:=R.cover h1 hj
 refine ⟨13 + n,by lia,?_⟩
 rw [oV]
 have : dE m 13 (i,p) = ((dE m 13 (i,p)).1,0):=Prod.ext rfl h2
 rw [this,oW]
 exact e
theorem tV (h : Int) : SetTable.bits h < 2 ^ 64:=by
 unfold SetTable.bits
 have a:=Int.emod_nonneg h (show (2 ^ 64 : Int) ≠ 0 by decide)
 have b:=Int.emod_lt_of_pos h (show (0 : Int) < 2 ^ 64 by decide)
 lia
theorem aCE {M : Nat} {l : List Nat} (h : l.length < M) : ∃ j,j < M∧j ∉ l:=by
 have key : ∀ (a b : List Nat),a.Nodup→(∀ x∈a,x∈b)→a.length ≤ b.length:=by
  intro a
  induction a with
  | nil=>intro b _ _; exact Nat.zero_le _
  | cons x xs ih =>
   intro b hn hs
   obtain ⟨h1,h2⟩:=List.nodup_cons.mp hn
   have hx : x∈b:=hs x List.mem_cons_self
   have:=ih (b.erase x) h2 fun y hy=>(List.mem_erase_of_ne (fun (e : y = x)=>h1 (e ▸ hy))).mpr (hs y (List.mem_cons_of_mem _ hy))
   rw [List.length_erase_of_mem hx] at this
   have : 0 < b.length:=List.length_pos_of_mem hx
   rw [List.length_cons]
   lia
 apply Classical.byContradiction
 intro hno
 have:=key (List.range M) l List.nodup_range fun x hx=>Classical.byContradiction fun hx'=>hno ⟨x,List.mem_range.mp hx,hx'⟩
 rw [List.length_range] at this
 lia
def qP (mask i p : Nat) : SetTable.Probe:={ j:=i,more:=SetTable.runEnd mask i - i,i:=i,perturb:=p,dummy:=none }
theorem aB7 (mask i : Nat) : SetTable.runEnd mask i - i ≤ 9:=by unfold SetTable.runEnd; split <;> lia
theorem nI {t : SetTable} (hd : t.dummies = #[]) (j : Nat) : t.slot j = .empty∨∃ i,t.slot j = .live i∧t.place[i]? = some j:=by
 unfold SetTable.slot
 dsimp only
 split
 ·rename_i h
  exact .inr ⟨_,rfl,by simpa using h⟩
 ·left
  rw [hd]
  rfl
theorem vS {t : SetTable} (hd : t.dummies = #[]) {j : Nat} (h : j ∉ t.place.toList) : t.slot j = .empty:=by
 rcases nI hd j with e | ⟨i,_,e2⟩
 ·exact e
 ·exact absurd (by rw [← Array.getElem?_toList] at e2; exact List.mem_of_getElem? e2) h
section
variable {t : SetTable} {hashAt : Nat→Int} {h : Int}
theorem xZ (hd : t.dummies = #[]) (hh : ∀ i,i < t.place.size→hashAt i ≠ h) (i p : Nat) : ∀ (r : Nat) (j fuel : Nat),
  (∃ j',SetTable.probe.go t hashAt h (fuel + r + 1) { j:=j,more:=r,i:=i,perturb:=p,dummy:=none } = some (.empty j' none)) ∨
  SetTable.probe.go t hashAt h (fuel + r + 1) { j:=j,more:=r,i:=i,perturb:=p,dummy:=none } = SetTable.probe.go t hashAt h fuel (qP t.mask (SetTable.leap t.mask i p).1 (SetTable.leap t.mask i p).2)
 | 0,j,fuel=>by
  rcases nI hd j with e | ⟨k,e,e2⟩
  ·exact .inl ⟨j,by unfold SetTable.probe.go; rw [e]⟩
  ·right
   have hk : k < t.place.size:=(Array.getElem?_eq_some_iff.mp e2).1
   conv=>lhs; unfold SetTable.probe.go
   rw [e]
   simp only [beq_iff_eq,hh k hk,if_false]
   rfl
 | r + 1,j,fuel=>by
  rcases nI hd j with e | ⟨k,e,e2⟩
  ·exact .inl ⟨j,by rw [show fuel + (r + 1) + 1 = (fuel + r + 1) + 1 by lia]; unfold SetTable.probe.go; rw [e]⟩
  ·have hk : k < t.place.size:=(Array.getElem?_eq_some_iff.mp e2).1
   have st : SetTable.probe.go t hashAt h (fuel + (r + 1) + 1) { j:=j,more:=r + 1,i:=i,perturb:=p,dummy:=none } = SetTable.probe.go t hashAt h (fuel + r + 1) { j:=j + 1,more:=r,i:=i,perturb:=p,dummy:=none }:=by
    rw [show fuel + (r + 1) + 1 = (fuel + r + 1) + 1 by lia]
    conv=>lhs; unfold SetTable.probe.go
    rw [e]
    simp only [beq_iff_eq,hh k hk,if_false]
    rfl
   rw [st]
   exact xZ hd hh i p r (j + 1) fuel
theorem tW (hd : t.dummies = #[]) (hh : ∀ i,i < t.place.size→hashAt i ≠ h) : ∀ (m : Nat) (i p fuel : Nat),10 * (m + 1) ≤ fuel→t.slot (dE t.mask m (i,p)).1 = .empty →
  ∃ j',SetTable.probe.go t hashAt h fuel (qP t.mask i p) = some (.empty j' none)
 | 0,i,p,fuel,hf,e=>by
  obtain ⟨f,rfl⟩ : ∃ f,fuel = f + 1:=⟨fuel - 1,by lia⟩
  refine ⟨i,?_⟩
  have e' : t.slot i = .empty:=e
  unfold SetTable.probe.go qP
  dsimp only
  rw [e']
 | m + 1,i,p,fuel,hf,e=>by
  have hr:=aB7 t.mask i
  obtain ⟨f,hf'⟩ : ∃ f,fuel = f + (SetTable.runEnd t.mask i - i) + 1:=⟨fuel - (SetTable.runEnd t.mask i - i) - 1,by lia⟩
  rcases xZ (hashAt:=hashAt) (h:=h) hd hh i p (SetTable.runEnd t.mask i - i) i f with z | z
  ·rw [hf']; exact z
  ·rw [hf']
   show ∃ j',SetTable.probe.go t hashAt h _ { j:=i,more:=_,i:=i,perturb:=p,dummy:=none } = _
   rw [z]
   exact tW hd hh m _ _ f (by lia) e
theorem vT (R : Rnd (t.mask + 1)) (hd : t.dummies = #[]) (hs : t.place.size ≤ t.mask) (hh : ∀ i,i < t.place.size→hashAt i ≠ h) : ∃ j,t.probe hashAt h (t.probeStart h) = some (.empty j none):=by
 obtain ⟨j,hj,hn⟩:=aCE (M:=t.mask + 1) (l:=t.place.toList) (by simpa using Nat.lt_succ_of_le hs)
 obtain ⟨m,hm,e⟩:=kY R (Nat.mod_lt (SetTable.bits h) (Nat.succ_pos t.mask)) (tV h) hj
 refine tW hd hh m _ _ _ ?_ (by rw [e]; exact vS hd hn)
 unfold SetTable.turns
 lia
end
theorem yA {α β : Type} {f : α→Option β} : ∀ {l : List α},(∀ q∈l,(f q).isSome = true)→(l.filterMap f).length = l.length
 | [],_=>rfl
 | q :: l,h=>by
  have hq:=h q List.mem_cons_self
  cases e : f q with
  | none=>rw [e] at hq; cases hq
  | some b=>rw [List.filterMap_cons_some e,List.length_cons,List.length_cons,yA fun x hx=>h x (List.mem_cons_of_mem _ hx)]
theorem oX {mask : Nat} {owner : Array (Option Nat)} : ∀ (m fuel i p : Nat),m < fuel→owner.getD (dE mask m (i,p)).1 (some 0) = none→∃ j,SetTable.layClean.free mask owner fuel i p = some j∧owner.getD j (some 0) = none
 | m,0,_,_,h,_=>by lia
 | m,fuel + 1,i,p,h,e=>by
  unfold SetTable.layClean.free
  cases hf : (List.range (SetTable.runEnd mask i + 1 - i)).find? fun k=>(owner.getD (i + k) (some 0)).isNone with
  | some k =>
   refine ⟨i + k,rfl,?_⟩
   have:=List.find?_some hf
   simpa using this
  | none =>
   cases m with
   | zero =>
    have h0 : (0 : Nat)∈List.range (SetTable.runEnd mask i + 1 - i):=List.mem_range.mpr (by unfold SetTable.runEnd; split <;> lia)
    have:=List.find?_eq_none.mp hf 0 h0
    have e' : owner.getD i (some 0) = none:=e
    rw [Nat.add_zero,e'] at this
    exact absurd rfl this
   | succ m =>
    exact oX m fuel _ _ (by lia) e
structure Laid (M : Nat) (owner : Array (Option Nat)) (k : Nat) : Prop where
 size : owner.size = M
 cnt : owner.toList.countP Option.isSome = k
 lt : ∀ x,some x∈owner.toList→x < k
theorem vU {l : List (Option Nat)} {j : Nat} {x : Nat} (hj : l[j]? = some none) : (l.set j (some x)).countP Option.isSome = l.countP Option.isSome + 1:=by
 induction l generalizing j with
 | nil=>cases hj
 | cons a l ih =>
  cases j with
  | zero =>
   obtain rfl : a = none:=by simpa using hj
   simp
  | succ j =>
   rw [List.set_cons_succ,List.countP_cons,List.countP_cons,ih (by simpa using hj)]
   lia
theorem Laid.one {mask : Nat} {owner : Array (Option Nat)} {k : Nat} (L : Laid (mask + 1) owner k) (R : Rnd (mask + 1)) (hk : k < mask + 1) (h : Int) :
  ∃ j,SetTable.layClean.free mask owner (SetTable.turns mask) (SetTable.bits h % (mask + 1)) (SetTable.bits h) = some j∧Laid (mask + 1) (owner.setIfInBounds j (some k)) (k + 1):=by
 have hno : ∃ j,j < mask + 1∧owner.toList[j]? = some none:=by
  apply Classical.byContradiction
  intro hno
  have hall : ∀ x∈owner.toList,x.isSome = true:=by
   intro x hx
   obtain ⟨j,hj,e⟩:=List.mem_iff_getElem.mp hx
   cases x with
   | some _=>rfl
   | none =>
    refine absurd ⟨j,?_,?_⟩ hno
    ·rw [← L.size]; simpa using hj
    ·rw [List.getElem?_eq_getElem hj,e]
  have:=List.countP_eq_length.mpr hall
  rw [L.cnt,Array.length_toList,L.size] at this
  lia
 obtain ⟨j0,hj0,e0⟩:=hno
 obtain ⟨m,hm,em⟩:=kY R (Nat.mod_lt (SetTable.bits h) (Nat.succ_pos mask)) (tV h) hj0
 obtain ⟨j,ej,en⟩:=oX (mask:=mask) (owner:=owner) m (SetTable.turns mask) (SetTable.bits h % (mask + 1)) (SetTable.bits h) (by unfold SetTable.turns; lia)
  (by rw [em,Array.getD_eq_getD_getElem?,← Array.getElem?_toList,e0]; rfl)
 refine ⟨j,ej,?_⟩
 have hjn : owner.toList[j]? = some none:=by
  rw [Array.getD_eq_getD_getElem?,← Array.getElem?_toList] at en
  cases hq : owner.toList[j]? with
  | none=>rw [hq] at en; cases en
  | some v=>rw [hq] at en; rw [show v = none from en]
 have hset : (owner.setIfInBounds j (some k)).toList = owner.toList.set j (some k):=by simp
 refine ⟨by simp [L.size],by rw [hset,vU hjn,L.cnt],fun x hx=>?_⟩
 rw [hset] at hx
 rcases List.mem_or_eq_of_mem_set hx with z | z
 ·exact Nat.lt_succ_of_lt (L.lt x z)
 ·cases z; exact Nat.lt_succ_self _
theorem tX {mask : Nat} (R : Rnd (mask + 1)) : ∀ (l : List Int) (owner : Array (Option Nat)) (k : Nat),Laid (mask + 1) owner k→k + l.length ≤ mask →
  ∃ owner',l.foldl (fun acc h=>do
   let (owner,k) ← acc
   let j ← SetTable.layClean.free mask owner (SetTable.turns mask) (SetTable.bits h % (mask + 1)) (SetTable.bits h)
   pure (owner.setIfInBounds j (some k),k + 1)) (some (owner,k)) = some (owner',k + l.length)∧Laid (mask + 1) owner' (k + l.length)
 | [],owner,k,L,_=>⟨owner,rfl,L⟩
 | h :: l,owner,k,L,hl=>by
  rw [List.length_cons] at hl
  obtain ⟨j,ej,L'⟩:=L.one R (by lia) h
  obtain ⟨o',e,L2⟩:=tX R l _ _ L' (by lia)
  refine ⟨o',?_,by rw [List.length_cons,show k + (l.length + 1) = k + 1 + l.length by lia]; exact L2⟩
  rw [List.foldl_cons]
  have : (do
   let (owner,k) ← some (owner,k)
   let j ← SetTable.layClean.free mask owner (SetTable.turns mask) (SetTable.bits h % (mask + 1)) (SetTable.bits h)
   pure (owner.setIfInBounds j (some k),k + 1) : Option (Array (Option Nat) × Nat)) = some (owner.setIfInBounds j (some k),k + 1):=by
   show (SetTable.layClean.free mask owner (SetTable.turns mask) (SetTable.bits h % (mask + 1)) (SetTable.bits h)).bind _ = _
   rw [ej]; rfl
  rw [this,e,List.length_cons,show k + (l.length + 1) = k + 1 + l.length by lia]
theorem sP {mask : Nat} (R : Rnd (mask + 1)) (hs : Array Int) (h : hs.size ≤ mask) : ∃ owner,SetTable.layClean mask hs = some owner∧Laid (mask + 1) owner hs.size:=by
 have L0 : Laid (mask + 1) (Array.replicate (mask + 1) none) 0:=⟨by simp,by simp [List.countP_replicate],fun x hx=>by simp at hx⟩
 obtain ⟨o,e,L⟩:=tX R hs.toList _ 0 L0 (by simpa using h)
 refine ⟨o,?_,by simpa using L⟩
 unfold SetTable.layClean
 rw [← Array.foldl_toList]
 have e':=congrArg (Option.map (·.1)) e
 exact e'
theorem vV {M n : Nat} {owner : Array (Option Nat)} (L : Laid M owner n) :
  ((List.range M).filterMap fun j=>(owner.getD j none).map (j,·)).length = n∧∀ q∈(List.range M).filterMap (fun j=>(owner.getD j none).map (j,·)),q.2 < n:=by
 constructor
 ·rw [← L.cnt]
  have e : owner.toList = (List.range M).map fun j=>owner.getD j none:=by
   apply List.ext_getElem
   ·simp [L.size]
   ·intro i h1 h2
    simp only [List.getElem_map,List.getElem_range,Array.getElem_toList]
    rw [Array.getD_eq_getD_getElem?,Array.getElem?_eq_getElem (by simpa using h1)]
    rfl
  conv=>rhs; rw [e]
  rw [List.countP_map]
  generalize List.range M = l
  induction l with
  | nil=>rfl
  | cons a l ih =>
   rw [List.countP_cons,← ih]
   cases hq : owner.getD a none with
   | none=>rw [List.filterMap_cons_none (by rw [hq]; rfl),show (Option.isSome ∘ fun j=>owner.getD j none) a = false by show (owner.getD a none).isSome = false; rw [hq]; rfl]; simp
   | some x=>rw [List.filterMap_cons_some (b:=(a,x)) (by rw [hq]; rfl),show (Option.isSome ∘ fun j=>owner.getD j none) a = true by show (owner.getD a none).isSome = true; rw [hq]; rfl]; simp
 ·intro q hq
  obtain ⟨j,_,e⟩:=List.mem_filterMap.mp hq
  cases hx : owner.getD j none with
  | none=>rw [hx] at e; cases e
  | some x =>
   rw [hx] at e
   cases e
   refine L.lt x ?_
   rw [Array.getD_eq_getD_getElem?,← Array.getElem?_toList] at hx
   cases hy : owner.toList[j]? with
   | none=>rw [hy] at hx; cases hx
   | some v=>rw [hy] at hx; obtain rfl : v = some x:=hx; exact List.mem_of_getElem? hy
structure mC (hs : Array Int) (t : SetTable) : Prop where
 dm : t.dummies = #[]
 sz : t.place.size = hs.size
 ms : (t.mask = 7∧hs.size ≤ 4)∨(t.mask = 31∧hs.size ≤ 18)∨(t.mask = 127∧hs.size ≤ 76)∨(t.mask = 511∧hs.size ≤ 306)
theorem mC.rnd {hs : Array Int} {t : SetTable} (T : mC hs t) : Rnd (t.mask + 1):=by
 rcases T.ms with ⟨e,_⟩ | ⟨e,_⟩ | ⟨e,_⟩ | ⟨e,_⟩ <;> rw [e]
 ·exact rnd8
 ·exact aAN
 ·exact xX
 ·exact xY
theorem jF {α : Type} (xs : Array α) (p : Nat) (x : α) : (SetTable.insertAt xs p x).size = xs.size + 1:=by
 unfold SetTable.insertAt
 simp
 lia
theorem jS {α : Type} {xs : Array α} {p : Nat} {x y : α} (h : y∈(SetTable.insertAt xs p x).toList) : y = x∨y∈xs.toList:=by
 unfold SetTable.insertAt at h
 rw [Array.toList_append,Array.toList_push,Array.toList_extract,Array.toList_extract] at h
 rcases List.mem_append.mp h with z | z
 ·rcases List.mem_append.mp z with z | z
  ·right
   rw [List.extract_eq_drop_take] at z
   exact List.mem_of_mem_drop (List.mem_of_mem_take z)
  ·left; simpa using z
 ·right
  rw [List.extract_eq_drop_take] at z
  exact List.mem_of_mem_drop (List.mem_of_mem_take z)
theorem vW {hs : Array Int} {t : SetTable} {h : Int} (T : mC hs t) (hn : h ∉ hs.toList) (hl : hs.size < 300) : ∃ hs' t',dX hs t h = some (hs',t')∧mC hs' t'∧hs'.size = hs.size + 1∧∀ x∈hs'.toList,x = h∨x∈hs.toList:=by
 have hle : t.place.size ≤ t.mask:=by rw [T.sz]; rcases T.ms with ⟨e,z⟩ | ⟨e,z⟩ | ⟨e,z⟩ | ⟨e,z⟩ <;> lia
 have hh : ∀ i,i < t.place.size→hAt hs i ≠ h:=by
  intro i hi e
  rw [T.sz] at hi
  unfold hAt at e
  rw [Array.getElem?_eq_getElem hi] at e
  exact hn (by rw [← e]; simp)
 obtain ⟨j,hp⟩:=vT (hashAt:=hAt hs) (h:=h) T.rnd T.dm hle hh
 have hg : t.gaveWay = false:=by
  unfold SetTable.gaveWay
  rcases T.ms with ⟨e,_⟩ | ⟨e,_⟩ | ⟨e,_⟩ | ⟨e,_⟩ <;> rw [e] <;> rfl
 have q1 : (t.put j).1.place = SetTable.insertAt t.place (SetTable.below t.place j) j:=rfl
 have q2 : (t.put j).1.dummies = #[]:=by
  show (if SetTable.has t.dummies j = true then _ else t.dummies) = _
  rw [T.dm]
  rfl
 have q3 : (t.put j).1.mask = t.mask:=rfl
 have s1 : (SetTable.insertAt hs (t.put j).2 h).size = hs.size + 1:=jF _ _ _
 have s2 : (t.put j).1.place.size = hs.size + 1:=by rw [q1,jF,T.sz]
 have fl : (t.put j).1.fill = hs.size + 1:=by unfold SetTable.fill; rw [s2,q2]; rfl
 have fit : (t.put j).1.fits (SetTable.insertAt hs (t.put j).2 h).size = true:=by
  unfold SetTable.fits
  rw [s1,s2,fl,q3]
  simp
  rcases T.ms with ⟨e,z⟩ | ⟨e,z⟩ | ⟨e,z⟩ | ⟨e,z⟩ <;> lia
 unfold dX
 rw [hg,if_neg Bool.false_ne_true,hp]
 dsimp only
 rw [if_pos (by rw [fit,s1]; simp; lia)]
 by_cases hf : (t.put j).1.tooFull = true
 ·rw [if_pos hf]
  have hf':=hf
  unfold SetTable.tooFull at hf'
  rw [fl,q3] at hf'
  have hf2 : (hs.size + 1) * 5 ≥ t.mask * 3:=by simpa using hf'
  have gr : SetTable.grown (hs.size + 1) = (hs.size + 1) * 4:=by unfold SetTable.grown; rw [if_neg (by lia)]
  obtain ⟨m2,em2,hm2,R2⟩ : ∃ m2,SetTable.sizeAbove (SetTable.grown (hs.size + 1)) = m2 + 1∧((m2 = 31∧hs.size + 1 ≤ 18)∨(m2 = 127∧hs.size + 1 ≤ 76)∨(m2 = 511∧hs.size + 1 ≤ 306))∧Rnd (m2 + 1):=by
   rw [gr]
   rcases T.ms with ⟨e,z⟩ | ⟨e,z⟩ | ⟨e,z⟩ | ⟨e,z⟩
   ·have : hs.size = 4:=by lia
    exact ⟨31,by rw [this]; rfl,.inl ⟨rfl,by lia⟩,aAN⟩
   ·have : hs.size = 18:=by lia
    exact ⟨127,by rw [this]; rfl,.inr (.inl ⟨rfl,by lia⟩),xX⟩
   ·have : hs.size = 76:=by lia
    exact ⟨511,by rw [this]; rfl,.inr (.inr ⟨rfl,by lia⟩),xY⟩
   ·lia
  have hm3 : (SetTable.insertAt hs (t.put j).2 h).size ≤ m2:=by rw [s1]; rcases hm2 with ⟨e,z⟩ | ⟨e,z⟩ | ⟨e,z⟩ <;> lia
  obtain ⟨owner,eo,L⟩:=sP R2 (SetTable.insertAt hs (t.put j).2 h) hm3
  obtain ⟨lv1,lv2⟩:=vV L
  rw [s1] at lv1 lv2
  generalize hlive : (List.range (m2 + 1)).filterMap (fun j=>(owner.getD j none).map (j,·)) = live at lv1 lv2
  have er : (t.put j).1.relaid (SetTable.insertAt hs (t.put j).2 h) (SetTable.grown (hs.size + 1)) = some ({ mask:=m2,place:=(live.map (·.1)).toArray,dummies:=#[],finger:=(t.put j).1.finger,led:=(t.put j).1.led,moves:=(t.put j).1.movedTo m2,plain:=(t.put j).1.plain },(live.map (·.2)).toArray):=by
   unfold SetTable.relaid SetTable.laid
   rw [em2]
   simp only [Nat.add_sub_cancel]
   rw [eo]
   show some _ = some _
   rw [← hlive]
  rw [er]
  dsimp only
  have hsz2 : ((live.map (·.2)).toArray.filterMap ((SetTable.insertAt hs (t.put j).2 h)[·]?)).size = hs.size + 1:=by
   rw [← Array.length_toList,Array.toList_filterMap]
   show ((live.map (·.2)).filterMap _).length = _
   rw [← lv1,List.filterMap_map]
   refine yA fun q hq=>?_
   show ((SetTable.insertAt hs (t.put j).2 h)[q.2]?).isSome = true
   rw [Array.getElem?_eq_getElem (by rw [s1]; exact lv2 q hq)]
   rfl
  have emf : ∀ x,({ mask:=m2,place:=(live.map (·.1)).toArray,dummies:=#[],finger:=(t.put j).1.finger,led:=(t.put j).1.led,moves:=(t.put j).1.movedTo m2,plain:=(t.put j).1.plain } : SetTable).fits x = (decide (hs.size + 1 = x) && decide (hs.size + 1 ≤ m2)):=by
   intro x
   unfold SetTable.fits SetTable.fill
   simp [lv1]
   rw [Bool.eq_iff_iff]; simp
  rw [if_pos (by
   rw [hsz2,s1,emf,em2]
   have : hs.size + 1 ≤ m2:=by rw [← s1]; exact hm3
   simp [this]
   rcases hm2 with ⟨e,z⟩ | ⟨e,z⟩ | ⟨e,z⟩ <;> lia)]
  refine ⟨_,_,rfl,⟨rfl,?_,?_⟩,hsz2,fun x hx=>?_⟩
  ·rw [hsz2]; simp [lv1]
  ·rw [hsz2]; exact .inr hm2
  ·rw [Array.toList_filterMap] at hx
   obtain ⟨k,_,ek⟩:=List.mem_filterMap.mp hx
   refine jS (p:=(t.put j).2) ?_
   rw [← Array.getElem?_toList] at ek
   exact List.mem_of_getElem? ek
 ·rw [if_neg hf]
  refine ⟨_,_,rfl,⟨q2,by rw [s2,s1],?_⟩,s1,fun x hx=>jS hx⟩
  have hf' : ¬ (hs.size + 1) * 5 ≥ t.mask * 3:=by
   intro z
   refine hf ?_
   unfold SetTable.tooFull
   rw [fl,q3]
   simpa using z
  rw [s1,q3]
  rcases T.ms with ⟨e,z⟩ | ⟨e,z⟩ | ⟨e,z⟩ | ⟨e,z⟩ <;> lia
theorem kZ : ∀ (l : List Int) (hs : Array Int) (t : SetTable),mC hs t→(∀ x∈l,x ∉ hs.toList)→l.Nodup→hs.size + l.length ≤ 300→∃ hs' t',l.foldlM (fun q h=>dX q.1 q.2 h) (hs,t) = some (hs',t')∧hs'.size = hs.size + l.length
 | [],hs,t,_,_,_,_=>⟨hs,t,rfl,rfl⟩
 | h :: l,hs,t,T,hn,nd,hl=>by
  rw [List.length_cons] at hl
  obtain ⟨n1,n2⟩:=List.nodup_cons.mp nd
  obtain ⟨hs1,t1,e1,T1,z1,m1⟩:=vW T (hn h List.mem_cons_self) (by lia)
  obtain ⟨hs2,t2,e2,z2⟩:=kZ l hs1 t1 T1 (fun x hx hy=>by
   rcases m1 x hy with e | e
   ·exact n1 (e ▸ hx)
   ·exact hn x (List.mem_cons_of_mem _ hx) e) n2 (by lia)
  refine ⟨hs2,t2,?_,by rw [z2,z1,List.length_cons]; lia⟩
  rw [List.foldlM_cons]
  show (dX hs t h).bind _ = _
  rw [e1]
  exact e2
theorem yB (led : Bool) {l : List Int} (nd : l.Nodup) (hl : l.length ≤ 300) : ∃ hs t,mB led l = some (hs,t)∧hs.size = l.length:=by
 obtain ⟨hs,t,e,z⟩:=kZ l #[] (SetTable.fresh 0 0 led) ⟨rfl,rfl,.inl ⟨rfl,by decide⟩⟩ (fun x _ h=>by simp at h) nd (by simpa using hl)
 exact ⟨hs,t,e,by simpa using z⟩
end L2
namespace L2
open PySem PySem.Spec PyProof.Rows PySem.W
def pP : List Nat→Nat→Bool
 | [],_=>true
 | x :: xs,acc=>bif Nat.testBit acc x then false else pP xs (acc ||| (1 <<< x))
theorem qQ : ∀ (l : List Nat) (acc : Nat),pP l acc = true→l.Nodup∧∀ x∈l,acc.testBit x = false
 | [],_,_=>⟨List.nodup_nil,fun x h=>(nomatch h)⟩
 | x :: xs,acc,h=>by
  unfold pP at h
  cases hb : acc.testBit x with
  | true=>rw [hb] at h; cases h
  | false =>
   rw [hb] at h
   obtain ⟨nd,hx⟩:=qQ xs _ h
   have hor : ∀ y∈xs,acc.testBit y = false∧y ≠ x:=by
    intro y hy
    have:=hx y hy
    rw [Nat.testBit_or,Nat.one_shiftLeft,Nat.testBit_two_pow] at this
    rw [Bool.or_eq_false_iff] at this
    exact ⟨this.1,fun e=>by have:=this.2; simp [e] at this⟩
   refine ⟨List.nodup_cons.mpr ⟨fun hm=>(hor x hm).2 rfl,nd⟩,fun y hy=>?_⟩
   rcases List.mem_cons.mp hy with z | z
   ·rw [z]; exact hb
   ·exact (hor y z).1
def lF : List (Int × Int):=(List.range 32).flatMap fun a=>(List.range 32).map fun b=>(Int.ofNat a,Int.ofNat b)
def aAO (h : Int) : Nat:=(h % 6554).toNat
theorem yC (P : Program) (w : World) : pP (lF.map fun y=>aAO (dJ P w y)) 0 = true:=by kernel_rfl
theorem tY {y : Int × Int} (h1 : 0 ≤ y.1∧y.1 < 32) (h2 : 0 ≤ y.2∧y.2 < 32) : y∈lF:=by
 unfold lF
 refine List.mem_flatMap.mpr ⟨y.1.toNat,List.mem_range.mpr (by lia),List.mem_map.mpr ⟨y.2.toNat,List.mem_range.mpr (by lia),Prod.ext ?_ ?_⟩⟩
 ·show ((y.1.toNat : Nat) : Int) = y.1; lia
 ·show ((y.2.toNat : Nat) : Int) = y.2; lia
theorem jG {α β : Type} {f : α→β} : ∀ {l : List α},(l.map f).Nodup→∀ x∈l,∀ y∈l,f x = f y→x = y
 | [],_,_,h,_,_,_=>by cases h
 | a :: l,h,x,hx,y,hy,e=>by
  rw [List.map_cons] at h
  obtain ⟨h1,h2⟩:=List.nodup_cons.mp h
  rcases List.mem_cons.mp hx with z | z <;> rcases List.mem_cons.mp hy with z' | z'
  ·rw [z,z']
  ·exact absurd (List.mem_map.mpr ⟨y,z',by rw [← e,z]⟩) h1
  ·exact absurd (List.mem_map.mpr ⟨x,z,by rw [e,z']⟩) h1
  ·exact jG h2 x z y z' e
theorem qR {P : Program} {w : World} {x y : Int × Int} (hx : (0 ≤ x.1∧x.1 < 32)∧(0 ≤ x.2∧x.2 < 32)) (hy : (0 ≤ y.1∧y.1 < 32)∧(0 ≤ y.2∧y.2 < 32)) (e : dJ P w x = dJ P w y) : x = y :=
 jG (qQ _ _ (yC P w)).1 x (tY hx.1 hx.2) y (tY hy.1 hy.2) (congrArg aAO e)
theorem jT {α β : Type} {f : α→β} : ∀ {l : List α},l.Nodup→(∀ x∈l,∀ y∈l,f x = f y→x = y)→(l.map f).Nodup
 | [],_,_=>List.nodup_nil
 | a :: l,h,hf=>by
  obtain ⟨h1,h2⟩:=List.nodup_cons.mp h
  rw [List.map_cons]
  refine List.nodup_cons.mpr ⟨fun z=>?_,jT h2 fun x hx y hy=>hf x (List.mem_cons_of_mem _ hx) y (List.mem_cons_of_mem _ hy)⟩
  obtain ⟨y,hy,e⟩:=List.mem_map.mp z
  have:=hf y (List.mem_cons_of_mem _ hy) a List.mem_cons_self e
  exact h1 (this ▸ hy)
theorem sQ {P : Program} {w : World} (led : Bool) {ys : List (Int × Int)} (nd : ys.Nodup) (hr : ∀ y∈ys,(0 ≤ y.1∧y.1 < 32)∧(0 ≤ y.2∧y.2 < 32)) (hl : ys.length ≤ 300) :
  ∃ hs t,mB led (ys.map (dJ P w)) = some (hs,t)∧hs.size = ys.length:=by
 obtain ⟨hs,t,e,z⟩:=yB led (jT nd fun x hx y hy e=>qR (P:=P) (w:=w) (hr x hx) (hr y hy) e) (by rw [List.length_map]; exact hl)
 exact ⟨hs,t,e,by rw [z,List.length_map]⟩
end L2
namespace L2
open PySem PySem.Spec PyProof.Rows PySem.W
theorem tZ : ∀ {as : List Addr} {its : List Value},Vals (as.map V.ref) its→its = as.map Value.ref
 | [],_,r=>by cases r; rfl
 | a :: as,_,r=>by
  cases r with
  | cons r rr =>
   obtain rfl:=(show _ = Value.ref a from r)
   rw [tZ rr]; rfl
def setO (D : Addr) (n : Nat) : HO:=.ext fun h=>∃ hs t,fA h D hs t∧hs.size = n
section
variable {X : Cx}
def aCF (K : PySem.W.Frag) : List V→Hp→VK→Prop:=fun xs H Q=>∃ (l : Addr) (as : List Addr) (ys : List (Int × Int)),xs = [.ref l]∧SqL K H l (as.map V.ref)∧as.length = ys.length ∧
 (∀ i,i < ys.length→xT K H (as.getD i 0) (ys.getD i (0,0)))∧ys.Nodup∧(∀ y∈ys,(0 ≤ y.1∧y.1 < 32)∧(0 ≤ y.2∧y.2 < 32))∧ys.length ≤ 300∧∀ D,H D = none→Q (.ref D) (upd H D (setO D ys.length))
theorem yD (hc : X.calm = true) (hu : X.A.units + 8 < cLine) : cV X (.type "set") (aCF X.K):=by
 intro pins s σ H xs us Q I r h
 obtain ⟨l,as,ys,rfl,hl,hlen,hp,nd,rg,h3,q⟩:=h
 obtain ⟨u1,rfl,r1⟩:=r.one
 obtain rfl : u1 = Value.ref l:=r1
 obtain ⟨its,rv,pl,hz⟩:=I.list hl
 have e:=tZ rv
 subst e
 have hpi : fG s.heap (as.map Value.ref) ys:=⟨by rw [List.length_map,hlen],fun i v hv=>by
  rw [List.getElem?_map] at hv
  cases ea : as[i]? with
  | none=>rw [ea] at hv; cases hv
  | some a =>
   rw [ea] at hv
   obtain rfl : Value.ref a = v:=Option.some.inj hv
   have hi : i < as.length:=(List.getElem?_eq_some_iff.mp ea).1
   obtain ⟨o,n,t,u,e1,c,d⟩:=vQ I (hp i (by lia))
   have eg : as.getD i 0 = a:=by rw [List.getD_eq_getElem?_getD,ea]; rfl
   rw [eg] at e1
   exact ⟨a,o,n,t,u,rfl,e1,c,d⟩⟩
 have hrun : ∀ led,∃ q : Array Int × SetTable,mB led (ys.map (dJ X.prog X.w)) = some q∧q.1.size = ys.length:=fun led =>
  let ⟨hs,t,e,z⟩:=sQ (P:=X.prog) (w:=X.w) led nd rg h3; ⟨(hs,t),e,z⟩
 refine aAf (I.ok.hd hc) hu pl.isList hpi (hsN:=fun led=>(hrun led).choose.1) (tN:=fun led=>(hrun led).choose.2) (fun led=>(hrun led).choose_spec.1) fun led h' tk S' k=>?_
 refine ⟨.ref s.heap.objs.size,_,I.laidN (t':=tk) (o:=setO s.heap.objs.size ys.length) (fun b u e=>k b u (Heap.lt_size e) e) (Heap.get?_none_of_le (Nat.le_refl _)) ⟨⟨_,_,S',(hrun led).choose_spec.2⟩,?_,fun h1 h2 ⟨hs,t,⟨o,es,ep,q1,q2⟩,z⟩ kk=>⟨hs,t,⟨o,es,ep,kk o q1,q2⟩,z⟩⟩,rfl,q _ I.fresh⟩
 obtain ⟨o,_,_,q1,_⟩:=S'
 exact ⟨o,q1⟩
theorem sU : cV X (.builtin "len") (fun xs H Q=>∃ D n,xs = [.ref D]∧H D = some (setO D n)∧n ≤ 4096∧Q (.int n) H):=by
 intro pins s σ H xs us Q I r h
 obtain ⟨D,n,rfl,e,hn,q⟩:=h
 obtain ⟨u1,rfl,r1⟩:=r.one
 obtain rfl : u1 = Value.ref D:=r1
 obtain ⟨⟨hs,t,⟨o,es,ep,q1,q2,q3,q4,q5,q6⟩,z⟩,_⟩:=(show bX X.prog X.w H s.heap D (setO D n) from I.hok D _ e)
 have hsz : es.size = n:=by rw [← z,← q5,Array.size_map]
 exact call_len_set q1 ⟨q2,q3.1,q3.2⟩ q4 q6 (by rw [hsz]; lia) ⟨.int n,H,I.tok _,⟨_,by rw [hsz]⟩,q⟩
theorem sV : cV X (.type "range") (fun xs H Q=>∃ n,xs = [.int n]∧∀ p,H p = none→Q (.ref p) (upd H p (.rng 0 n))):=by
 intro pins s σ H xs us Q I r h
 obtain ⟨n,rfl,q⟩:=h
 obtain ⟨u1,rfl,t,rfl⟩:=r.one
 refine call_range_1 ⟨.ref s.heap.objs.size,_,I.laid (o:=.rng 0 n) (fun b u e=>Heap.get?_push_of_some _ e) (Nat.le_refl _) ⟨_,_,_,Heap.get?_push_size _ rfl⟩,rfl,q _ I.fresh⟩
theorem vX (hc : X.calm = true) : cV X (.type "list") (fun xs H Q=>∃ (p : Addr) (n : Nat),xs = [.ref p]∧H p = some (.rng 0 n)∧n ≤ 1000∧∀ l,H l = none→Q (.ref l) (upd H l (.lst ((List.range n).map fun (i : Nat)=>V.int i)))):=by
 intro pins s σ H xs us Q I r h
 obtain ⟨p,n,rfl,e,hn,q⟩:=h
 obtain ⟨u1,rfl,r1⟩:=r.one
 obtain rfl : u1 = Value.ref p:=r1
 obtain ⟨t,u,v,hp⟩:=(show bX X.prog X.w H s.heap p (.rng 0 n) from I.hok p _ e)
 refine call_list_range (n:=n) (I.ok.hd hc) (show IsRange s.heap p 0 n 1 t u v from hp) (small_one (by lia) (by lia) (by lia) (by lia)) (by rw [rangeSize_one]; split <;> lia) (by lia) fun h' tk acc c k g it=>?_
 obtain ⟨i1,i2⟩:=it
 refine ⟨.ref s.heap.objs.size,_,I.laidN (t':=tk) (o:=.lst ((List.range n).map fun (i : Nat)=>V.int i)) (fun b u e=>k b u e) (Heap.get?_none_of_le (Nat.le_refl _)) ⟨?_,acc.toList,c,?_,by simpa using g⟩,rfl,q _ I.fresh⟩
 ·rw [List.length_map,List.length_range]
  exact Nat.le_trans hn (by decide)
 ·have go : ∀ (m : Nat) (l : List Value),l.length = m→(∀ (j : Nat) v,l[j]? = some v→∃ t,v = Value.int (0 + (j : Int) * 1) t)→Vals ((List.range m).map fun (i : Nat)=>V.int i) l:=by
   intro m
   induction m with
   | zero=>intro l hl _; cases l with
    | nil=>exact .nil
    | cons _ _=>cases hl
   | succ m ih =>
    intro l hl hv
    have hne : l ≠ []:=by intro z; rw [z] at hl; cases hl
    have el : l = l.dropLast ++ [l.getLast hne]:=(List.dropLast_concat_getLast hne).symm
    rw [List.range_succ,List.map_append,el]
    have hdl : l.dropLast.length = m:=by rw [List.length_dropLast,hl]; rfl
    refine Vals.append (ih _ hdl fun j v hj=>hv j v ?_) (.cons ?_ .nil)
    ·rw [el]
     have hj' : j < l.dropLast.length:=(List.getElem?_eq_some_iff.mp hj).1
     rw [List.getElem?_append_left hj']
     exact hj
    ·obtain ⟨t,ht⟩:=hv m (l.getLast hne) (by
      rw [List.getLast_eq_getElem,List.getElem?_eq_getElem (by lia : m < l.length)]
      simp [hl])
     exact ⟨t,by rw [ht]; simp⟩
  exact go n acc.toList (by simpa using i1) fun j v hj=>i2 j v (by simpa using hj)
end
end L2
namespace L2
open PySem PySem.Spec PyProof.Rows PySem.W
def dL (e : V→V→Bool) : List V→List V→Bool
 | [],[]=>true
 | x :: xs,y :: ys=>e x y && dL e xs ys
 | _,_=>false
theorem eO {e : V→V→Bool} : ∀ {xs ys : List V},xs.length = ys.length→dL e xs ys = (List.range xs.length).all fun i=>e (xs.getD i .non) (ys.getD i .non)
 | [],[],_=>rfl
 | x :: xs,y :: ys,h=>by
  have h' : xs.length = ys.length:=by simpa using h
  rw [dL,eO h',List.length_cons,List.range_succ_eq_map,List.all_cons,List.all_map]
  rfl
 | [],_ :: _,h=>by simp at h
 | _ :: _,[],h=>by simp at h
theorem jU {e : V→V→Bool} : ∀ {xs ys : List V},xs.length ≠ ys.length→dL e xs ys = false
 | [],[],h=>absurd rfl h
 | x :: xs,y :: ys,h=>by
  have h' : xs.length ≠ ys.length:=fun z=>h (by simp [z])
  rw [dL,jU h',Bool.and_false]
 | [],_ :: _,_=>rfl
 | _ :: _,[],_=>rfl
section
variable {X : Cx}
def ElEq (X : Cx) (H : Hp) (e : V→V→Bool) (x y : V) : Prop:=∀ (pins : List (Addr × Obj)) (s : Shared) (σ : St) (A : Around) (u v : Value),Inv X pins σ H s→A.units + 1 < cLine→RelV x u→RelV y v→SeqAt.EqAt A s u v (e x y)
theorem yE {H : Hp} {x y : V} (fx : dD x = true) (fy : dD y = true) : ElEq X H eqV x y:=fun _ _ _ _ _ _ _ _ rx ry=>lV rx ry fx fy
def rLEq (X : Cx) (neg : Bool) (e : V→V→Bool) : R2:=fun x y H Q=>∃ p q xs ys,x = .ref p∧y = .ref q∧SqL X.K H p xs∧SqL X.K H q ys∧(∀ i,i < xs.length→i < ys.length→ElEq X H e (xs.getD i .non) (ys.getD i .non))∧Q (.bl (if neg then !dL e xs ys else dL e xs ys)) H
theorem qS {pins : List (Addr × Obj)} {s : Shared} {σ : St} {H : Hp} {A : Around} {e : V→V→Bool} {xs ys : List V} {us vs : List Value} (I : Inv X pins σ H s) (hu : A.units + 1 < cLine) (rx : Vals xs us) (ry : Vals ys vs)
  (he : ∀ i,i < xs.length→i < ys.length→ElEq X H e (xs.getD i .non) (ys.getD i .non)) : ∀ j (h1 : j < us.toArray.size) (h2 : j < vs.toArray.size),SeqAt.EqAt A s us.toArray[j] vs.toArray[j] (e (xs.getD j .non) (ys.getD j .non)):=by
 intro j h1 h2
 have j1 : j < xs.length:=by rw [rx.length]; simpa using h1
 have j2 : j < ys.length:=by rw [ry.length]; simpa using h2
 have e1 : xs[j]? = some (xs.getD j .non):=by rw [List.getD_eq_getElem?_getD,List.getElem?_eq_getElem j1]; rfl
 have e2 : ys[j]? = some (ys.getD j .non):=by rw [List.getD_eq_getElem?_getD,List.getElem?_eq_getElem j2]; rfl
 obtain ⟨u,hu1,ru⟩:=rx.get e1
 obtain ⟨v,hv1,rv⟩:=ry.get e2
 have eu : us.toArray[j] = u:=by
  have : us[j]? = some us.toArray[j]:=by simp at h1 ⊢
  rw [hu1] at this; exact (Option.some.inj this).symm
 have ev : vs.toArray[j] = v:=by
  have : vs[j]? = some vs.toArray[j]:=by simp at h2 ⊢
  rw [hv1] at this; exact (Option.some.inj this).symm
 rw [eu,ev]
 exact he j j1 j2 pins s σ A u v I hu ru rv
theorem yF {e : V→V→Bool} (hu : X.A.units + 2 < cLine) : OpR X (compareOp .NotEq) (rLEq X true e):=by
 intro pins s σ H x y v u Q I rx ry h
 obtain ⟨p,q,xs,ys,rfl,rfl,hp,hq,he,k⟩:=h
 obtain rfl : v = Value.ref p:=rx
 obtain rfl : u = Value.ref q:=ry
 obtain ⟨us,r1,p1,_⟩:=I.list hp
 obtain ⟨vs,r2,p2,_⟩:=I.list hq
 by_cases hl : xs.length = ys.length
 ·refine SeqAt.RcNeAt.lists (e:=fun i=>e (xs.getD i .non) (ys.getD i .non)) p1.isList p2.isList (by simp only [List.size_toArray]; rw [← r1.length,← r2.length]; exact hl) (by lia) (qS I (by show X.A.units + 1 + 1 < cLine; lia) r1 r2 he) _ _ _ _ ⟨.bl _,H,I,rfl,?_⟩
  rw [show us.toArray.size = xs.length by rw [List.size_toArray,r1.length],← eO hl]
  exact k
 ·refine SeqAt.RcNeAt.lists_lengths p1.isList p2.isList (by simp only [List.size_toArray]; rw [← r1.length,← r2.length]; simpa using hl) (by lia) _ _ _ _ ⟨.bl _,H,I,rfl,?_⟩
  have k':=k
  rw [jU hl] at k'
  exact k'
theorem mD {e : V→V→Bool} (hu : X.A.units + 2 < cLine) : OpR X (compareOp .Eq) (rLEq X false e):=by
 intro pins s σ H x y v u Q I rx ry h
 obtain ⟨p,q,xs,ys,rfl,rfl,hp,hq,he,k⟩:=h
 obtain rfl : v = Value.ref p:=rx
 obtain rfl : u = Value.ref q:=ry
 obtain ⟨us,r1,p1,_⟩:=I.list hp
 obtain ⟨vs,r2,p2,_⟩:=I.list hq
 by_cases hl : xs.length = ys.length
 ·refine SeqAt.eq_listAt (e:=fun i=>e (xs.getD i .non) (ys.getD i .non)) p1.isList p2.isList (by simp only [List.size_toArray]; rw [← r1.length,← r2.length]; exact hl) (by lia) (qS I (by show X.A.units + 1 + 1 < cLine; lia) r1 r2 he) ⟨.bl _,H,I,rfl,?_⟩
  rw [show us.toArray.size = xs.length by rw [List.size_toArray,r1.length],← eO hl]
  exact k
 ·refine SeqAt.eq_list_lengthsAt p1.isList p2.isList (by simp only [List.size_toArray]; rw [← r1.length,← r2.length]; simpa using hl) (by lia) ⟨.bl _,H,I,rfl,?_⟩
  have k':=k
  rw [jU hl] at k'
  exact k'
theorem yG (hc : X.calm = true) : cV X (.builtin "any") (fun xs H Q=>∃ (p : Addr) (bs : List Bool),xs = [.ref p]∧SqL X.K H p (bs.map V.bl)∧Q (.bl (bs.any id)) H):=by
 intro pins s σ H xs us Q I r h
 obtain ⟨p,bs,rfl,hp,q⟩:=h
 obtain ⟨u1,rfl,r1⟩:=r.one
 obtain rfl : u1 = Value.ref p:=r1
 obtain ⟨its,rv,pl,hz⟩:=I.list hp
 have hits : its = bs.map Value.bool:=by
  have go : ∀ (bs : List Bool) (its : List Value),Vals (bs.map V.bl) its→its = bs.map Value.bool:=by
   intro bs
   induction bs with
   | nil=>intro its r; cases r; rfl
   | cons b bs ih =>
    intro its r
    cases r with
    | cons r rr =>
     obtain rfl:=(show _ = Value.bool b from r)
     rw [ih _ rr]; rfl
  exact go bs its rv
 subst hits
 obtain ⟨ob,hob,_⟩:=id pl.isList
 have hlt : p < s.heap.objs.size:=Heap.lt_size hob
 refine call_any_walk (wpAny_pyIter_list pl.isList ⟨s.heap.objs.size,_,_,_,_,_,fun i=>bs.getD i false,rfl,Walks.list (show X.A.in1.handled = none from I.ok.hd hc) _ p (Nat.ne_of_lt hlt) _,⟨⟨_,Heap.get?_push_size _ rfl,rfl,rfl⟩,pl.isList.push _⟩,fun i v s1 Q' E' hv hq=>?_,fun h' tk k=>?_⟩)
 ·have hv' : (bs.map Value.bool)[i]? = some v:=by simpa using hv
  rw [List.getElem?_map] at hv'
  cases eb : bs[i]? with
  | none=>rw [eb] at hv'; cases hv'
  | some b =>
   rw [eb] at hv'
   obtain rfl : Value.bool b = v:=Option.some.inj hv'
   have : bs.getD i false = b:=by rw [List.getD_eq_getElem?_getD,eb]; rfl
   have hq' : Q' b s1:=by rw [← this]; exact hq
   exact wpAny_pure hq'
 ·have keep : ∀ b o,s.heap.get? b = some o→h'.get? b = some o:=fun b o e=>k b o (by simpa using Nat.ne_of_lt (Heap.lt_size e)) (Heap.get?_push_of_some _ e)
  refine ⟨.bl (bs.any id),H,I.kept (t':=tk) keep,?_,q⟩
  show Value.bool _ = Value.bool _
  congr 1
  have go : ∀ (bs : List Bool),((List.range bs.length).any fun i=>bs.getD i false) = bs.any id:=by
   intro bs
   induction bs with
   | nil=>rfl
   | cons b bs ih =>
    rw [List.length_cons,List.range_succ_eq_map,List.any_cons,List.any_map,List.any_cons,← ih]
    rfl
  rw [← go bs]
  simp
end
end L2
namespace L2
open PySem PySem.Spec PyProof.Rows
def kL (c : Addr) (qual : Str) : HO:=.ext fun h=>h.CodeRec (.ref c) qual
theorem aAg {P : Program} {w : World} {H : Hp} {h : Heap} {c : Addr} {qual : Str} (x : h.CodeRec (.ref c) qual) : bX P w H h c (kL c qual):=by
 refine ⟨x,?_,?_⟩
 ·obtain ⟨c',o,vs,t,e,ho,_⟩:=x
  cases e; exact ⟨o,ho⟩
 ·rintro h1 h2 ⟨c',o,vs,t,e,ho,r⟩ k
  cases e; exact ⟨c,o,vs,t,rfl,k o ho,r⟩
def aAP (f : Addr) (qual : Str) (params : Arguments) (body : Expr) (scope : Scope) (cells : List (Str × Addr)) (c : Addr) (h : Heap) : Prop :=
 ∃ (clos : List (Str × Addr)) (pm ctv : Value),(∀ x a,clos.lookup x = some a→cells.lookup x = some a)∧(∀ x,(x,NameKind.free)∈scope.names→∃ a,clos.lookup x = some a) ∧
  h.get? f = some (PySem.W.kla_obj "<lambda>" qual params body scope clos pm c ctv)
def lamO (f : Addr) (qual : Str) (params : Arguments) (body : Expr) (scope : Scope) (cells : List (Str × Addr)) (c : Addr) : HO:=.ext (aAP f qual params body scope cells c)
theorem uA {P : Program} {w : World} {H : Hp} {h : Heap} {f : Addr} {qual : Str} {params : Arguments} {body : Expr} {scope : Scope} {cells : List (Str × Addr)} {c : Addr} (x : aAP f qual params body scope cells c h) :
  bX P w H h f (lamO f qual params body scope cells c):=by
 refine ⟨x,?_,?_⟩
 ·obtain ⟨_,_,_,_,_,e⟩:=x
  exact ⟨_,e⟩
 ·rintro h1 h2 ⟨clos,pm,ctv,a,b,e⟩ k
  exact ⟨clos,pm,ctv,a,b,k _ e⟩
def vY (lp : Pos) (qual : Str) (P : Addr) (H : Hp) : Prop:=H P = some (.tbl #[])∨∃ c,H P = some (.tbl #[rawInt lp.line,rawInt lp.col,.ref c])∧H c = some (kL c qual)
structure LamC (X : Cx) (c P : Addr) : Prop where
 code : X.env.code = .ref c
 hd : PySem.W.CodeHd X.base c P
 bm : ∃ bm o,X.mg "__builtins__" = some (.ref bm)∧bm ≠ builtinsNs∧bm ≠ mainGlobals∧X.base.get? bm = some o∧o.cls = .type "module" ∧ o.dict = some builtinsNs∧o.data = .plain
def tLam (lp : Pos) (qual : Str) (P : Addr) (params : Arguments) (body : Expr) (scope : Scope) (cells : List (Str × Addr)) : TE:=fun _ H Q=>vY lp qual P H ∧
 ∀ (f c : Addr) (H2 : Hp),vY lp qual P H2→(∀ b o,H b = some o→b ≠ P→H2 b = some o)→H2 c = some (kL c qual)→H2 f = some (lamO f qual params body scope cells c)→Q (.ref f) H2
theorem sW {lp : Pos} {c : Addr} : TriplesOk (#[rawInt lp.line,rawInt lp.col,.ref c] : Array Value).toList:=trivial
theorem yH {lp : Pos} {c : Addr} : codeAmong lp (#[rawInt lp.line,rawInt lp.col,.ref c] : Array Value).toList = some (.ref c):=by
 show (if ((lp.line : Int) == (lp.line : Int) && (lp.col : Int) == (lp.col : Int)) = true then some (Value.ref c) else _) = _
 simp
section
variable {X : Cx} {c P : Addr} {params : Arguments} {body : Expr} {scope : Scope} {lp : Pos} {NB : List Str} {src : List (Option Nat)}
theorem LamC.at (C : LamC X c P) {pins : List (Addr × Obj)} {σ : St} {H : Hp} {s : Shared} {ps : Array Value} (I : Inv X pins σ H s) (hP : H P = some (.tbl ps)) : s.heap.BuiltinsAt X.mg P:=by
 obtain ⟨bm,o,b1,b2,b3,b4,b5,b6,b7⟩:=C.bm
 refine ⟨bm,o,b1,b2,b3,fun z=>?_,I.bk _ _ b4,b5,b6,b7⟩
 have:=(I.bs _ _ b4).2
 rw [z,hP] at this; cases this
theorem Inv.globs {pins : List (Addr × Obj)} {σ : St} {H : Hp} {s : Shared} (I : Inv X pins σ H s) : s.heap.Ns mainGlobals X.mg:=I.mod.glob.keeps I.bk
theorem aB8 (C : LamC X c P) (S : eV NB src scope X) (hdef : defaultsOf params X.env = ([],[]):=by rfl) : PE X (.Lambda params body scope lp) (tLam lp (X.env.qual ++ "<lambda>") P params body scope X.env.cells):=by
 intro pins s σ H Q I h
 obtain ⟨tab,h⟩:=h
 obtain ⟨clos,ecl,c1,c2⟩:=iX I.ok S
 refine PySem.W.kla_eval hdef ?_
 have hsz : ∀ b o,s.heap.get? b = some o→b < s.heap.objs.size:=fun b o e=>Heap.lt_size e
 rcases tab with hP | ⟨c',hP,hc'⟩
 ·-- the first time
  have hPo : s.heap.get? P = some (PySem.W.tabObj #[]):=I.hok P _ hP
  have hPL : X.env.locals ≠ P:=fun z=>by have f:=I.free; rw [z,hP] at f; cases f
  have hPg : mainGlobals ≠ P:=fun z=>by
   obtain ⟨o,es,ep,e,d,_⟩:=I.mod.glob
   have:=(I.bs _ _ e).2
   rw [z,hP] at this; cases this
  refine PySem.W.kla_makeFunction (mg:=X.mg) ecl I.ok.glob I.globs C.code (C.hd.keeps I.bk) hPo (by trivial) rfl hPg (C.at I hP) fun c' ctv h' tk hx hge hlt hrec htb=>?_
  have hgt : ∀ b o,b ≠ P→s.heap.get? b = some o→(h'.push (PySem.W.kla_obj "<lambda>" (X.env.qual ++ "<lambda>") params body scope clos ((X.mg "__name__").getD .none) c' ctv)).get? b = some o:=fun b o hb e=>Heap.get?_push_of_some _ (hx b o hb e)
  have hcP : c' ≠ P:=Nat.ne_of_gt (Nat.lt_of_lt_of_le (hsz _ _ hPo) hge)
  have hfP : h'.objs.size ≠ P:=Nat.ne_of_gt (Nat.lt_of_lt_of_le (hsz _ _ hPo) (Nat.le_trans hge (Nat.le_of_lt hlt)))
  have hfc : h'.objs.size ≠ c':=Nat.ne_of_gt hlt
  have nf : H h'.objs.size = none:=I.hok.fresh (by lia)
  have nc : H c' = none:=I.hok.fresh hge
  let H2 : Hp:=upd (upd (upd H P (.tbl #[rawInt lp.line,rawInt lp.col,.ref c'])) c' (kL c' (X.env.qual ++ "<lambda>"))) h'.objs.size (lamO h'.objs.size (X.env.qual ++ "<lambda>") params body scope X.env.cells c')
  have eP : H2 P = some (.tbl #[rawInt lp.line,rawInt lp.col,.ref c']):=by
   show upd _ _ _ _ = _
   rw [aI hfP.symm,aI hcP.symm,aD]
  have ec : H2 c' = some (kL c' (X.env.qual ++ "<lambda>")):=by
   show upd _ _ _ _ = _
   rw [aI hfc.symm,aD]
  have ef : H2 h'.objs.size = some (lamO h'.objs.size (X.env.qual ++ "<lambda>") params body scope X.env.cells c'):=aD
  have eo : ∀ b,b ≠ P→b ≠ c'→b ≠ h'.objs.size→H2 b = H b:=fun b h1 h2 h3=>by
   show upd _ _ _ _ = _
   rw [aI h3,aI h2,aI h1]
  have old : ∀ b o,H b = some o→b ≠ P→H2 b = some o:=fun b o e hb=>by
   rw [eo b hb (aM e nc) (aM e nf)]; exact e
  have I2 : Inv X pins σ H2 { s with heap:=h'.push (PySem.W.kla_obj "<lambda>" (X.env.qual ++ "<lambda>") params body scope clos ((X.mg "__name__").getD .none) c' ctv),toks:=tk }:=by
   refine I.step (g':=s.gens) (d':=s.drawn) (ch:=[]) (fun _ z=>absurd z (by simp)) (fun b o _ _ _ e n=>hgt b o (fun z=>by rw [z,hP] at n; cases n) e) (fun b o _ _ _ e n=>⟨o.slots,hgt b o (fun z=>by rw [z,hP] at n; cases n) e⟩)
    (fun b o _ e n=>?_) (fun b o _ e=>?_) (fun b xs e=>old b _ e fun z=>by rw [z,hP] at e; cases e) (fun b o u e=>old b _ e fun z=>by rw [z,hP] at e; cases e) (fun b ps e=>?_) (fun m hm=>?_) (fun b o e=>?_) I.bare
   ·rw [eo b (fun z=>by rw [z,hP] at n; cases n) (Nat.ne_of_lt (Nat.lt_of_lt_of_le (hsz b o e) hge)) (Nat.ne_of_lt (Nat.lt_of_lt_of_le (hsz b o e) (Nat.le_trans hge (Nat.le_of_lt hlt))))]
    exact n
   ·by_cases hb : b = P
    ·exact ⟨_,by rw [hb]; exact Heap.get?_push_of_some _ htb⟩
    ·exact ⟨o,hgt b o hb e⟩
   ·by_cases hb : b = P
    ·rw [hb] at e ⊢
     rw [hP] at e; cases e
     exact ⟨#[rawInt lp.line,rawInt lp.col,.ref c'],by rw [eP]; simp⟩
    ·exact ⟨#[],by rw [old b _ e hb]; simp⟩
   ·exact (hm.extBut hx hPL).push _
   ·by_cases hbf : b = h'.objs.size
    ·subst hbf
     rw [ef] at e; cases e
     exact uA ⟨clos,_,ctv,c1,c2,Heap.get?_push_size _ rfl⟩
    ·by_cases hbc : b = c'
     ·subst hbc
      rw [ec] at e; cases e
      refine aAg ?_
      obtain ⟨c₂,oc,vs,t,e2,hoc,r⟩:=hrec
      exact ⟨c₂,oc,vs,t,e2,Heap.get?_push_of_some _ hoc,r⟩
     ·by_cases hbP : b = P
      ·subst hbP
       rw [eP] at e; cases e
       exact Heap.get?_push_of_some _ htb
      ·rw [eo b hbP hbc hbf] at e
       refine (I.hok b o e).stay (fun d u hd q=>hgt d u ?_ q) (fun d q=>old d _ q fun z=>by rw [z,hP] at q; cases q) fun d xs q=>old d _ q fun z=>by rw [z,hP] at q; cases q
       rintro rfl
       rcases hd with z | z
       ·exact hbP z.symm
       ·rw [hP] at z; cases z
  exact ⟨.ref h'.objs.size,H2,I2,rfl,h _ c' H2 (.inr ⟨c',eP,ec⟩) old ec ef⟩
 ·-- again
  have hPo : s.heap.get? P = some (PySem.W.tabObj #[rawInt lp.line,rawInt lp.col,.ref c']):=I.hok P _ hP
  refine PySem.W.kla_makeFunctionHit (mg:=X.mg) ecl I.ok.glob I.globs C.code (C.hd.keeps I.bk) hPo sW yH (C.at I hP) fun ctv h' tk hk hge=>?_
  have nf : H h'.objs.size = none:=I.hok.fresh hge
  let H2 : Hp:=upd H h'.objs.size (lamO h'.objs.size (X.env.qual ++ "<lambda>") params body scope X.env.cells c')
  have ef : H2 h'.objs.size = some (lamO h'.objs.size (X.env.qual ++ "<lambda>") params body scope X.env.cells c'):=aD
  have old : ∀ b o,H b = some o→H2 b = some o:=fun b o e=>by
   show upd _ _ _ _ = _
   rw [aI (aM e nf)]; exact e
  have hgt : ∀ b o,s.heap.get? b = some o→(h'.push (PySem.W.kla_obj "<lambda>" (X.env.qual ++ "<lambda>") params body scope clos ((X.mg "__name__").getD .none) c' ctv)).get? b = some o:=fun b o e=>Heap.get?_push_of_some _ (hk b o e)
  have I2 : Inv X pins σ H2 { s with heap:=h'.push (PySem.W.kla_obj "<lambda>" (X.env.qual ++ "<lambda>") params body scope clos ((X.mg "__name__").getD .none) c' ctv),toks:=tk }:=by
   refine I.step (g':=s.gens) (d':=s.drawn) (ch:=[]) (fun _ z=>absurd z (by simp)) (fun b o _ _ _ e n=>hgt b o e) (fun b o _ _ _ e n=>⟨o.slots,hgt b o e⟩)
    (fun b o _ e n=>?_) (fun b o _ e=>⟨o,hgt b o e⟩) (fun b xs e=>old b _ e) (fun b o u e=>old b _ e) (fun b ps e=>⟨#[],by rw [old b _ e]; simp⟩) (fun m hm=>(hm.keeps hk).push _) (I.hok.laid hgt hge (uA ⟨clos,_,ctv,c1,c2,Heap.get?_push_size _ rfl⟩)) I.bare
   ·show upd _ _ _ _ = _
    rw [aI (Nat.ne_of_lt (Nat.lt_of_lt_of_le (hsz b o e) hge))]
    exact n
  exact ⟨.ref h'.objs.size,H2,I2,rfl,h _ c' H2 (.inr ⟨c',old _ _ hP,old _ _ hc'⟩) (fun b o e _=>old b o e) (old _ _ hc') ef⟩
end
end L2
namespace L2
open PySem PySem.Spec PyProof.Rows
def yI (X : Cx) (id : String) (ks : List Str) (r : St→List V→List V→Hp→VK→Prop) : Prop :=
 ∀ (pins : List (Addr × Obj)) (s : Shared) (σ : St) (H : Hp) (vs zs : List V) (us ws : List Value) (Q : VK),Inv X pins σ H s→Vals vs us→Vals zs ws→r σ vs zs H Q →
  wpAny (model X.prog X.w) X.A (call (.builtin id) us (ks.zip ws)) (EP X pins σ Q) X.xe s
def tCBK (r : St→List V→List V→Hp→VK→Prop) (t tk : TA) : TE:=fun σ H Q=>t σ H fun vs H1=>tk σ H1 fun zs H2=>r σ vs zs H2 Q
section
variable {X : Cx} {x : Str} {p pos : Pos} {e : Expr} {es : List Expr} {kws : List Keyword} {t tk : TA} {id : String} {ks : List Str} {r : St→List V→List V→Hp→VK→Prop}
theorem yJ (hc : yI X id ks r) (hg : Gl X x) (hm : X.mg x = none) (hv : bootBuiltins x = some (.builtin id)) (ha : PA X (e :: es) t) (hkw : PK X kws tk) (hn : x ≠ "__name__" := by decide) (hdb : (x == ("__debug__" : Str)) = false:=by decide)
  (hks : (backToKw pos (keywordEach kws X.env)).filterMap (·.1) = ks:=by rfl)
  (he : backTo pos (starEach (e :: es) X.env) = (false,eval e X.env) :: backTo pos (starEach es X.env):=by rfl)
  (hplain : (backTo pos (starEach (e :: es) X.env)).any (·.1) = false:=by rfl)
  (hall : (backToKw pos (keywordEach kws X.env)).all (·.1.isSome) = true:=by rfl)
  (hno : (backToKw pos (keywordEach kws X.env)).any (·.1.isNone) = false:=by rfl) : PE X (.Call (.Name x p) (e :: es) kws pos) (tCBK r t tk):=by
 intro pins s σ H Q I h
 refine wpAny_Call_Name_kw (iH I hg hm hv ?_ hn hdb)
 refine PyProof.Rows.callWith_kw (thn (ha pos pins s σ H _ I h) fun us s1 ⟨vs,H1,I1,r1,q1⟩=>?_) he hplain hall hno
 refine thn (hkw pos pins s1 σ H1 _ I1 q1) fun ws s2 ⟨zs,H2,I2,rz,q2⟩=>?_
 rw [hks]
 exact hc pins s2 σ H2 vs zs us ws Q I2 r1 rz q2
end
def KOut (za zb : Int) (ns out : List Int) : Prop:=∃ ps : List (Int × Int),ps.Perm (ns.map fun z=>((z - za) % zb,z))∧out = ps.map (·.2)∧ps.Pairwise fun p q=>p.1 ≤ q.1
def aB9 (X : Cx) (qual : Str) (params : Arguments) (body : Expr) (scope : Scope) (ia ib : Nat) : St→List V→List V→Hp→VK→Prop:=fun σ vs zs H Q =>
 ∃ (l f c : Addr) (ns : List Int) (za zb : Int),vs = [.ref l]∧zs = [.ref f]∧SqL X.K H l (ns.map V.int)∧ns.length < 64∧H f = some (lamO f qual params body scope X.env.cells c)∧H c = some (kL c qual) ∧
  σ[ia]? = some (some (.int za))∧σ[ib]? = some (some (.int zb))∧0 < zb∧∀ (r : Addr) (out : List Int),H r = none→KOut za zb ns out→Q (.ref r) (upd H r (.lst (out.map V.int)))
theorem oY : ∀ {ns : List Int} {vs : List Value},Vals (ns.map V.int) vs→IntsAre vs ns
 | [],_,.nil=>.nil
 | _ :: _,_,.cons ⟨t,e⟩ r=>by subst e; exact .cons _ t (oY r)
structure LamS (X : Cx) (qual : Str) (params : Arguments) (body : Expr) (scope : Scope) (y a b : Str) (ia ib : Nat) : Prop where
 bd : ∃ p1 p2 p3 p4 p5,body = .BinOp (.BinOp (.Name y p1) .Sub (.Name a p2) p3) .Mod (.Name b p4) p5
 bind : ∀ clos pm c ctv v,bindArgs (PySem.W.kla_fn "<lambda>" qual params body scope clos pm (.ref c) ctv) ⟨[v],[]⟩ = pure [(y,v)]
 na : X.N[ia]? = some a
 nb : X.N[ib]? = some b
 ca : X.env.scope.names.lookup a = some .cell
 cb : X.env.scope.names.lookup b = some .cell
 ly : scope.names.lookup y = some .local
 fa : scope.names.lookup a = some .free
 fb : scope.names.lookup b = some .free
 ma : (a,NameKind.free)∈scope.names
 mb : (b,NameKind.free)∈scope.names
 nocell : ∀ z∈scope.names,z.2 ≠ .cell
 kind : scope.kind = .function
 co : scope.isCoroutine = false
 gen : scope.isGenerator = false
 dy : (y == ("__debug__" : Str)) = false
 da : (a == ("__debug__" : Str)) = false∧(a == ("__classdict__" : Str)) = false
 db : (b == ("__debug__" : Str)) = false∧(b == ("__classdict__" : Str)) = false
theorem vZ {X : Cx} {qual : Str} {params : Arguments} {body : Expr} {scope : Scope} {y a b : Str} {ia ib k : Nat} (S : LamS X qual params body scope y a b ia ib) (hr : Room k X.A) :
  yI X "sorted" ["key"] (aB9 X qual params body scope ia ib):=by
 intro pins s σ H vs zs us ws Q I r rz h
 obtain ⟨l,f,c,ns,za,zb,rfl,rfl,hl,h64,hf,hc,sa,sb,hb0,q⟩:=h
 obtain ⟨u1,rfl,r1⟩:=r.one
 obtain rfl : u1 = Value.ref l:=r1
 obtain ⟨w1,rfl,rw1⟩:=rz.one
 obtain rfl : w1 = Value.ref f:=rw1
 obtain ⟨its,rv,pl,hz⟩:=I.list hl
 have hI:=oY rv
 obtain ⟨m,F⟩:=I.fr
 obtain ⟨p1,p2,p3,p4,p5,rfl⟩:=S.bd
 obtain ⟨clos,pm,ctv,c1,c2,hfo⟩:=(I.hok f _ hf).1
 have hcr : s.heap.CodeRec (.ref c) qual:=(I.hok c _ hc).1
 obtain ⟨m',hn',hlk⟩:=I.loc
 have cellA : ∃ ca ta,clos.lookup a = some ca∧s.heap.IsCell ca (some (.int za ta)):=by
  obtain ⟨u,⟨ta,rfl⟩,lk⟩:=hlk ia a (.int za) S.na sa (.inr (.inl S.ca))
  obtain ⟨ca,e1⟩:=c2 a S.ma
  rcases lk with ⟨z,_⟩ | ⟨_,ca',e2,e3⟩
  ·have z' : X.env.scope.names.lookup a = some .local:=z
   rw [S.ca] at z'; cases z'
  ·have e4:=c1 a ca e1
   rw [e2] at e4; cases e4
   exact ⟨ca,ta,e1,e3⟩
 have cellB : ∃ cb tb,clos.lookup b = some cb∧s.heap.IsCell cb (some (.int zb tb)):=by
  obtain ⟨u,⟨tb,rfl⟩,lk⟩:=hlk ib b (.int zb) S.nb sb (.inr (.inl S.cb))
  obtain ⟨cb,e1⟩:=c2 b S.mb
  rcases lk with ⟨z,_⟩ | ⟨_,cb',e2,e3⟩
  ·have z' : X.env.scope.names.lookup b = some .local:=z
   rw [S.cb] at z'; cases z'
  ·have e4:=c1 b cb e1
   rw [e2] at e4; cases e4
   exact ⟨cb,tb,e1,e3⟩
 obtain ⟨ca,ta,ea,ha⟩:=cellA
 obtain ⟨cb,tb,eb,hb⟩:=cellB
 have noL : ∀ b' (o : Obj),s.heap.get? b' = some o→(∀ es ep,o.data ≠ .dict es ep)→b' ≠ X.env.locals:=fun b' o e d z=>by
  obtain ⟨o',es,ep,e',d',_⟩:=F.ns
  rw [z,e'] at e; cases e
  exact d _ _ d'
 have len : (ns.map fun z=>(z - za) % zb).length = its.length:=by rw [List.length_map,hI.length]
 refine ksk_sorted (b:=false) (f:=.ref f) (kz:=ns.map fun z=>(z - za) % zb) F zV pl.isList len (by rw [hI.length]; exact h64) (ksk_s1 _ _) (fun x=>ksk_l1 _ _) (fun x=>ksk_t1 _ _) ?_ ?_
 ·-- one key
  intro i v k hv hk h tk own F' N'
  have at_ : ∀ b' u,b' ≠ X.env.locals→s.heap.get? b' = some u→h.get? b' = some u:=fun b' u hne e=>by
   cases z : X.base.get? b' with
   | some o =>
    have:=I.bk b' o z
    rw [e] at this; cases this
    exact F'.keep b' _ z
   | none=>exact (N' (b',u) (List.mem_append_left _ (iD hne z e))).1
  have hfo':=at_ f _ (noL f _ hfo (by intro es ep z; cases z)) hfo
  have hcr' : h.CodeRec (.ref c) qual:=by
   obtain ⟨c0,o,vs0,t0,e0,ho,hd,hv0⟩:=hcr
   refine ⟨c0,o,vs0,t0,e0,at_ _ _ (noL _ _ ho (by rw [hd]; intro es ep z; cases z)) ho,hd,hv0⟩
  have ha' : h.IsCell ca (some (.int za ta)):=by
   obtain ⟨o,ho,hd⟩:=ha
   exact ⟨o,at_ _ _ (noL _ _ ho (by rw [hd]; intro es ep z; cases z)) ho,hd⟩
  have hb' : h.IsCell cb (some (.int zb tb)):=by
   obtain ⟨o,ho,hd⟩:=hb
   exact ⟨o,at_ _ _ (noL _ _ ho (by rw [hd]; intro es ep z; cases z)) ho,hd⟩
  obtain ⟨z,tz,rfl,rfl⟩ : ∃ z tz,v = .int z tz∧k = (z - za) % zb:=by
   obtain ⟨n,t,e⟩:=hI.all v (List.mem_of_getElem? hv)
   refine ⟨n,t,e,?_⟩
   rw [List.getElem?_map] at hk
   have hn:=hI.nums
   have e1 : (its.map numOf)[i]? = some n:=by rw [List.getElem?_map,hv,e]; rfl
   rw [hn] at e1
   rw [e1] at hk
   exact (Option.some.inj hk).symm
  have hroom : X.A.in1.in1.depth < recursionLimit:=by
   have:=hr.dp
   show X.A.depth < _
   lia
  refine wpAny_call (PySem.W.kla_callFunE hroom hfo' rfl S.co S.gen rfl hcr' ?_)
  rw [S.bind]
  refine wpAny_pure (wpAny_newFunctionEnv S.nocell (fun x hx=>by rw [List.mem_singleton.mp hx]; exact S.ly) (fun h₁ hns hsb=>⟨((I.ok.mod.nolimit).keeps F'.keep).fresh _ hsb,?_⟩) S.kind)
  have hk₁ : ∀ b o,h.get? b = some o→h₁.get? b = some o:=fun b o e=>hsb.extBut b o (Nat.ne_of_lt (Heap.lt_size e)) (Heap.get?_push_of_some _ e)
  have ha₁:=ha'.keeps hk₁
  have hb₁:=hb'.keeps hk₁
  refine PySem.W.kla_codeExpr ?_
  refine wpAny_BinOp (wpAny_BinOp ?_)
  refine wpAny_Name (wpAny_loadName_local S.kind S.ly hns (v:=.int z tz) (by simp) ?_) S.dy
  refine wpAny_Name (wpAny_loadName_free S.kind S.fa ea ha₁ ?_ S.da.2) S.da.1
  refine sub_int ?_
  refine wpAny_Name (wpAny_loadName_free S.kind S.fb eb hb₁ ?_ S.db.2) S.db.1
  refine mod_int' (by lia) ?_
  rw [Int.fmod_eq_emod_of_nonneg _ (by lia)]
  refine KskEnd.intro (news':=fF X.base s.heap X.env.locals ++ own) ⟨F'.ns.keeps hk₁,fun b o e=>hk₁ b o (F'.keep b o e),F'.above⟩ (fun p hp=>⟨hk₁ _ _ (N' p hp).1,(N' p hp).2⟩) fun p hp=>hp
 ·-- the list
  intro D h' tk out cc F' N' hlt kout
  have hD:=pK I N' hlt
  obtain ⟨ps,hp,ho,hs⟩:=kout
  have hmem : ∀ p∈ps,∃ n t,p.2 = .int n t:=fun p hp'=>by
   have:=hp.mem_iff.mp hp'
   exact hI.all _ (List.of_mem_zip this).2
  have hz' : ((ns.map fun z=>(z - za) % zb).zip its).map (fun p=>(p.1,numOf p.2)) = ns.map fun z=>((z - za) % zb,z):=by
   have hn:=hI.nums
   rw [← hn]
   have go : ∀ (l : List Value),((((l.map numOf).map fun z=>(z - za) % zb).zip l).map fun p=>(p.1,numOf p.2)) = (l.map numOf).map fun z=>((z - za) % zb,z):=by
    intro l
    induction l with
    | nil=>rfl
    | cons x l ih=>simp only [List.map_cons,List.zip_cons_cons,ih]
   exact go its
  have vals : Vals ((ps.map fun p=>(p.1,numOf p.2)).map (fun p=>V.int p.2)) (ps.map Prod.snd):=by
   have go : ∀ (l : List (Int × Value)),(∀ p∈l,∃ n t,p.2 = .int n t)→Vals ((l.map fun p=>(p.1,numOf p.2)).map (fun p=>V.int p.2)) (l.map Prod.snd):=by
    intro l
    induction l with
    | nil=>intro _; exact .nil
    | cons x l ih =>
     intro hx
     refine .cons ?_ (ih fun p hp=>hx p (List.mem_cons_of_mem _ hp))
     obtain ⟨n,t,e⟩:=hx x List.mem_cons_self
     show ∃ t,x.2 = Value.int (numOf x.2) t
     rw [e]; exact ⟨t,rfl⟩
   exact go ps hmem
  have hout : KOut za zb ns ((ps.map fun p=>(p.1,numOf p.2)).map (·.2)):=by
   refine ⟨ps.map fun p=>(p.1,numOf p.2),?_,rfl,?_⟩
   ·rw [← hz']; exact hp.map _
   ·refine List.pairwise_map.mpr (hs.imp fun {p q} z=>?_)
    simpa using z
  have hDo : h'.get? D = some (seqObj "list" out cc):=(N' _ List.mem_cons_self).1
  have I2 : Inv X pins σ (upd H D (.lst (((ps.map fun p=>(p.1,numOf p.2)).map (·.2)).map V.int))) { s with heap:=h',toks:=tk }:=by
   refine I.fromK F F' (fun p hp=>N' p (List.mem_cons_of_mem _ hp)) hD ⟨?_,ps.map Prod.snd,cc,?_,?_⟩
   ·have h1:=hp.length_eq
    rw [List.length_zip,len,Nat.min_self] at h1
    simp only [List.length_map]
    rw [h1,hI.length]
    exact Nat.le_trans (Nat.le_of_lt h64) (by decide)
   ·have ev:=vals; simp only [List.map_map] at ev ⊢; exact ev
   ·rw [hDo,← ho]
  exact ⟨.ref D,_,I2,rfl,q D _ (I.hok.freshN hD) hout⟩
end L2
namespace L2
open PySem PySem.Spec PyProof.Rows
def BmOk (mg : Str→Option Value) (base : Heap) : Prop:=∃ bm o,mg "__builtins__" = some (.ref bm)∧bm ≠ builtinsNs∧bm ≠ mainGlobals∧base.get? bm = some o∧o.cls = .type "module" ∧ o.dict = some builtinsNs∧o.data = .plain
def pQ (ts : List Addr) (H : Hp) : Prop:=(∀ P∈ts,H P = some (.tbl #[]))∧∀ b,H b = none∨(b∈ts∧H b = some (.tbl #[]))∨∃ o xs,H b = some (.frz o (.lst xs))
theorem yK {P : Program} {w : World} {K : PySem.W.Frag} {mg mb : Str→Option Value} {CX : CXT} {k : Nat} {fa a : Addr} {fd : FuncData} {x : Str} {sp : Sp} {s₁ : Shared} {vs : List Value} {ns : List Int} {ts : List Addr}
  (KX : K.In s₁.heap) (hns : s₁.heap.Ns mainGlobals mg) (hb : s₁.heap.Ns builtinsNs mb) (hbb : ∀ x : Str,x ≠ "__name__" → mb x = bootBuiltins x) (hlim : s₁.heap.NoLimit) (hg : s₁.gens = #[]) (hbm : BmOk mg s₁.heap)
  (hts : ∀ P∈ts,s₁.heap.get? P = some (PySem.W.tabObj #[])) (hcd : ∀ P∈ts,∃ c,PySem.W.codeHdIn K c P = true) (hkt : ∀ P∈ts,K.lookup P = none)
  (ha : s₁.heap.get? a = some { cls:=.type "list",data:=.seq vs.toArray }) (hi : IntsAre vs ns) (hl : ns.length ≤ sizeLine) (hr : Room k callerA)
  (F : ∀ base : Heap,K.In base→base.Ns mainGlobals mg→BmOk mg base→FnOk P w K mg base CX k fa fd [x] sp) (hbind : ∀ (s : Shared) (u : Value),BindsTo s fd ⟨[u],[]⟩ [(x,u)])
  (hsp : ∀ H : Hp,pQ ts H→SqL K H a (ns.map V.int)→sp [.ref a] H (fun v _=>v = .bl true) fun _ _ _=>False)
  (hCX : ∀ H e s',CX [] H s₁ (fun _ _ _=>False) e s'→False) :
  codeAny (model P w) callerA (.call (.ref fa) ⟨[.ref a],[]⟩) (fun r s'=>r = .ok (.ret (.bool true))∧OldK s₁.heap s'.heap∧s'.os = s₁.os∧AllBare s'.gens) s₁:=by
 have rv:=oT hi
 have lenV:=hi.length
 have hat : a ∉ ts:=fun z=>by
  have:=hts a z
  rw [ha] at this; cases this
 have core : ∀ H : Hp,pQ ts H→SqL K H a (ns.map V.int)→HOk P w H s₁.heap→(∀ b,H b ≠ none→b = a∨b∈ts)→(H a ≠ none→K.lookup a = none) →
   codeAny (model P w) callerA (.call (.ref fa) ⟨[.ref a],[]⟩) (fun r s'=>r = .ok (.ret (.bool true))∧OldK s₁.heap s'.heap∧s'.os = s₁.os∧AllBare s'.gens) s₁:=by
  intro H hO hS hok hA hK
  have base_of : ∀ {b : Addr} {o : Obj},s₁.heap.get? b = some o→H b = none→(hidT s₁.heap H).get? b = some o:=fun e n=>zU e n
  have noA : ∀ {b : Addr} {o : Obj},s₁.heap.get? b = some o→(∀ v n,o.data ≠ .seq v n)→(∀ v,o.data ≠ .fields v)→H b = none:=fun {b o} e d1 d2=>by
   cases q : H b with
   | none=>rfl
   | some u =>
    rcases hA b (by rw [q]; simp) with e' | e'
    ·subst e'
     rw [ha] at e; cases e
     exact absurd rfl (d1 _ _)
    ·rw [hts b e'] at e; cases e
     exact absurd rfl (d2 _)
  have nsK : ∀ {b : Addr} {m : Str→Option Value},s₁.heap.Ns b m→(hidT s₁.heap H).Ns b m:=fun {b m} ⟨o,es,ep,e,d,r⟩=>⟨o,es,ep,base_of e (noA e (by rw [d]; intro v n z; cases z) (by rw [d]; intro v z; cases z)),d,r⟩
  have hKb : K.In (hidT s₁.heap H):=fun b o e=>base_of (KX b o e) (by
   cases q : H b with
   | none=>rfl
   | some u =>
    rcases hA b (by rw [q]; simp) with e' | e'
    ·subst e'
     rw [hK (by rw [q]; simp)] at e; cases e
    ·rw [hkt b e'] at e; cases e)
  have hB : BmOk mg (hidT s₁.heap H):=by
   obtain ⟨bm,o,b1,b2,b3,b4,b5,b6,b7⟩:=hbm
   exact ⟨bm,o,b1,b2,b3,base_of b4 (noA b4 (by rw [b7]; intro v n z; cases z) (by rw [b7]; intro v z; cases z)),b5,b6,b7⟩
  have hM : Mod K mg (hidT s₁.heap H):=⟨hKb,nsK hns,⟨mb,nsK hb,hbb⟩,let ⟨mc,h1,h2⟩:=hlim; ⟨mc,nsK h1,h2⟩⟩
  have e0 : Env0 P w K mg (hidT s₁.heap H) callerA [] s₁ H:=⟨rfl,hM,fun b o e=>aAW e,Nat.le_of_eq (xA _ _),trivial,fun b hb=>absurd (show b∈([] : List Addr) from hb) (by simp),hok,.of_eq hg⟩
  refine codeAny_mono ((F _ hKb (nsK hns) hB).run callerA [] s₁ H ⟨[.ref a],[]⟩ [.ref a] [.ref a] _ _ hr e0 (hbind s₁ (.ref a)) (.cons rfl .nil) (hsp H hO hS)) fun r s' h=>?_
  cases r with
  | error e=>exact (hCX H e s' h).elim
  | ok fl =>
   cases fl with
   | next=>exact False.elim h
   | brk=>exact False.elim h
   | cont=>exact False.elim h
   | ret u =>
    obtain ⟨v,H',os,bare,un,hok',r',q⟩:=h
    have q' : v = .bl true:=q
    subst q'
    obtain rfl : u = Value.bool true:=r'
    refine ⟨rfl,⟨fun b o e=>?_,fun b o e=>un.there b o e (by simp)⟩,os,bare⟩
    cases q : H b with
    | none=>exact .inl (un.keep b o e q (by intro z; exact absurd (show b∈([] : List Addr) from z) (by simp)) (by simp))
    | some u =>
     rcases hO.2 b with z | ⟨zt,z⟩ | ⟨ob,xs,z⟩
     ·rw [q] at z; cases z
     ·obtain ⟨more,z2⟩:=un.tbls b _ z
      have e1:=hts b zt
      rw [e] at e1; cases e1
      have e2 : s'.heap.get? b = some { cls:=.none,data:=.fields (#[] ++ more) }:=hok' b _ z2
      obtain ⟨c,hc⟩:=hcd b zt
      obtain ⟨oc,vsc,_,_,_,_,_,_,_,g1,g2,g3,g4,_⟩:=PySem.W.codeHd_of_K KX hc
      exact .inr (.inl ⟨⟨c,oc,vsc,g1,g2,g3,g4⟩,rfl,#[],more,rfl,e2⟩)
     ·have z2:=un.frzs b ob _ z
      obtain ⟨e1,_⟩:=hok b _ z
      obtain ⟨e2,_⟩:=hok' b _ z2
      rw [e] at e1; cases e1
      exact .inl e2
 have tabOk : ∀ (H : Hp),(∀ P∈ts,H P = some (.tbl #[]))→True:=fun _ _=>trivial
 classical
 cases hk : K.lookup a with
 | some o =>
  have e:=KX a o hk
  rw [ha] at e
  cases e
  refine core (fun b=>if b∈ts then some (.tbl #[]) else none) ⟨fun P hP=>if_pos hP,fun b=>?_⟩ (.inr ⟨_,vs.toArray,_,hk,rfl,rfl,rfl,by rw [List.size_toArray,lenV]; exact hl,by simpa using rv⟩) (fun b u z=>?_) (fun b z=>?_) fun z=>absurd (if_neg hat) z
  ·by_cases hb : b∈ts
   ·exact .inr (.inl ⟨hb,if_pos hb⟩)
   ·exact .inl (if_neg hb)
  ·by_cases hb : b∈ts
   ·have z':=(if_pos hb).symm.trans z
    cases z'
    exact hts b hb
   ·have z':=(if_neg hb).symm.trans z
    cases z'
  ·by_cases hb : b∈ts
   ·exact .inr hb
   ·exact absurd (if_neg hb) z
 | none =>
  refine core (fun b=>if b = a then some (.frz { cls:=.type "list",data:=.seq vs.toArray } (.lst (ns.map V.int))) else if b∈ts then some (.tbl #[]) else none) ⟨fun P hP=>?_,fun b=>?_⟩ (.inl (.inr ⟨{ cls:=.type "list",data:=.seq vs.toArray },if_pos rfl⟩)) (fun b u z=>?_) (fun b z=>?_) fun _=>hk
  ·have : P ≠ a:=fun z=>hat (z ▸ hP)
   show (if P = a then _ else if P∈ts then _ else _) = _
   rw [if_neg this,if_pos hP]
  ·by_cases hb : b = a
   ·exact .inr (.inr ⟨_,_,if_pos hb⟩)
   ·by_cases ht : b∈ts
    ·exact .inr (.inl ⟨ht,by show (if b = a then _ else if b∈ts then _ else _) = _; rw [if_neg hb,if_pos ht]⟩)
    ·exact .inl (by show (if b = a then _ else if b∈ts then _ else _) = _; rw [if_neg hb,if_neg ht])
  ·by_cases hb : b = a
   ·have z':=(if_pos hb).symm.trans z
    cases z'
    subst hb
    exact ⟨ha,by rw [List.length_map]; exact hl,vs,_,rv,ha⟩
   ·have z1 : (if b∈ts then some (HO.tbl #[]) else none) = some u:=(if_neg hb).symm.trans z
    by_cases ht : b∈ts
    ·rw [if_pos ht] at z1; cases z1
     exact hts b ht
    ·rw [if_neg ht] at z1; cases z1
  ·by_cases hb : b = a
   ·exact .inl hb
   ·by_cases ht : b∈ts
    ·exact .inr ht
    ·exact absurd (by show (if b = a then _ else if b∈ts then _ else _) = _; rw [if_neg hb,if_neg ht]) z
theorem aAh {l : PySem.W.OpenLaw} {n k : Nat} {q : Program} {loose : List Str} {XP : (Str→Option Value)→Heap→Prop} {YP : World→Heap→Prop} {d : DefRec} {K : Params→PySem.W.Frag} {CX : World→CXT} {sp : World→Sp} {x : Str} {ts : List Addr}
  (hn : l.most = some n) (hn2 : n ≤ sizeLine) (hdf : d.params.defaults = []) (hr : Room k callerA)
  (hY : ∀ (w : World) (h : Heap),YP w h→(K w.params).In h) (hT : ∀ (w : World) (h : Heap),YP w h→∀ P∈ts,h.get? P = some (PySem.W.tabObj #[]))
  (hcd : ∀ (w : World),∀ P∈ts,∃ c,PySem.W.codeHdIn (K w.params) c P = true) (hkt : ∀ (w : World),∀ P∈ts,(K w.params).lookup P = none)
  (F : ∀ (w : World) (mg : Str→Option Value) (fa : Addr) (h : Heap),(K w.params).In h→h.Ns mainGlobals mg→mg d.name = some (.ref fa) →
   ∃ fd : FuncData,(∀ (s : Shared) (u : Value),BindsTo s fd ⟨[u],[]⟩ [(x,u)]) ∧
    ∀ base : Heap,(K w.params).In base→base.Ns mainGlobals mg→BmOk mg base→FnOk l.prog w (K w.params) mg base (CX w) k fa fd [x] (sp w))
  (hsp : ∀ (w : World) (H : Hp) (a : Addr) (ns : List Int),ns.length ≤ n→pQ ts H→SqL (K w.params) H a (ns.map V.int)→sp w [.ref a] H (fun v _=>v = .bl true) fun _ _ _=>False)
  (hCX : ∀ (w : World) (H : Hp) (s : Shared) (e : Value) (s' : Shared),CX w [] H s (fun _ _ _=>False) e s'→False) :
  PySem.W.WalkO q loose XP YP l.row.toRowW d [] (fun f vs=>PySem.call f vs):=by
 refine Att.attach_call hn hdf fun w s₀ s₁ mg mb fa o pm cd doc a vs ns G Y ho hd hcd' hmg hobj hints hlen hg=>?_
 have KX:=hY w _ Y
 obtain ⟨fd,hb,hF⟩:=F w mg fa _ KX G.T.g hmg
 have hB : BmOk mg s₁.heap:=by
  obtain ⟨bm,ob,b1,b2,b3,b4,b5,b6⟩:=G.T.bmain
  refine ⟨bm,ob,b1,b2,fun z=>?_,b3,b4,b5,b6⟩
  obtain ⟨o',es,ep,e,hd',_⟩:=G.T.g
  rw [z,e] at b3; cases b3; rw [hd'] at b6; cases b6
 exact yK KX G.T.g G.T.b G.T.builtins G.T.nolimit hg hB (hT w _ Y) (hcd w) (hkt w) hobj hints (Nat.le_trans hlen hn2) hr hF hb (fun H hO hS=>hsp w H a ns hlen hO hS) fun H e s'=>hCX w H s₁ e s'
structure FunC (K : PySem.W.Frag) (x qual : Str) (st : Stmt) (f : Addr) (fd : FuncData) (c : Addr) : Prop where
 ex : ∃ (oc : Value) (od : Option Addr) (kV doc pm : Value) (an : Option Addr) (ct : Value) (osl : Array (Option Value)),
  fd = PySem.W.fnOf x qual (cL st) (cB st) (aH st) .none kV doc pm an (.ref c) ct∧K.lookup f = some ⟨oc,od,.func fd,osl⟩∧PySem.W.codeIn K (.ref c) qual = true
 kp : PySem.W.keepIn K (.ref f) = true
theorem FunC.fun {K : PySem.W.Frag} {x qual : Str} {st : Stmt} {f : Addr} {fd : FuncData} {c : Addr} (F : FunC K x qual st f fd c) : Fun K x qual st f fd:=by
 obtain ⟨oc,od,kV,doc,pm,an,ct,osl,e,lk,hcd⟩:=F.ex
 exact ⟨⟨oc,od,kV,doc,pm,an,_,ct,osl,e,lk,hcd⟩,F.kp⟩
section
variable {P : Program} {w : World} {K : PySem.W.Frag} {mg : Str→Option Value} {base : Heap}
theorem FunC.ok {x qual : Str} {st : Stmt} {f : Addr} {fd : FuncData} {c : Addr} {N ps : List Str} {k : Nat} {sp : Sp} (F : FunC K x qual st f fd c) (S : aS N ps (aH st)) (len : ∀ vs H Q E,sp vs H Q E→vs.length = ps.length)
  (hbody : ∀ (A : Around) (outer : List Env) (s : Shared) (H : Hp) (vs : List V) (Q : VK) (E : XK),Room k (A.deeper (envOfC qual (aH st) s.heap.objs.size f (.ref c)))→sp vs H Q E →
   ∃ t,PSs (cxOf CX0 P w K mg base N qual (aH st) f (.ref c) A outer s H E).nox (cB st) t∧t { nx:=fun _ H'=>Q .non H',rt:=Q } (start N vs) H) : FnOk P w K mg base CX0 (k + 1) f fd ps sp:=by
 obtain ⟨oc,od,kV,doc,pm,an,ct,osl,rfl,lk,hcd⟩:=F.ex
 refine aAL lk hcd S len fun A outer s H vs Q E hr hsp=>?_
 obtain ⟨t,h,q⟩:=hbody A outer s H vs Q E hr hsp
 exact ⟨t,h.nox,q⟩
theorem aBc {x qual : Str} {st : Stmt} {f c : Addr} {oc : Value} {od an : Option Addr} {osl : Array (Option Value)} {kV doc pm ct : Value} (l : K.lookup f = some ⟨oc,od,.func (PySem.W.fnOf x qual (cL st) (cB st) (aH st) .none kV doc pm an (.ref c) ct),osl⟩)
  (hcd : PySem.W.codeIn K (.ref c) qual = true) (kp : PySem.W.keepIn K (.ref f) = true) : FunC K x qual st f (PySem.W.fnOf x qual (cL st) (cB st) (aH st) .none kV doc pm an (.ref c) ct) c:=⟨⟨oc,od,kV,doc,pm,an,ct,osl,rfl,l,hcd⟩,kp⟩
theorem aBd {N : List Str} {qual : Str} {scope : Scope} {f c P' : Addr} {CX : CXT} {A : Around} {outer : List Env} {s : Shared} {H : Hp} {E : XK} (kb : K.In base) (hb : BmOk mg base) (hc : PySem.W.codeHdIn K c P' = true) :
  LamC (cxOf CX P w K mg base N qual scope f (.ref c) A outer s H E).nox c P':=⟨rfl,PySem.W.codeHd_of_K kb hc,hb⟩
end
end L2
namespace L2
open PySem PySem.Spec PyProof.Rows
def kM (sc scX : Scope) (y : Str × NameKind) : Bool:=match y.2 with
 | .cell=>(match sc.names.lookup y.1 with | some .cell=>true | _=>false)
 | .local=>(match sc.names.lookup y.1 with | some .local=>true | _=>false)
 | .free=>(match scX.names.lookup y.1 with | some .cell=>true | some .free=>true | _=>false)
 | _=>true
def yL (NB : List Str) (src : List (Option Nat)) (sc : Scope) (N : List Str) (i : Nat) : Bool:=match NB[i]?,src[i]? with
 | some x,some (some j)=>(N[j]? == some x) && (match sc.names.lookup x with | some .free=>true | _=>false)
 | _,_=>true
def uB (sc : Scope) : Bool:=match sc.kind with | .function=>true | _=>false
def yM (NB : List Str) (src : List (Option Nat)) (sc scX : Scope) (N : List Str) : Bool :=
 uB sc && decide NB.Nodup && (src.length == NB.length) && (sc.names.all (kM sc scX)) && (List.range NB.length).all (yL NB src sc N)
theorem bB {NB : List Str} {src : List (Option Nat)} {sc : Scope} {X : Cx} (h : yM NB src sc X.env.scope X.N = true) : eV NB src sc X:=by
 unfold yM at h
 simp only [Bool.and_eq_true,decide_eq_true_eq,beq_iff_eq,List.all_eq_true] at h
 obtain ⟨⟨⟨⟨h1,h2⟩,h3⟩,h4⟩,h5⟩:=h
 refine ⟨?_,h2,h3,fun y hy z=>?_,fun y hy z=>?_,fun y hy z=>?_,fun i x j e1 e2=>?_⟩
 ·unfold uB at h1
  split at h1
  ·assumption
  ·cases h1
 ·have:=h4 y hy
  obtain ⟨n,k⟩:=y
  obtain rfl : k = .cell:=z
  dsimp only [kM] at this ⊢
  split at this
  ·assumption
  ·cases this
 ·have:=h4 y hy
  obtain ⟨n,k⟩:=y
  obtain rfl : k = .local:=z
  dsimp only [kM] at this ⊢
  split at this
  ·assumption
  ·cases this
 ·have:=h4 y hy
  obtain ⟨n,k⟩:=y
  obtain rfl : k = .free:=z
  dsimp only [kM] at this ⊢
  split at this
  ·exact .inl (by assumption)
  ·exact .inr (by assumption)
  ·cases this
 ·have hi : i < NB.length:=(List.getElem?_eq_some_iff.mp e1).1
  have:=h5 i (List.mem_range.mpr hi)
  unfold yL at this
  rw [e1,e2] at this
  simp only [Bool.and_eq_true,beq_iff_eq] at this
  refine ⟨this.1,?_⟩
  have t2:=this.2
  split at t2
  ·assumption
  ·cases t2
theorem cQ {K : PySem.W.Frag} {a D : Addr} {xs : List V} {g : TG} {tt : TT} {te : TE} {fin : Hp→Prop} {σB : St} {H0 : Hp} (Pv : Nat→List V→St→Hp→Prop) (h0 : Pv 0 [] σB H0)
  (hl : ∀ i ys σ H,i ≤ xs.length→Pv i ys σ H→SqL K H a xs)
  (hs : ∀ i x ys σ H (Kt : V→St→Hp→Prop) (Kf : St→Hp→Prop),xs[i]? = some x→Pv i ys σ H →
   (∀ v σ2 H4,H4 D = some (.lst ys)→ys.length < sizeLine→Pv (i + 1) (ys ++ [v]) σ2 (upd H4 D (.lst (ys ++ [v])))→Kt v σ2 H4)→(∀ σ2 H3,Pv (i + 1) ys σ2 H3→Kf σ2 H3) →
   g x σ H fun σ2 H2=>tt σ2 H2 fun b H3=>if b = true then te σ2 H3 fun v H4=>Kt v σ2 H4 else Kf σ2 H3)
  (hd : ∀ ys σ H,Pv xs.length ys σ H→fin H) : eB (Itl K a) g tt te D fin σB H0:=by
 refine ⟨fun i m σ H=>m = xs.length - i∧i ≤ xs.length∧∃ ys,Pv i ys σ H,⟨xs.length,by simp,Nat.zero_le _,[],h0⟩,?_⟩
 rintro i m σ H ⟨rfl,hi,ys,p⟩
 have q:=hl i ys σ H hi p
 by_cases hlt : i < xs.length
 ·refine .inr ⟨⟨xs,xs[i],q,by simp [hlt]⟩,?_⟩
  rintro x H' ⟨rfl,y⟩
  exact hs i x ys σ _ (fun v σ2 H4=>∃ ys,H4 D = some (.lst ys)∧ys.length < sizeLine∧∃ m',m' < xs.length - i∧m' = xs.length - (i + 1)∧i + 1 ≤ xs.length∧∃ ys',Pv (i + 1) ys' σ2 (upd H4 D (.lst (ys ++ [v]))))
   (fun σ2 H3=>∃ m',m' < xs.length - i∧m' = xs.length - (i + 1)∧i + 1 ≤ xs.length∧∃ ys',Pv (i + 1) ys' σ2 H3) (y xs q) p
   (fun v σ2 H4 z1 z2 z3=>⟨ys,z1,z2,_,by lia,rfl,hlt,_,z3⟩) (fun σ2 H3 z=>⟨_,by lia,rfl,hlt,_,z⟩)
 ·have e : i = xs.length:=by lia
  subst e
  exact .inl ⟨⟨xs,q,Nat.le_refl _⟩,hd ys σ H p⟩
theorem dM {lo : Int} {n : Nat} {D : Addr} {g : TG} {tt : TT} {te : TE} {fin : Hp→Prop} {σB : St} {H0 : Hp} (Pv : Nat→List V→St→Hp→Prop) (h0 : Pv 0 [] σB H0)
  (hs : ∀ i ys σ H (Kt : V→St→Hp→Prop) (Kf : St→Hp→Prop),i < n→Pv i ys σ H →
   (∀ v σ2 H4,H4 D = some (.lst ys)→ys.length < sizeLine→Pv (i + 1) (ys ++ [v]) σ2 (upd H4 D (.lst (ys ++ [v])))→Kt v σ2 H4)→(∀ σ2 H3,Pv (i + 1) ys σ2 H3→Kf σ2 H3) →
   g (.int (lo + i)) σ H fun σ2 H2=>tt σ2 H2 fun b H3=>if b = true then te σ2 H3 fun v H4=>Kt v σ2 H4 else Kf σ2 H3)
  (hd : ∀ ys σ H,Pv n ys σ H→fin H) : eB (Itr lo n) g tt te D fin σB H0:=by
 refine ⟨fun i m σ H=>m = n - i∧i ≤ n∧∃ ys,Pv i ys σ H,⟨n,by simp,Nat.zero_le _,[],h0⟩,?_⟩
 rintro i m σ H ⟨rfl,hi,ys,p⟩
 by_cases hlt : i < n
 ·refine .inr ⟨hlt,?_⟩
  rintro x H' ⟨rfl,rfl⟩
  exact hs i ys σ _ (fun v σ2 H4=>∃ ys,H4 D = some (.lst ys)∧ys.length < sizeLine∧∃ m',m' < n - i∧m' = n - (i + 1)∧i + 1 ≤ n∧∃ ys',Pv (i + 1) ys' σ2 (upd H4 D (.lst (ys ++ [v]))))
   (fun σ2 H3=>∃ m',m' < n - i∧m' = n - (i + 1)∧i + 1 ≤ n∧∃ ys',Pv (i + 1) ys' σ2 H3) hlt p
   (fun v σ2 H4 z1 z2 z3=>⟨ys,z1,z2,_,by lia,rfl,hlt,_,z3⟩) (fun σ2 H3 z=>⟨_,by lia,rfl,hlt,_,z⟩)
 ·have e : i = n:=by lia
  subst e
  exact .inl ⟨Nat.le_refl _,hd ys σ H p⟩
end L2
namespace L2
open PySem PySem.Spec PyProof.Rows
section
variable {κ : Type} [DecidableEq κ]
end
section
variable {P : Program} {w : World} {H : Hp} {h : Heap} {a : Addr}
end
section
variable {X : Cx} {pins : List (Addr × Obj)} {σ : St} {H : Hp} {s : Shared} {a : Addr} {y v : V} {u r : Value} {o : Option V} {A : Around} {E : Value→Shared→Prop}
end
section
variable {X : Cx} {pins : List (Addr × Obj)} {σ : St} {H : Hp} {s : Shared} {a : Addr} {kvs : List (Key × V)} {k : Key} {u : Value} {A : Around} {E : Value→Shared→Prop}
end
section
variable {X : Cx} {o i e value : Expr} {pos pos' tpos : Pos} {td ty tv : TE}
end
section
variable {X : Cx} {pos : Pos}
end
section
variable {X : Cx} {pins : List (Addr × Obj)} {σ : St} {H : Hp} {s : Shared} {a : Addr} {y d : V} {u r : Value} {o : Option V} {A : Around} {E : Value→Shared→Prop}
end
section
variable {X : Cx} {o e f : Expr} {apos cpos : Pos} {td ty tx : TE}
end
section
variable {X : Cx} {pins : List (Addr × Obj)} {σ : St} {H : Hp} {s : Shared} {a : Addr} {kvs : List (Key × V)} {A : Around} {E : Value→Shared→Prop}
end
section
variable {X : Cx} {pins : List (Addr × Obj)} {σ : St} {H : Hp} {s : Shared} {a : Addr} {y : V} {u : Value} {A : Around} {E : Value→Shared→Prop}
end
end L2
namespace L2
open PySem PySem.Spec PyProof.Rows
section
variable {X : Cx}
end
section
variable {κ : Type} [DecidableEq κ]
end
end L2
namespace L2
open PySem PySem.Spec PyProof.Rows
section
variable {X : Cx}
end
end L2
namespace L2
open PySem PySem.Spec PyProof.Rows
end L2
namespace L2
open PySem PySem.Spec PyProof.Rows
section
variable {X : Cx}
end
end L2
namespace L2
open PySem PySem.Spec PyProof.Rows
section
variable {prog : Program} {w : World} {A : Around} {E : Value→Shared→Prop} {s : Shared}
end
end L2
namespace L2
open PySem PySem.Spec PyProof.Rows
end L2
namespace L2
open PySem PySem.Spec PyProof.Rows
section
variable {X : Cx}
end
end L2
namespace L2
open PySem PySem.Spec PyProof.Rows
section
variable {X : Cx} {tg : Expr}
end
end L2
namespace L2
open PySem PySem.Spec PyProof.Rows
end L2
namespace L2
open PySem PySem.Spec PyProof.Rows
section
variable {prog : Program} {w : World} {A : Around} {E : Value→Shared→Prop} {s : Shared} {R : Result→Shared→Prop} {l d Ia : Addr}
end
end L2
namespace L2
open PySem PySem.Spec PyProof.Rows
section
variable {prog : Program} {w : World} {A : Around} {E : Value→Shared→Prop} {s : Shared} {l : Addr}
end
end L2
namespace L2
open PySem PySem.Spec PyProof.Rows
section
variable {X : Cx}
end
end L2
namespace L2
open PySem PySem.Spec PyProof.Rows
section
variable {X : Cx}
theorem oZ (hc : X.calm = true) : cV X (.builtin "all") (fun xs H Q=>∃ (p : Addr) (bs : List Bool),xs = [.ref p]∧SqL X.K H p (bs.map V.bl)∧Q (.bl (bs.all id)) H):=by
 intro pins s σ H xs us Q I r h
 obtain ⟨p,bs,rfl,hp,q⟩:=h
 obtain ⟨u1,rfl,r1⟩:=r.one
 obtain rfl : u1 = Value.ref p:=r1
 obtain ⟨its,rv,pl,hz⟩:=I.list hp
 have hits : its = bs.map Value.bool:=by
  have go : ∀ (bs : List Bool) (its : List Value),Vals (bs.map V.bl) its→its = bs.map Value.bool:=by
   intro bs
   induction bs with
   | nil=>intro its r; cases r; rfl
   | cons b bs ih =>
    intro its r
    cases r with
    | cons r rr =>
     obtain rfl:=(show _ = Value.bool b from r)
     rw [ih _ rr]; rfl
  exact go bs its rv
 subst hits
 obtain ⟨ob,hob,_⟩:=id pl.isList
 have hlt : p < s.heap.objs.size:=Heap.lt_size hob
 refine call_all_walk (wpAny_pyIter_list pl.isList ⟨s.heap.objs.size,_,_,_,_,_,fun i=>bs.getD i true,rfl,Walks.list (show X.A.in1.handled = none from I.ok.hd hc) _ p (Nat.ne_of_lt hlt) _,⟨⟨_,Heap.get?_push_size _ rfl,rfl,rfl⟩,pl.isList.push _⟩,fun i v s1 Q' E' hv hq=>?_,fun h' tk k=>?_⟩)
 ·have hv' : (bs.map Value.bool)[i]? = some v:=by simpa using hv
  rw [List.getElem?_map] at hv'
  cases eb : bs[i]? with
  | none=>rw [eb] at hv'; cases hv'
  | some b =>
   rw [eb] at hv'
   obtain rfl : Value.bool b = v:=Option.some.inj hv'
   have : bs.getD i true = b:=by rw [List.getD_eq_getElem?_getD,eb]; rfl
   have hq' : Q' b s1:=by rw [← this]; exact hq
   exact wpAny_pure hq'
 ·have keep : ∀ b o,s.heap.get? b = some o→h'.get? b = some o:=fun b o e=>k b o (by simpa using Nat.ne_of_lt (Heap.lt_size e)) (Heap.get?_push_of_some _ e)
  refine ⟨.bl (bs.all id),H,I.kept (t':=tk) keep,?_,q⟩
  show Value.bool _ = Value.bool _
  congr 1
  have go : ∀ (bs : List Bool),((List.range bs.length).all fun i=>bs.getD i true) = bs.all id:=by
   intro bs
   induction bs with
   | nil=>rfl
   | cons b bs ih =>
    rw [List.length_cons,List.range_succ_eq_map,List.all_cons,List.all_map,List.all_cons,← ih]
    rfl
  rw [← go bs]
  simp
end
end L2
namespace L2
open PySem PySem.Spec PyProof.Rows
structure Cal (P : Program) (w : World) (K : PySem.W.Frag) (mg : Str→Option Value) (base : Heap) (CX : CXT) (k : Nat) (x : Str) (ps : List Str) (sp : Sp) : Prop where
 ex : ∃ f fd,mg x = some (.ref f)∧PySem.W.keepIn K (.ref f) = true∧eA K fd ps []∧FnOk P w K mg base CX k f fd ps sp
theorem aN {X : Cx} {CX : CXT} {k : Nat} {x : Str} {ps : List Str} {sp : Sp} {E : XK} {e : Expr} {es : List Expr} {t : TA} {p pos : Pos} (C : Cal X.prog X.w X.K X.mg X.base CX k x ps sp) (hr : Room k X.A) (hx : fJ CX X E) (ha : PA X (e :: es) t) (hg : Gl X x:=by rfl)
  (hdb : (x == ("__debug__" : Str)) = false:=by decide) (he : starEach (e :: es) X.env = (false,eval e X.env) :: starEach es X.env:=by rfl) (hpl : (backTo pos (starEach es X.env)).any (·.1) = false:=by rfl) :
  PE X (.Call (.Name x p) (e :: es) [] pos) (lU sp [] E t):=by
 obtain ⟨f,fd,a,b,c,d⟩:=C.ex
 exact aA0 d hr hg a b c .nil hx ha hdb he hpl
theorem aE {H : Hp} {D : Addr} {o : HO} (h : H D = none) : Same H (upd H D o):=fun b u e=>by rw [aI (aM e h)]; exact e
def aU (p : Addr) (H H' : Hp) : Prop:=∀ b o,H b = some o→b ≠ p→H' b = some o
theorem aU.refl {p : Addr} {H : Hp} : aU p H H:=fun _ _ h _=>h
theorem aU.trans {p : Addr} {H H1 H2 : Hp} (a : aU p H H1) (b : aU p H1 H2) : aU p H H2:=fun c o h n=>b c o (a c o h n) n
theorem aU.upd {p : Addr} {H : Hp} {o : HO} : aU p H (upd H p o):=fun b u h n=>by rw [aI n]; exact h
theorem aU.of {p : Addr} {H H' : Hp} (s : Same H H') : aU p H H':=fun b o h _=>s b o h
theorem aU.free {p q : Addr} {H H' : Hp} (s : aU p H H') (hp : H' p ≠ none) (h : H' q = none) : H q = none:=by
 cases z : H q with
 | none=>rfl
 | some o =>
  by_cases e : q = p
  ·subst e; exact absurd h hp
  ·rw [s q o z e] at h; cases h
theorem iL {n j : Nat} (h : j < n) : ixN n (j : Int) = some j:=by
 unfold ixN
 rw [if_pos (by lia),if_pos (by lia)]
 simp
theorem yN {as : List Addr} {t : Addr} {j n : Nat} (h : as.length = n) : (as ++ [t]).getD j 0 = if j = n then t else as.getD j 0:=by
 rw [List.getD_eq_getElem?_getD,List.getD_eq_getElem?_getD]
 by_cases hj : j = n
 ·subst hj; subst h
  rw [if_pos rfl,List.getElem?_append_right (Nat.le_refl _),Nat.sub_self]; rfl
 ·rw [if_neg hj]
  by_cases hlt : j < as.length
  ·rw [List.getElem?_append_left hlt]
  ·rw [List.getElem?_append_right (by lia),List.getElem?_eq_none (by simp; lia),List.getElem?_eq_none (by lia)]
def Holds (H : Hp) (as : List Addr) (n : Nat) (o : Nat→HO) : Prop:=as.length = n∧∀ j,j < n→H (as.getD j 0) = some (o j)
theorem Holds.nil {H : Hp} {o : Nat→HO} : Holds H [] 0 o:=⟨rfl,fun j hj=>absurd hj (by lia)⟩
theorem Holds.snoc {H : Hp} {as : List Addr} {n : Nat} {o : Nat→HO} {t : Addr} (h : Holds H as n o) (ht : H t = some (o n)) : Holds H (as ++ [t]) (n + 1) o:=by
 refine ⟨by rw [List.length_append,h.1]; rfl,fun j hj=>?_⟩
 rw [yN h.1]
 by_cases e : j = n
 ·rw [if_pos e,e]; exact ht
 ·rw [if_neg e]; exact h.2 j (by lia)
theorem Holds.mono {H H' : Hp} {as : List Addr} {n : Nat} {o : Nat→HO} (h : Holds H as n o) (e : ∀ j,j < n→H (as.getD j 0) = some (o j)→H' (as.getD j 0) = some (o j)) : Holds H' as n o:=⟨h.1,fun j hj=>e j hj (h.2 j hj)⟩
end L2
namespace PyProof.Rows
open PySem
def cZ : Bool→Keyed→Array Keyed→Nat→Nat→Nat→StateT SortSt Sem (Option Nat):=sortPriv% PySem.Builtin.gallop
def lG : Array Keyed→Array Keyed→StateT SortSt Sem (Array Keyed):=sortPriv% PySem.Builtin.mergeLo
def lH : Array Keyed→Array Keyed→StateT SortSt Sem (Array Keyed):=sortPriv% PySem.Builtin.mergeHi
def cS : Nat→StateT SortSt Sem Unit:=sortPriv% PySem.Builtin.setMinGallop
def Cmp (prog : Program) (w : World) (A : Around) (s : Shared) (κ : SortKind) (a₀ : Array Keyed) (key : Keyed→Int) : Prop :=
 ∀ x y,x∈a₀.toList→y∈a₀.toList→∀ (Q : Bool→Shared→Prop) (E : Value→Shared→Prop),Q (decide (key x < key y)) s→wpAny (model prog w) A (keyLt' κ x.1 y.1) Q E s
structure SQ (κ : SortKind) (a₀ : Array Keyed) (pd : Array (Nat × Nat × Nat)) (st : SortSt) : Prop where
 perm : (arrOf st).Perm a₀
 kind : kindOf st = κ
 failed : failedOf st = none
 pend : pendingOf st = pd
def kk (key : Keyed→Int) (a : Array Keyed) (i : Nat) : Int:=(a[i]?.map key).getD 0
def So (key : Keyed→Int) (a : Array Keyed) (lo hi : Nat) : Prop:=∀ i j,lo ≤ i→i ≤ j→j < hi→kk key a i ≤ kk key a j
def Out (a b : Array Keyed) (lo hi : Nat) : Prop:=∀ k,k < lo∨hi ≤ k→b[k]? = a[k]?
theorem Out.refl {a : Array Keyed} {lo hi : Nat} : Out a a lo hi:=fun _ _=>rfl
theorem Out.trans {a b c : Array Keyed} {lo hi : Nat} (x : Out a b lo hi) (y : Out b c lo hi) : Out a c lo hi:=fun k h=>(y k h).trans (x k h)
theorem Out.wide {a b : Array Keyed} {lo hi lo' hi' : Nat} (x : Out a b lo hi) (h1 : lo' ≤ lo) (h2 : hi ≤ hi') : Out a b lo' hi':=fun k h=>x k (by lia)
theorem bY {key : Keyed→Int} {a : Array Keyed} {i : Nat} (h : i < a.size) : kk key a i = key a[i]:=by unfold kk; rw [getElem?_pos a i h]; rfl
theorem eD {key : Keyed→Int} {a b : Array Keyed} {i j : Nat} (h : a[i]? = b[j]?) : kk key a i = kk key b j:=by unfold kk; rw [h]
section
variable {prog : Program} {w : World} {A : Around} {E : Value→Shared→Prop} {s : Shared} {κ : SortKind} {a₀ : Array Keyed} {pd : Array (Nat × Nat × Nat)} {key : Keyed→Int}
theorem SQ.size {st : SortSt} (h : SQ κ a₀ pd st) : (arrOf st).size = a₀.size:=h.perm.size_eq
theorem SQ.setArr {st : SortSt} (h : SQ κ a₀ pd st) {xs : Array Keyed} (hp : xs.Perm (arrOf st)) : SQ κ a₀ pd (setArr st xs):=⟨hp.trans h.perm,h.kind,h.failed,h.pend⟩
theorem SQ.at {st : SortSt} (h : SQ κ a₀ pd st) {i : Nat} (hi : i < a₀.size) : ∃ p,(arrOf st)[i]? = some p∧p∈a₀.toList:=by
 have hi' : i < (arrOf st).size:=by rw [h.size]; exact hi
 exact ⟨(arrOf st)[i],getElem?_pos _ i hi',(Array.perm_iff_toList_perm.mp h.perm).mem_iff.mp (by simp)⟩
theorem jV {st : SortSt} {x y : Keyed} {Q : Option Bool→SortSt→Prop} (hC : Cmp prog w A s κ a₀ key) (hk : kindOf st = κ) (hx : x∈a₀.toList) (hy : y∈a₀.toList) (h : Q (some (decide (key x < key y))) st) : wpS (model prog w) A E s (lt' x y) Q st:=by
 rw [lt'_eq]
 refine wpS_bind (wpS_get ?_)
 rw [hk]
 refine wpS_bind (wpS_lift (wpAny_attempt (hC x y hx hy _ _ ⟨rfl,?_⟩)))
 exact wpS_pure h
theorem bP {st : SortSt} {arr : Array Keyed} {i : Nat} {p : Keyed} {Q : Keyed→SortSt→Prop} (hi : arr[i]? = some p) (h : Q p st) : wpS (model prog w) A E s (elem' arr i) Q st:=by
 rw [elem'_eq,hi]
 exact wpS_pure h
theorem iM {st : SortSt} {i j : Nat} {Q : Option Bool→SortSt→Prop} (hC : Cmp prog w A s κ a₀ key) (hB : SQ κ a₀ pd st) (hi : i < a₀.size) (hj : j < a₀.size) (h : ∀ b,b = decide (kk key (arrOf st) i < kk key (arrOf st) j)→Q (some b) st) : wpS (model prog w) A E s (ltAt' i j) Q st:=by
 obtain ⟨p,e1,m1⟩:=hB.at hi
 obtain ⟨q,e2,m2⟩:=hB.at hj
 rw [ltAt'_eq]
 refine wpS_bind (wpS_get ?_)
 refine wpS_bind (bP e1 (wpS_bind (bP e2 (jV hC hB.kind m1 m2 (h _ ?_)))))
 unfold kk
 rw [e1,e2]; rfl
theorem kN {st : SortSt} {i j : Nat} {Q : Unit→SortSt→Prop} (hB : SQ κ a₀ pd st) (hj : j ≤ a₀.size) (h : ∀ st',SQ κ a₀ pd st'→(∀ k,(arrOf st')[k]? = if i ≤ k∧k < j then (arrOf st)[i + j - 1 - k]? else (arrOf st)[k]?)→Q () st') : wpS (model prog w) A E s (reverseSlice' i j) Q st:=by
 rw [reverseSlice'_eq]
 exact wpS_modify (h _ (hB.setArr (mirror_perm _ _ _ _)) (getElem?_mirror_all (by rw [hB.size]; exact hj)))
theorem aAi {st : SortSt} {i j : Nat} {Q : Unit→SortSt→Prop} (hB : SQ κ a₀ pd st) (hi : i < a₀.size) (hj : j ≤ i) (h : ∀ st',SQ κ a₀ pd st'→(∀ k,(arrOf st')[k]? = if k = j then (arrOf st)[i]? else if j < k∧k ≤ i then (arrOf st)[k - 1]? else (arrOf st)[k]?)→Q () st') : wpS (model prog w) A E s (moveDown' i j) Q st:=by
 rw [moveDown'_eq]
 refine wpS_modify (h _ (hB.setArr (bubble_perm _ _ _)) fun k=>?_)
 have:=getElem?_bubble (xs:=arrOf st) (src:=i) (by rw [hB.size]; exact hi) (i - j) (by lia) k
 rw [show i - (i - j) = j by lia] at this
 exact this
theorem aBe {st : SortSt} {lo n ok : Nat} {Q : Bool → SortSt → Prop} (hC : Cmp prog w A s κ a₀ key) (hn : lo + n ≤ a₀.size) (hok : ok ≤ n) (hB : SQ κ a₀ pd st) (hs : So key (arrOf st) lo (lo + ok)) (h : ∀ st', SQ κ a₀ pd st' → So key (arrOf st') lo (lo + n) → Out (arrOf st) (arrOf st') lo (lo + n) → Q true st') : wpS (model prog w) A E s (binarySort' lo n ok) Q st := by
  rw [binarySort'_eq]
  refine wpS_bind (wpS_mono (wpS_forRange (I := fun k c st' => c = (none, ()) ∧ SQ κ a₀ pd st' ∧ So key (arrOf st') lo (lo + k) ∧ Out (arrOf st) (arrOf st') lo (lo + n)) (Q := fun c st' => c = (none, ()) ∧ SQ κ a₀ pd st' ∧ So key (arrOf st') lo (lo + n) ∧ Out (arrOf st) (arrOf st') lo (lo + n)) ?_ (fun c st' hh => ⟨hh.1, hh.2.1, fun i j h1 h2 h3 => hh.2.2.1 i j h1 h2 (by lia), hh.2.2.2⟩) ⟨rfl, hB, fun i j h1 h2 h3 => ?_, Out.refl⟩) ?_)
  · rintro k c st' hk1 hk2 ⟨rfl, hB', so, ou⟩
    dsimp only
    refine wpS_bind (wpS_mono (wpS_forRange (I := fun x c st'' => (∃ l r, c = (none, l, r) ∧ l ≤ r ∧ r ≤ k ∧ r ≤ l + (k - x) ∧ (∀ i, i < l → kk key (arrOf st') (lo + i) ≤ kk key (arrOf st') (lo + k)) ∧ (∀ i, r ≤ i → i < k → kk key (arrOf st') (lo + k) ≤ kk key (arrOf st') (lo + i))) ∧ st'' = st') (Q := fun c st'' => (∃ l r, c = (none, l, r) ∧ l ≤ k ∧ (∀ i, i < l → kk key (arrOf st') (lo + i) ≤ kk key (arrOf st') (lo + k)) ∧ (∀ i, l ≤ i → i < k → kk key (arrOf st') (lo + k) ≤ kk key (arrOf st') (lo + i))) ∧ st'' = st') ?_ ?_ ⟨⟨_, _, rfl, Nat.zero_le _, Nat.le_refl _, by lia, fun i h => by lia, fun i h h' => by lia⟩, rfl⟩) ?_)
    · rintro x c st2 _ hx ⟨⟨l, r, rfl, hlr', hr, hrl, f1, f2⟩, rfl⟩
      dsimp only
      by_cases hlr : l ≥ r
      · rw [if_pos hlr]
        exact wpS_pure ⟨⟨_, _, rfl, by lia, f1, fun i hi hi' => f2 i (by lia) hi'⟩, rfl⟩
      · rw [if_neg hlr]
        refine wpS_bind (iM hC hB' (by lia) (by lia) fun b eb => ?_)
        cases b
        · have e := of_decide_eq_false eb.symm
          refine wpS_pure ⟨⟨_, _, rfl, by lia, hr, by lia, fun i hi => ?_, f2⟩, rfl⟩
          have := so (lo + i) (lo + (l + r) / 2) (by lia) (by lia) (by lia)
          lia
        · have e := of_decide_eq_true eb.symm
          refine wpS_pure ⟨⟨_, _, rfl, by lia, by lia, by lia, f1, fun i hi hi' => ?_⟩, rfl⟩
          have := so (lo + (l + r) / 2) (lo + i) (by lia) (by lia) (by lia)
          lia
    · rintro c st2 ⟨⟨l, r, rfl, hlr', hr, hrl, f1, f2⟩, rfl⟩
      exact ⟨⟨_, _, rfl, by lia, f1, fun i hi hi' => f2 i (by lia) hi'⟩, rfl⟩
    · rintro c st2 ⟨⟨l, r, rfl, hl, f1, f2⟩, rfl⟩
      dsimp only
      refine wpS_bind (aAi hB' (by lia) (by lia) fun st3 hB3 hg => wpS_pure ⟨rfl, hB3, fun i j h1 h2 h3 => ?_, fun q hq => ?_⟩)
      · have gi := hg i
        have gj := hg j
        have ei : kk key (arrOf st3) i = if i = lo + l then kk key (arrOf st2) (lo + k) else if lo + l < i ∧ i ≤ lo + k then kk key (arrOf st2) (i - 1) else kk key (arrOf st2) i := by
          unfold kk; rw [gi]; split
          · rfl
          · split <;> rfl
        have ej : kk key (arrOf st3) j = if j = lo + l then kk key (arrOf st2) (lo + k) else if lo + l < j ∧ j ≤ lo + k then kk key (arrOf st2) (j - 1) else kk key (arrOf st2) j := by
          unfold kk; rw [gj]; split
          · rfl
          · split <;> rfl
        rw [ei, ej]
        by_cases c1 : i = lo + l
        · rw [if_pos c1]
          by_cases c2 : j = lo + l
          · rw [if_pos c2]; lia
          · rw [if_neg c2, if_pos (by lia)]
            have := f2 (j - 1 - lo) (by lia) (by lia)
            rw [show lo + (j - 1 - lo) = j - 1 by lia] at this
            exact this
        · rw [if_neg c1]
          by_cases c3 : lo + l < i ∧ i ≤ lo + k
          · rw [if_pos c3, if_neg (by lia), if_pos (by lia)]
            exact so _ _ (by lia) (by lia) (by lia)
          · rw [if_neg c3]
            by_cases c2 : j = lo + l
            · rw [if_pos c2]
              have := f1 (i - lo) (by lia)
              rw [show lo + (i - lo) = i by lia] at this
              exact this
            · rw [if_neg c2]
              by_cases c4 : lo + l < j ∧ j ≤ lo + k
              · rw [if_pos c4]; exact so _ _ (by lia) (by lia) (by lia)
              · rw [if_neg c4]; exact so _ _ (by lia) (by lia) (by lia)
      · rw [hg q, if_neg (by lia), if_neg (by lia)]
        exact ou q hq
  · by_cases ho : ok = 0
    · have : i = j := by subst ho; have : max 0 1 = 1 := rfl; lia
      rw [this]; exact Int.le_refl _
    · exact hs i j h1 h2 (by have : max ok 1 = ok := by lia
                             lia)
  · rintro c st' ⟨rfl, hB', so, ou⟩
    exact wpS_pure (h st' hB' so ou)
end
end PyProof.Rows
namespace PyProof.Rows
open PySem
def finC (lo nrem n : Nat) : StateT SortSt Sem (Option Nat):=do
 reverseSlice' lo (lo + n)
 let mut n:=n
 for _ in [n:nrem] do
  let some smaller ← ltAt' (lo + n) (lo + n - 1) | return none
  if smaller then break
  n:=n + 1
 return some n
def desC (lo nrem n : Nat) : StateT SortSt Sem (Option Nat):=do
 rule "list.sort.descending-run"
 let mut n:=n + 1
 let mut neq:=0
 for _ in [n:nrem] do
  let some smaller ← ltAt' (lo + n) (lo + n - 1) | return none
  if smaller then
   if neq > 0 then reverseSlice' (lo + n - (neq + 1)) (lo + n)
   neq:=0
  else
   let some larger ← ltAt' (lo + n - 1) (lo + n) | return none
   if larger then break
   neq:=neq + 1
  n:=n + 1
 if neq > 0 then reverseSlice' (lo + n - (neq + 1)) (lo + n)
 finC lo nrem n
theorem pL (lo nrem : Nat) : countRun' lo nrem = (do
 let mut n:=1
 for _ in [1:nrem] do
  let some smaller ← ltAt' (lo + n) (lo + n - 1) | return none
  if smaller then break
  n:=n + 1
 if n == nrem then return some n
 if n > 1 then
  let some rose ← ltAt' lo (lo + n - 1) | return none
  if rose then return some n
  reverseSlice' lo (lo + n)
 desC lo nrem n):=rfl
section
variable {prog : Program} {w : World} {A : Around} {E : Value→Shared→Prop} {s : Shared} {κ : SortKind} {a₀ : Array Keyed} {pd : Array (Nat × Nat × Nat)} {key : Keyed→Int} {ar : Array Keyed}
def De (key : Keyed→Int) (a : Array Keyed) (lo hi : Nat) : Prop:=∀ i j,lo ≤ i→i ≤ j→j < hi→kk key a j ≤ kk key a i
theorem qT {a b : Array Keyed} {i j : Nat} (h : ∀ k,b[k]? = if i ≤ k∧k < j then a[i + j - 1 - k]? else a[k]?) (k : Nat) : kk key b k = if i ≤ k∧k < j then kk key a (i + j - 1 - k) else kk key a k:=by
 unfold kk; rw [h k]; split <;> rfl
theorem jW {a b : Array Keyed} {i j : Nat} (h : ∀ k,b[k]? = if i ≤ k∧k < j then a[i + j - 1 - k]? else a[k]?) (e : ∀ k,i ≤ k→k < j→kk key a k = kk key a (j - 1)) (k : Nat) : kk key b k = kk key a k:=by
 rw [qT h]
 split
 ·rename_i c; rw [e _ (by lia) (by lia),e k c.1 c.2]
 ·rfl
theorem kO {a b : Array Keyed} {i j lo hi : Nat} (h : ∀ k,b[k]? = if i ≤ k∧k < j then a[i + j - 1 - k]? else a[k]?) (h1 : lo ≤ i) (h2 : j ≤ hi) : Out a b lo hi:=fun k hk=>by rw [h k,if_neg (by lia)]
theorem uC {st : SortSt} {lo nrem n : Nat} {Q : Option (Option Nat) × Nat→SortSt→Prop} (hC : Cmp prog w A s κ a₀ key) (hn : lo + nrem ≤ a₀.size) (h1 : 1 ≤ n) (h2 : n ≤ nrem) (hB : SQ κ a₀ pd st) (so : So key (arrOf st) lo (lo + n)) (h : ∀ m,n ≤ m→m ≤ nrem→So key (arrOf st) lo (lo + m)→(m = nrem∨kk key (arrOf st) (lo + m) < kk key (arrOf st) (lo + m - 1))→Q (none,m) st) :
  wpS (model prog w) A E s (forIn [n:nrem] ((none : Option (Option Nat)),n) fun _ r=>do
   let some smaller ← ltAt' (lo + r.2) (lo + r.2 - 1) | pure (ForInStep.done (some none,r.2))
   if smaller then pure (ForInStep.done (none,r.2)) else pure (ForInStep.yield (none,r.2 + 1))) Q st:=by
 refine wpS_mono (wpS_forRange (I:=fun i c st'=>st' = st∧c = (none,i)∧So key (arrOf st) lo (lo + i)) (Q:=fun c st'=>st' = st∧∃ m,c = (none,m)∧n ≤ m∧m ≤ nrem∧So key (arrOf st) lo (lo + m)∧(m = nrem∨kk key (arrOf st) (lo + m) < kk key (arrOf st) (lo + m - 1))) ?_ ?_ ⟨rfl,rfl,so⟩) ?_
 ·rintro i c st1 hi1 hi2 ⟨rfl,rfl,so1⟩
  dsimp only
  refine wpS_bind (iM hC hB (by lia) (by lia) fun b eb=>?_)
  cases b
  ·have e:=of_decide_eq_false eb.symm
   refine wpS_pure ⟨rfl,rfl,fun x y hx hxy hy=>?_⟩
   by_cases c1 : y < lo + i
   ·exact so1 x y hx hxy c1
   ·have : y = lo + i:=by lia
    subst this
    by_cases c2 : x = lo + i
    ·rw [c2]; lia
    ·have:=so1 x (lo + i - 1) hx (by lia) (by lia)
     lia
  ·exact wpS_pure ⟨rfl,_,rfl,by lia,by lia,so1,.inr (of_decide_eq_true eb.symm)⟩
 ·rintro c st1 ⟨rfl,rfl,so1⟩
  have : max n nrem = nrem:=by lia
  rw [this] at so1 ⊢
  exact ⟨rfl,_,rfl,by lia,by lia,so1,.inl rfl⟩
 ·rintro c st1 ⟨rfl,m,rfl,m1,m2,so1,e⟩
  exact h m m1 m2 so1 e
theorem uD {st : SortSt} {lo nrem n : Nat} {Q : Option Nat→SortSt→Prop} (hC : Cmp prog w A s κ a₀ key) (hn : lo + nrem ≤ a₀.size) (h1 : 1 ≤ n) (h2 : n ≤ nrem) (hB : SQ κ a₀ pd st) (de : De key (arrOf st) lo (lo + n)) (ou : Out ar (arrOf st) lo (lo + nrem)) (h : ∀ n st',SQ κ a₀ pd st'→1 ≤ n→n ≤ nrem→So key (arrOf st') lo (lo + n)→Out ar (arrOf st') lo (lo + nrem)→Q (some n) st') : wpS (model prog w) A E s (finC lo nrem n) Q st:=by
 unfold finC
 refine wpS_bind (kN hB (by lia) fun st2 hB2 hg=>?_)
 refine wpS_bind (uC hC hn h1 h2 hB2 (fun i j hi hij hj=>?_) fun m m1 m2 so _=>?_)
 ·rw [qT hg,qT hg,if_pos (by lia),if_pos (by lia)]
  exact de _ _ (by lia) (by lia) (by lia)
 ·exact wpS_pure (h m st2 hB2 (by lia) m2 so (ou.trans (kO hg (by lia) (by lia))))
theorem uE {st : SortSt} {lo nrem n : Nat} {Q : Option Nat→SortSt→Prop} (hC : Cmp prog w A s κ a₀ key) (hn : lo + nrem ≤ a₀.size) (h1 : 1 ≤ n) (h2 : n < nrem) (hB : SQ κ a₀ pd st) (de : De key (arrOf st) lo (lo + (n + 1))) (ou : Out ar (arrOf st) lo (lo + nrem)) (h : ∀ n st',SQ κ a₀ pd st'→1 ≤ n→n ≤ nrem→So key (arrOf st') lo (lo + n)→Out ar (arrOf st') lo (lo + nrem)→Q (some n) st') : wpS (model prog w) A E s (desC lo nrem n) Q st:=by
 unfold desC
 refine wpS_bind (wpS_lift (wpAny_rule ⟨rfl,?_⟩))
 dsimp only
 refine wpS_bind (wpS_mono (wpS_forRange (I:=fun i c st'=>SQ κ a₀ pd st'∧De key (arrOf st') lo (lo + i)∧Out ar (arrOf st') lo (lo + nrem)∧∃ q,c = (none,i,q)∧q + 1 ≤ i∧∀ k,lo + i - (q + 1) ≤ k→k < lo + i→kk key (arrOf st') k = kk key (arrOf st') (lo + i - 1)) (Q:=fun c st'=>SQ κ a₀ pd st'∧Out ar (arrOf st') lo (lo + nrem)∧∃ i q,c = (none,i,q)∧De key (arrOf st') lo (lo + i)∧1 ≤ i∧i ≤ nrem∧q + 1 ≤ i∧∀ k,lo + i - (q + 1) ≤ k→k < lo + i→kk key (arrOf st') k = kk key (arrOf st') (lo + i - 1)) ?_ ?_ ⟨hB,de,ou,_,rfl,by lia,fun k hk1 hk2=>by rw [show k = lo + (n + 1) - 1 by lia]⟩) ?_)
 ·rintro i c st3 hi1 hi2 ⟨hB3,de3,ou3,q,rfl,hq,eq⟩
  dsimp only
  have step : ∀ st',(∀ k,kk key (arrOf st') k = kk key (arrOf st3) k)→kk key (arrOf st3) (lo + i) ≤ kk key (arrOf st3) (lo + i - 1)→De key (arrOf st') lo (lo + (i + 1)):=by
   intro st' e hlt x y hx hxy hy
   rw [e,e]
   by_cases c1 : y < lo + i
   ·exact de3 x y hx hxy c1
   ·have : y = lo + i:=by lia
    subst this
    by_cases c2 : x = lo + i
    ·rw [c2]; lia
    ·have:=de3 x (lo + i - 1) hx (by lia) (by lia)
     lia
  refine wpS_bind (iM hC hB3 (by lia) (by lia) fun b3 e3=>?_)
  cases b3
  ·have e3':=of_decide_eq_false e3.symm
   dsimp only
   rw [if_neg (by decide)]
   refine wpS_bind (iM hC hB3 (by lia) (by lia) fun b4 e4=>?_)
   cases b4
   ·have e4':=of_decide_eq_false e4.symm
    refine wpS_pure ⟨hB3,step st3 (fun _=>rfl) (by lia),ou3,_,rfl,by lia,fun k hk1 hk2=>?_⟩
    rw [show lo + (i + 1) - 1 = lo + i by lia]
    by_cases c1 : k = lo + i
    ·rw [c1]
    ·have:=eq k (by lia) (by lia)
     lia
   ·exact wpS_pure ⟨hB3,ou3,_,_,rfl,de3,by lia,by lia,hq,eq⟩
  ·have e3':=of_decide_eq_true e3.symm
   dsimp only
   rw [if_pos rfl]
   split
   ·refine wpS_bind (kN hB3 (by lia) fun st4 hB4 hg=>wpS_pure ⟨hB4,step st4 (jW hg eq) (by lia),ou3.trans (kO hg (by lia) (by lia)),_,rfl,by lia,fun k hk1 hk2=>by rw [show k = lo + (i + 1) - 1 by lia]⟩)
   ·exact wpS_pure ⟨hB3,step st3 (fun _=>rfl) (by lia),ou3,_,rfl,by lia,fun k hk1 hk2=>by rw [show k = lo + (i + 1) - 1 by lia]⟩
 ·rintro c st3 ⟨hB3,de3,ou3,q,rfl,hq,eq⟩
  have : max (n + 1) nrem = nrem:=by lia
  rw [this] at de3 hq eq ⊢
  exact ⟨hB3,ou3,_,_,rfl,de3,by lia,by lia,hq,eq⟩
 ·rintro c st3 ⟨hB3,ou3,i,q,rfl,de3,i1,i2,hq,eq⟩
  dsimp only
  split
  ·refine wpS_bind (kN hB3 (by lia) fun st4 hB4 hg=>?_)
   refine uD hC hn i1 i2 hB4 (fun x y hx hxy hy=>?_) (ou3.trans (kO hg (by lia) (by lia))) h
   rw [jW hg eq,jW hg eq]
   exact de3 x y hx hxy hy
  ·exact uD hC hn i1 i2 hB3 de3 ou3 h
theorem yO {st : SortSt} {lo nrem : Nat} {Q : Option Nat→SortSt→Prop} (hC : Cmp prog w A s κ a₀ key) (hn : lo + nrem ≤ a₀.size) (h1 : 1 ≤ nrem) (hB : SQ κ a₀ pd st) (h : ∀ n st',SQ κ a₀ pd st'→1 ≤ n→n ≤ nrem→So key (arrOf st') lo (lo + n)→Out (arrOf st) (arrOf st') lo (lo + nrem)→Q (some n) st') : wpS (model prog w) A E s (countRun' lo nrem) Q st:=by
 rw [pL]
 refine wpS_bind (uC hC hn (Nat.le_refl 1) h1 hB (fun i j hi hij hj=>by rw [show i = j by lia]; exact Int.le_refl _) fun n n1 n2 so e=>?_)
 dsimp only
 by_cases e1 : (n == nrem) = true
 ·rw [if_pos e1]; exact wpS_pure (h n st hB n1 n2 so Out.refl)
 rw [if_neg e1]
 have g1 : ¬ (n = nrem):=by simpa using e1
 have hlt : kk key (arrOf st) (lo + n) < kk key (arrOf st) (lo + n - 1):=e.resolve_left g1
 by_cases e2 : n > 1
 ·rw [if_pos e2]
  refine wpS_bind (iM hC hB (by lia) (by lia) fun b2 eb=>?_)
  cases b2
  ·have e3:=of_decide_eq_false eb.symm
   dsimp only
   rw [if_neg (by decide)]
   have eq : ∀ k,lo ≤ k→k < lo + n→kk key (arrOf st) k = kk key (arrOf st) (lo + n - 1):=fun k hk1 hk2=>by
    have a1:=so lo k (by lia) hk1 hk2
    have a2:=so k (lo + n - 1) hk1 (by lia) (by lia)
    lia
   refine wpS_bind (kN hB (by lia) fun st2 hB2 hg=>?_)
   refine uE hC hn n1 (by lia) hB2 (fun i j hi hij hj=>?_) (kO hg (by lia) (by lia)) h
   rw [jW hg eq,jW hg eq]
   by_cases c1 : j < lo + n
   ·rw [eq j (by lia) c1,eq i hi (by lia)]; exact Int.le_refl _
   ·have : j = lo + n:=by lia
    subst this
    by_cases c2 : i = lo + n
    ·rw [c2]; exact Int.le_refl _
    ·rw [eq i hi (by lia)]; lia
  ·exact wpS_pure (h n st hB n1 n2 so Out.refl)
 ·rw [if_neg e2]
  have : n = 1:=by lia
  subst this
  refine uE hC hn n1 (by lia) hB (fun i j hi hij hj=>?_) Out.refl h
  by_cases c1 : i = j
  ·rw [c1]; exact Int.le_refl _
  ·have : i = lo:=by lia
   have : j = lo + 1:=by lia
   subst i; subst j
   rw [show lo + 1 - 1 = lo by lia] at hlt
   lia
end
end PyProof.Rows
namespace PyProof.Rows
open PySem
theorem wA (left : Bool) (key : Keyed) (arr : Array Keyed) (base n hint : Nat) : cZ left key arr base n hint = (do
 let beyond (i : Nat) : StateT SortSt Sem (Option Bool):=do
  let x ← elem' arr (base + i)
  if left then lt' x key else return (← lt' key x).map (!·)
 let mut lastofs:=0
 let mut ofs:=1
 let mut lo:=0
 let mut hi:=0
 let some right ← beyond hint | return none
 if right then
  let maxofs:=n - hint
  for _ in [0:n] do
   if ofs ≥ maxofs then break
   let some more ← beyond (hint + ofs) | return none
   if !more then break
   lastofs:=ofs
   ofs:=2 * ofs + 1
  lo:=hint + lastofs + 1
  hi:=hint + min ofs maxofs
 else
  let maxofs:=hint + 1
  for _ in [0:n] do
   if ofs ≥ maxofs then break
   let some found ← beyond (hint - ofs) | return none
   if found then break
   lastofs:=ofs
   ofs:=2 * ofs + 1
  lo:=hint + 1 - min ofs maxofs
  hi:=hint - lastofs
 for _ in [0:n] do
  if lo ≥ hi then break
  let m:=lo + (hi - lo) / 2
  let some more ← beyond m | return none
  if more then lo:=m + 1 else hi:=m
 return some hi):=rfl
def thr (left : Bool) (k : Int) : Int:=if left then k else k + 1
section
variable {prog : Program} {w : World} {A : Around} {E : Value→Shared→Prop} {s : Shared} {κ : SortKind} {a₀ : Array Keyed} {pd : Array (Nat × Nat × Nat)} {key : Keyed→Int}
theorem fT {st : SortSt} {left : Bool} {x : Keyed} {arr : Array Keyed} {j : Nat} {Q : Option Bool→SortSt→Prop} (hC : Cmp prog w A s κ a₀ key) (hk : kindOf st = κ) (hkey : x∈a₀.toList) (hin : ∀ x∈arr.toList,x∈a₀.toList) (hj : j < arr.size) (h : ∀ b,b = decide (kk key arr j < thr left (key x))→Q (some b) st) :
  wpS (model prog w) A E s (do
  let y ← elem' arr j
  if left then lt' y x else return (← lt' x y).map (!·)) Q st:=by
 have hm : arr[j]∈a₀.toList:=hin _ (by simp)
 refine wpS_bind (bP (getElem?_pos arr j hj) ?_)
 cases left
 ·rw [if_neg (by decide)]
  refine wpS_bind (jV hC hk hkey hm (wpS_pure (h _ ?_)))
  rw [bY hj]
  show (!decide (key x < key arr[j])) = decide (key arr[j] < key x + 1)
  by_cases c : key x < key arr[j]
  ·rw [decide_eq_true c,decide_eq_false (by lia)]; rfl
  ·rw [decide_eq_false c,decide_eq_true (by lia)]; rfl
 ·rw [if_pos rfl]
  refine jV hC hk hm hkey (h _ ?_)
  rw [bY hj]; rfl
theorem qU {st : SortSt} {left : Bool} {x : Keyed} {arr : Array Keyed} {base n l u : Nat} {Q : Option Nat→SortSt→Prop} (hC : Cmp prog w A s κ a₀ key) (hk : kindOf st = κ) (hkey : x∈a₀.toList) (hin : ∀ x∈arr.toList,x∈a₀.toList) (hn : base + n ≤ arr.size) (so : So key arr base (base + n)) (hl : l ≤ u) (hu : u ≤ n)
  (f1 : ∀ i,i < l→kk key arr (base + i) < thr left (key x)) (f2 : ∀ i,u ≤ i→i < n→thr left (key x) ≤ kk key arr (base + i))
  (h : ∀ k,k ≤ n→(∀ i,i < k→kk key arr (base + i) < thr left (key x))→(∀ i,k ≤ i→i < n→thr left (key x) ≤ kk key arr (base + i))→Q (some k) st) : wpS (model prog w) A E s (do
   let mut lo:=l
   let mut hi:=u
   for _ in [0:n] do
    if lo ≥ hi then break
    let m:=lo + (hi - lo) / 2
    let some more ← (do
     let y ← elem' arr (base + m)
     if left then lt' y x else return (← lt' x y).map (!·)) | return none
    if more then lo:=m + 1 else hi:=m
   return some hi) Q st:=by
 refine wpS_bind (wpS_mono (wpS_forRange (I:=fun j c st'=>(∃ l u,c = (none,l,u)∧l ≤ u∧u ≤ n∧u ≤ l + (n - j)∧(∀ i,i < l→kk key arr (base + i) < thr left (key x))∧(∀ i,u ≤ i→i < n→thr left (key x) ≤ kk key arr (base + i)))∧st = st') (Q:=fun c st'=>(∃ l u,c = (none,l,u)∧u ≤ l∧u ≤ n∧(∀ i,i < l→kk key arr (base + i) < thr left (key x))∧(∀ i,u ≤ i→i < n→thr left (key x) ≤ kk key arr (base + i)))∧st = st') ?_ ?_ ⟨⟨_,_,rfl,hl,hu,by lia,f1,f2⟩,rfl⟩) ?_)
 ·rintro j c st' _ hj ⟨⟨l,u,rfl,hlu,hu,hd,f1,f2⟩,rfl⟩
  dsimp only
  by_cases hlr : l ≥ u
  ·rw [if_pos hlr]; exact wpS_pure ⟨⟨_,_,rfl,hlr,hu,f1,f2⟩,rfl⟩
  ·rw [if_neg hlr]
   refine wpS_bind (fT hC hk hkey hin (by lia) fun more e=>?_)
   cases more
   ·have e':=of_decide_eq_false e.symm
    refine wpS_pure ⟨⟨_,_,rfl,by lia,by lia,by lia,f1,fun i hi hi'=>?_⟩,rfl⟩
    have:=so (base + (l + (u - l) / 2)) (base + i) (by lia) (by lia) (by lia)
    lia
   ·have e':=of_decide_eq_true e.symm
    refine wpS_pure ⟨⟨_,_,rfl,by lia,by lia,by lia,fun i hi=>?_,f2⟩,rfl⟩
    have:=so (base + i) (base + (l + (u - l) / 2)) (by lia) (by lia) (by lia)
    lia
 ·rintro c st' ⟨⟨l,u,rfl,hlu,hu,hd,f1,f2⟩,rfl⟩
  exact ⟨⟨_,_,rfl,by lia,hu,f1,f2⟩,rfl⟩
 ·rintro c st' ⟨⟨l,u,rfl,hlu,hu,f1,f2⟩,rfl⟩
  exact wpS_pure (h u hu (fun i hi=>f1 i (by lia)) f2)
theorem eE {st : SortSt} {left : Bool} {x : Keyed} {arr : Array Keyed} {base n hint : Nat} {Q : Option Nat→SortSt→Prop} (hC : Cmp prog w A s κ a₀ key) (hk : kindOf st = κ) (hkey : x∈a₀.toList) (hin : ∀ x∈arr.toList,x∈a₀.toList) (hn : base + n ≤ arr.size) (hh : hint < n) (so : So key arr base (base + n))
  (h : ∀ k,k ≤ n→(∀ i,i < k→kk key arr (base + i) < thr left (key x))→(∀ i,k ≤ i→i < n→thr left (key x) ≤ kk key arr (base + i))→Q (some k) st) : wpS (model prog w) A E s (cZ left x arr base n hint) Q st:=by
 rw [wA]
 refine wpS_bind (fT hC hk hkey hin (by lia) fun right er=>?_)
 cases right
 ·have er':=of_decide_eq_false er.symm
  dsimp only
  rw [if_neg (by decide)]
  refine wpS_bind (wpS_mono (wpS_forRange (I:=fun j c st'=>(∃ l o,c = (none,l,o)∧l < o∧j < o∧l ≤ hint∧thr left (key x) ≤ kk key arr (base + (hint - l)))∧st = st') (Q:=fun c st'=>(∃ l o,c = (none,l,o)∧l < o∧l ≤ hint∧thr left (key x) ≤ kk key arr (base + (hint - l))∧(hint + 1 ≤ o∨kk key arr (base + (hint - o)) < thr left (key x)))∧st = st') ?_ ?_ ⟨⟨_,_,rfl,by lia,by lia,by lia,by rw [Nat.sub_zero]; lia⟩,rfl⟩) ?_)
  ·rintro j c st' _ _ ⟨⟨l,o,rfl,hlo,hjo,hl,f⟩,rfl⟩
   dsimp only
   by_cases hlr : o ≥ hint + 1
   ·rw [if_pos hlr]; exact wpS_pure ⟨⟨_,_,rfl,hlo,hl,f,.inl hlr⟩,rfl⟩
   ·rw [if_neg hlr]
    refine wpS_bind (fT hC hk hkey hin (by lia) fun found e=>?_)
    cases found
    ·have e':=of_decide_eq_false e.symm
     exact wpS_pure ⟨⟨_,_,rfl,by lia,by lia,by lia,by lia⟩,rfl⟩
    ·exact wpS_pure ⟨⟨_,_,rfl,hlo,hl,f,.inr (of_decide_eq_true e.symm)⟩,rfl⟩
  ·rintro c st' ⟨⟨l,o,rfl,hlo,hjo,hl,f⟩,rfl⟩
   exact ⟨⟨_,_,rfl,hlo,hl,f,.inl (by lia)⟩,rfl⟩
  ·rintro c st' ⟨⟨l,o,rfl,hlo,hl,f,e⟩,rfl⟩
   dsimp only
   refine qU hC hk hkey hin hn so (by lia) (by lia) (fun i hi=>?_) (fun i hi hi'=>?_) h
   ·rcases e with e | e
    ·lia
    ·by_cases c : hint + 1 ≤ o
     ·lia
     ·have:=so (base + i) (base + (hint - o)) (by lia) (by lia) (by lia)
      lia
   ·have:=so (base + (hint - l)) (base + i) (by lia) (by lia) (by lia)
    lia
 ·have er':=of_decide_eq_true er.symm
  dsimp only
  rw [if_pos rfl]
  refine wpS_bind (wpS_mono (wpS_forRange (I:=fun j c st'=>(∃ l o,c = (none,l,o)∧l < o∧j < o∧l < n - hint∧kk key arr (base + (hint + l)) < thr left (key x))∧st = st') (Q:=fun c st'=>(∃ l o,c = (none,l,o)∧l < o∧l < n - hint∧kk key arr (base + (hint + l)) < thr left (key x)∧(n - hint ≤ o∨thr left (key x) ≤ kk key arr (base + (hint + o))))∧st = st') ?_ ?_ ⟨⟨_,_,rfl,by lia,by lia,by lia,by rw [Nat.add_zero]; exact er'⟩,rfl⟩) ?_)
  ·rintro j c st' _ _ ⟨⟨l,o,rfl,hlo,hjo,hl,f⟩,rfl⟩
   dsimp only
   by_cases hlr : o ≥ n - hint
   ·rw [if_pos hlr]; exact wpS_pure ⟨⟨_,_,rfl,hlo,hl,f,.inl hlr⟩,rfl⟩
   ·rw [if_neg hlr]
    refine wpS_bind (fT hC hk hkey hin (by lia) fun more e=>?_)
    cases more
    ·have e':=of_decide_eq_false e.symm
     exact wpS_pure ⟨⟨_,_,rfl,hlo,hl,f,.inr (by lia)⟩,rfl⟩
    ·exact wpS_pure ⟨⟨_,_,rfl,by lia,by lia,by lia,of_decide_eq_true e.symm⟩,rfl⟩
  ·rintro c st' ⟨⟨l,o,rfl,hlo,hjo,hl,f⟩,rfl⟩
   exact ⟨⟨_,_,rfl,hlo,hl,f,.inl (by lia)⟩,rfl⟩
  ·rintro c st' ⟨⟨l,o,rfl,hlo,hl,f,e⟩,rfl⟩
   dsimp only
   refine qU hC hk hkey hin hn so (by lia) (by lia) (fun i hi=>?_) (fun i hi hi'=>?_) h
   ·have:=so (base + i) (base + (hint + l)) (by lia) (by lia) (by lia)
    lia
   ·rcases e with e | e
    ·lia
    ·by_cases c : n - hint ≤ o
     ·lia
     ·have:=so (base + (hint + o)) (base + i) (by lia) (by lia) (by lia)
      lia
end
end PyProof.Rows
namespace PyProof.Rows
open PySem
theorem dN (g : Nat) : cS g = modify fun s=>SortSt.mk' (kindOf s) (arrOf s) (pendingOf s) g (failedOf s):=rfl
structure SM (κ : SortKind) (ar : Array Keyed) (pd : Array (Nat × Nat × Nat)) (st : SortSt) : Prop where
 arr : arrOf st = ar
 kind : kindOf st = κ
 failed : failedOf st = none
 pend : pendingOf st = pd
abbrev GSt:=Option (Array Keyed) × Array Keyed × Nat × Nat × Nat × Nat × Nat
abbrev gJ (a b out : Array Keyed) (ia ib : Nat):=out ++ a.extract ia a.size ++ b.extract ib b.size
abbrev mE (a b out : Array Keyed) (ia ib : Nat):=out ++ b.extract ib b.size ++ a.extract ia a.size
def loC (a b out : Array Keyed) (ia ib mg ac bc : Nat) : StateT SortSt Sem (ForInStep GSt):=do
 let x ← elem' a ia
 if ia + 1 + 1 == a.size then pure (.done (some (mE a b (out.push x) (ia + 1) ib),out.push x,ia + 1,ib,mg,ac,bc))
 else if ac < 7 && bc < 7 then pure (.done (none,out.push x,ia + 1,ib,mg,ac,bc)) else pure (.yield (none,out.push x,ia + 1,ib,mg,ac,bc))
def loB (a b out : Array Keyed) (ia ib mg ac bc : Nat) : StateT SortSt Sem (ForInStep GSt):=do
 let x ← elem' b ib
 if ib + 1 == b.size then pure (.done (some (gJ a b (out.push x) ia (ib + 1)),out.push x,ia,ib + 1,mg,ac,bc))
 else do
  let some k ← cZ true (← elem' a ia) b (ib + 1) (b.size - (ib + 1)) 0 | pure (.done (some (gJ a b (out.push x) ia (ib + 1)),out.push x,ia,ib + 1,mg,ac,bc))
  if k > 0 then
   if ib + 1 + k == b.size then pure (.done (some (gJ a b (out.push x ++ b.extract (ib + 1) (ib + 1 + k)) ia (ib + 1 + k)),out.push x ++ b.extract (ib + 1) (ib + 1 + k),ia,ib + 1 + k,mg,ac,k))
   else loC a b (out.push x ++ b.extract (ib + 1) (ib + 1 + k)) ia (ib + 1 + k) mg ac k
  else loC a b (out.push x) ia (ib + 1) mg ac k
def loA (a b out : Array Keyed) (ia ib mg ac bc : Nat) : StateT SortSt Sem (ForInStep GSt):=do
 cS mg
 let some k ← cZ false (← elem' b ib) a ia (a.size - ia) 0 | pure (.done (some (gJ a b out ia ib),out,ia,ib,mg,ac,bc))
 if k > 0 then
  if ia + k + 1 == a.size then pure (.done (some (mE a b (out ++ a.extract ia (ia + k)) (ia + k) ib),out ++ a.extract ia (ia + k),ia + k,ib,mg,k,bc))
  else if ia + k == a.size then pure (.done (some (gJ a b (out ++ a.extract ia (ia + k)) (ia + k) ib),out ++ a.extract ia (ia + k),ia + k,ib,mg,k,bc))
  else loB a b (out ++ a.extract ia (ia + k)) (ia + k) ib mg k bc
 else loB a b out ia ib mg k bc
theorem sX (a b : Array Keyed) : lG a b = (do
 rule "list.sort.merge-lo"
 let total:=a.size + b.size
 let done (out : Array Keyed) (ia ib : Nat):=out ++ a.extract ia a.size ++ b.extract ib b.size
 let lastOfA (out : Array Keyed) (ia ib : Nat):=out ++ b.extract ib b.size ++ a.extract ia a.size
 let mut out : Array Keyed:=#[← elem' b 0]
 let mut ia:=0
 let mut ib:=1
 if ib == b.size then return done out ia ib
 if ia + 1 == a.size then return lastOfA out ia ib
 let mut minGallop:=gallopOf (← get)
 for _ in [0:total] do
  let mut acount:=0
  let mut bcount:=0
  for _ in [0:total] do
   let some bWins ← lt' (← elem' b ib) (← elem' a ia) | return done out ia ib
   if bWins then
    out:=out.push (← elem' b ib); ib:=ib + 1; bcount:=bcount + 1; acount:=0
    if ib == b.size then return done out ia ib
    if bcount ≥ minGallop then break
   else
    out:=out.push (← elem' a ia); ia:=ia + 1; acount:=acount + 1; bcount:=0
    if ia + 1 == a.size then return lastOfA out ia ib
    if acount ≥ minGallop then break
  rule "list.sort.gallop"
  minGallop:=minGallop + 1
  for _ in [0:total] do
   if minGallop > 1 then minGallop:=minGallop - 1
   cS minGallop
   let some k ← cZ false (← elem' b ib) a ia (a.size - ia) 0 | return done out ia ib
   acount:=k
   if k > 0 then
    out:=out ++ a.extract ia (ia + k); ia:=ia + k
    if ia + 1 == a.size then return lastOfA out ia ib
    if ia == a.size then return done out ia ib
   out:=out.push (← elem' b ib); ib:=ib + 1
   if ib == b.size then return done out ia ib
   let some k ← cZ true (← elem' a ia) b ib (b.size - ib) 0 | return done out ia ib
   bcount:=k
   if k > 0 then
    out:=out ++ b.extract ib (ib + k); ib:=ib + k
    if ib == b.size then return done out ia ib
   out:=out.push (← elem' a ia); ia:=ia + 1
   if ia + 1 == a.size then return lastOfA out ia ib
   if acount < 7 && bcount < 7 then break
  minGallop:=minGallop + 1
  cS minGallop
 unsupported "internal:list.sort.merge-bound"):=rfl
def PI (a b out : Array Keyed) (ia ib : Nat) : Prop:=out.toList.Perm (a.toList.take ia ++ b.toList.take ib)
theorem qV {l : List Keyed} {i : Nat} (h : i < l.length) : l.take (i + 1) = l.take i ++ [l[i]]:=by rw [List.take_add_one,List.getElem?_eq_getElem h]; rfl
theorem PI.pushA {a b out : Array Keyed} {ia ib : Nat} (h : PI a b out ia ib) (hi : ia < a.size) : PI a b (out.push a[ia]) (ia + 1) ib:=by
 unfold PI at h ⊢
 rw [Array.toList_push,qV (by simpa using hi),List.append_assoc]
 refine (h.append_right _).trans ?_
 rw [List.append_assoc]
 refine List.Perm.append_left _ ?_
 have : a.toList[ia]'(by simpa using hi) = a[ia]:=by simp
 rw [this]
 exact List.perm_append_comm
theorem dO {a : Array Keyed} {i j : Nat} : (a.extract i j).toList = (a.toList.drop i).take (j - i):=by
 rw [Array.toList_extract,List.extract_eq_take_drop]
theorem aAj {a : Array Keyed} {i k : Nat} (h : i + k < a.size) : a.extract i (i + (k + 1)) = (a.extract i (i + k)).push a[i + k]:=by
 apply Array.toList_inj.mp
 rw [Array.toList_push,dO,dO,Nat.add_sub_cancel_left,Nat.add_sub_cancel_left,qV (by simp; lia)]
 congr 2
 simp
structure MI (key : Keyed→Int) (a b out : Array Keyed) (ia ib : Nat) : Prop where
 perm : PI a b out ia ib
 so : out.toList.Pairwise fun x y=>key x ≤ key y
 la : ∀ x∈out.toList,ia < a.size→key x ≤ kk key a ia
 lb : ∀ x∈out.toList,ib < b.size→key x ≤ kk key b ib
def Fi (key : Keyed→Int) (a b r : Array Keyed) : Prop:=r.Perm (a ++ b)∧r.toList.Pairwise fun x y=>key x ≤ key y
section
variable {key : Keyed→Int} {a b out : Array Keyed} {ia ib : Nat}
theorem MI.swap (h : MI key a b out ia ib) : MI key b a out ib ia:=⟨h.perm.trans List.perm_append_comm,h.so,h.lb,h.la⟩
theorem MI.pushA (h : MI key a b out ia ib) (hi : ia < a.size) (sa : So key a 0 a.size) (c : ib < b.size→kk key a ia ≤ kk key b ib) : MI key a b (out.push a[ia]) (ia + 1) ib:=by
 refine ⟨h.perm.pushA hi,?_,fun x hx hl=>?_,fun x hx hl=>?_⟩
 ·rw [Array.toList_push]
  refine List.pairwise_append.mpr ⟨h.so,List.pairwise_singleton _ _,fun x hx y hy=>?_⟩
  rw [List.mem_singleton.mp hy,← bY (key:=key) hi]
  exact h.la x hx hi
 ·rw [Array.toList_push] at hx
  have:=sa ia (ia + 1) (by lia) (by lia) hl
  rcases List.mem_append.mp hx with z | z
  ·have:=h.la x z hi; lia
  ·rw [List.mem_singleton.mp z,← bY (key:=key) hi]; exact this
 ·rw [Array.toList_push] at hx
  rcases List.mem_append.mp hx with z | z
  ·exact h.lb x z hl
  ·rw [List.mem_singleton.mp z,← bY (key:=key) hi]; exact c hl
theorem MI.appA (h : MI key a b out ia ib) (sa : So key a 0 a.size) : ∀ (k : Nat),ia + k ≤ a.size→(ib < b.size→∀ i,i < k→kk key a (ia + i) ≤ kk key b ib)→MI key a b (out ++ a.extract ia (ia + k)) (ia + k) ib
 | 0,_,_=>by
  have e : a.extract ia (ia + 0) = #[]:=by simp; lia
  rw [e,Array.append_empty]; exact h
 | k + 1,hk,c=>by
  have:=(MI.appA h sa k (by lia) fun hb i hi=>c hb i (by lia)).pushA (by lia) sa fun hb=>c hb k (by lia)
  rw [aAj (by lia),← Array.push_append]
  exact this
theorem MI.pushB (h : MI key a b out ia ib) (hi : ib < b.size) (sb : So key b 0 b.size) (c : ia < a.size→kk key b ib ≤ kk key a ia) : MI key a b (out.push b[ib]) ia (ib + 1):=(h.swap.pushA hi sb c).swap
theorem MI.appB (h : MI key a b out ia ib) (sb : So key b 0 b.size) (k : Nat) (hk : ib + k ≤ b.size) (c : ia < a.size→∀ i,i < k→kk key b (ib + i) ≤ kk key a ia) : MI key a b (out ++ b.extract ib (ib + k)) ia (ib + k):=(h.swap.appA sb k hk c).swap
theorem MI.fin (h : MI key a b out a.size b.size) : Fi key a b out:=by
 refine ⟨?_,h.so⟩
 have:=h.perm
 unfold PI at this
 rw [List.take_of_length_le (by simp),List.take_of_length_le (by simp)] at this
 rw [Array.perm_iff_toList_perm,Array.toList_append]
 exact this
theorem MI.done (h : MI key a b out ia ib) (sa : So key a 0 a.size) (sb : So key b 0 b.size) (ha : ia ≤ a.size) (hb : ib ≤ b.size) (c : ib < b.size→∀ i,i < a.size - ia→kk key a (ia + i) ≤ kk key b ib) : Fi key a b (gJ a b out ia ib):=by
 have h1:=h.appA sa (a.size - ia) (by lia) c
 rw [show ia + (a.size - ia) = a.size by lia] at h1
 have h2:=h1.appB sb (b.size - ib) (by lia) fun z=>by lia
 rw [show ib + (b.size - ib) = b.size by lia] at h2
 exact h2.fin
theorem MI.last (h : MI key a b out ia ib) (sa : So key a 0 a.size) (sb : So key b 0 b.size) (ha : ia ≤ a.size) (hb : ib ≤ b.size) (c : ia < a.size→∀ i,i < b.size - ib→kk key b (ib + i) ≤ kk key a ia) : Fi key a b (mE a b out ia ib):=by
 have:=h.swap.done sb sa hb ha c
 refine ⟨this.1.trans ?_,this.2⟩
 rw [Array.perm_iff_toList_perm,Array.toList_append,Array.toList_append]
 exact List.perm_append_comm
end
section
variable {prog : Program} {w : World} {A : Around} {E : Value→Shared→Prop} {s : Shared} {κ : SortKind} {a₀ : Array Keyed} {pd : Array (Nat × Nat × Nat)} {ar : Array Keyed} {key : Keyed→Int}
structure Two (key : Keyed→Int) (a₀ a b : Array Keyed) : Prop where
 ha : ∀ x∈a.toList,x∈a₀.toList
 hb : ∀ x∈b.toList,x∈a₀.toList
 a1 : 1 ≤ a.size
 b1 : 1 ≤ b.size
 sa : So key a 0 a.size
 sb : So key b 0 b.size
 c0 : kk key b 0 ≤ kk key a 0
 c1 : ∀ i,i < b.size→kk key b i ≤ kk key a (a.size - 1)
theorem Two.last {a b : Array Keyed} (T : Two key a₀ a b) {out : Array Keyed} {ia ib : Nat} (h : MI key a b out ia ib) (ha : ia + 1 = a.size) (hb : ib ≤ b.size) : Fi key a b (mE a b out ia ib) :=
 h.last T.sa T.sb (by lia) hb fun _ i hi=>by
  have:=T.c1 (ib + i) (by lia)
  rw [show a.size - 1 = ia by lia] at this
  exact this
theorem Two.done {a b : Array Keyed} (T : Two key a₀ a b) {out : Array Keyed} {ia ib : Nat} (h : MI key a b out ia ib) (ha : ia ≤ a.size) (hb : ib = b.size) : Fi key a b (gJ a b out ia ib) :=
 h.done T.sa T.sb ha (by lia) fun z=>by lia
def GP (κ : SortKind) (ar : Array Keyed) (pd : Array (Nat × Nat × Nat)) (key : Keyed→Int) (a b : Array Keyed) (n : Nat) (r : ForInStep GSt) (st : SortSt) : Prop:=SM κ ar pd st ∧
 ((∃ x c,r = .done (some x,c)∧Fi key a b x)∨∃ out ia ib mg ac bc,(r = .done (none,out,ia,ib,mg,ac,bc)∨r = .yield (none,out,ia,ib,mg,ac,bc))∧MI key a b out ia ib∧ia + 1 < a.size∧ib < b.size∧n ≤ ia + ib)
theorem uF {st : SortSt} {a b out : Array Keyed} {ia ib mg ac bc n : Nat} (T : Two key a₀ a b) (hB : SM κ ar pd st) (h : MI key a b out ia ib) (la : ia + 1 < a.size) (lb : ib < b.size) (li : n ≤ ia + ib) (c : kk key a ia ≤ kk key b ib) :
  wpS (model prog w) A E s (loC a b out ia ib mg ac bc) (GP κ ar pd key a b n) st:=by
 unfold loC
 refine wpS_bind (bP (getElem?_pos a ia (by lia)) ?_)
 have p:=h.pushA (show ia < a.size by lia) T.sa fun _=>c
 by_cases f : (ia + 1 + 1 == a.size) = true
 ·rw [if_pos f]; exact wpS_pure ⟨hB,.inl ⟨_,_,rfl,T.last p (by simpa using f) (by lia)⟩⟩
 rw [if_neg f]
 have g : ¬ (ia + 1 + 1 = a.size):=by simpa using f
 split
 ·exact wpS_pure ⟨hB,.inr ⟨_,_,_,_,_,_,.inl rfl,p,by lia,by lia,by lia⟩⟩
 ·exact wpS_pure ⟨hB,.inr ⟨_,_,_,_,_,_,.inr rfl,p,by lia,by lia,by lia⟩⟩
theorem uG {st : SortSt} {a b out : Array Keyed} {ia ib mg ac bc n : Nat} (hC : Cmp prog w A s κ a₀ key) (T : Two key a₀ a b) (hB : SM κ ar pd st) (h : MI key a b out ia ib) (la : ia + 1 < a.size) (lb : ib < b.size) (li : n ≤ ia + ib) (c : kk key b ib ≤ kk key a ia) :
  wpS (model prog w) A E s (loB a b out ia ib mg ac bc) (GP κ ar pd key a b n) st:=by
 unfold loB
 refine wpS_bind (bP (getElem?_pos b ib (by lia)) ?_)
 have p:=h.pushB lb T.sb fun _=>c
 by_cases f : (ib + 1 == b.size) = true
 ·rw [if_pos f]; exact wpS_pure ⟨hB,.inl ⟨_,_,rfl,T.done p (by lia) (by simpa using f)⟩⟩
 rw [if_neg f]
 have g : ¬ (ib + 1 = b.size):=by simpa using f
 refine wpS_bind (bP (getElem?_pos a ia (by lia)) ?_)
 refine wpS_bind (eE hC hB.kind (T.ha _ (by simp)) T.hb (by lia) (by lia) (fun i j h1 h2 h3=>T.sb i j (by lia) h2 (by lia)) fun k hk q1 q2=>?_)
 rw [← bY (key:=key) (a:=a) (i:=ia) (by lia)] at q1 q2
 simp only [thr,if_true] at q1 q2
 dsimp only
 by_cases kp : k > 0
 ·rw [if_pos kp]
  have p2:=p.appB T.sb k (by lia) fun _ i hi=>by have:=q1 i hi; lia
  by_cases f2 : (ib + 1 + k == b.size) = true
  ·rw [if_pos f2]; exact wpS_pure ⟨hB,.inl ⟨_,_,rfl,T.done p2 (by lia) (by simpa using f2)⟩⟩
  rw [if_neg f2]
  have g2 : ¬ (ib + 1 + k = b.size):=by simpa using f2
  exact uF T hB p2 la (by lia) (by lia) (q2 k (by lia) (by lia))
 ·rw [if_neg kp]
  have e : k = 0:=by lia
  subst e
  exact uF T hB p la (by lia) (by lia) (q2 0 (by lia) (by lia))
theorem aBf {st : SortSt} {a b out : Array Keyed} {ia ib mg ac bc n : Nat} (hC : Cmp prog w A s κ a₀ key) (T : Two key a₀ a b) (hB : SM κ ar pd st) (h : MI key a b out ia ib) (la : ia + 1 < a.size) (lb : ib < b.size) (li : n ≤ ia + ib) :
  wpS (model prog w) A E s (loA a b out ia ib mg ac bc) (GP κ ar pd key a b n) st:=by
 unfold loA
 rw [dN]
 refine wpS_bind (wpS_modify ?_)
 have hB2 : SM κ ar pd (SortSt.mk' (kindOf st) (arrOf st) (pendingOf st) mg (failedOf st)):=⟨hB.arr,hB.kind,hB.failed,hB.pend⟩
 refine wpS_bind (bP (getElem?_pos b ib (by lia)) ?_)
 refine wpS_bind (eE hC hB2.kind (T.hb _ (by simp)) T.ha (by lia) (by lia) (fun i j h1 h2 h3=>T.sa i j (by lia) h2 (by lia)) fun k hk q1 q2=>?_)
 rw [← bY (key:=key) (a:=b) (i:=ib) (by lia)] at q1 q2
 simp only [thr,Bool.false_eq_true,if_false] at q1 q2
 dsimp only
 by_cases kp : k > 0
 ·rw [if_pos kp]
  have p2:=h.appA T.sa k (by lia) fun _ i hi=>by have:=q1 i hi; lia
  by_cases f4 : (ia + k + 1 == a.size) = true
  ·rw [if_pos f4]; exact wpS_pure ⟨hB2,.inl ⟨_,_,rfl,T.last p2 (by simpa using f4) (by lia)⟩⟩
  rw [if_neg f4]
  have g4 : ¬ (ia + k + 1 = a.size):=by simpa using f4
  by_cases f5 : (ia + k == a.size) = true
  ·rw [if_pos f5]
   have g5 : ia + k = a.size:=by simpa using f5
   exact wpS_pure ⟨hB2,.inl ⟨_,_,rfl,p2.done T.sa T.sb (by lia) (by lia) fun _ i hi=>by lia⟩⟩
  rw [if_neg f5]
  have g5 : ¬ (ia + k = a.size):=by simpa using f5
  exact uG hC T hB2 p2 (by lia) lb (by lia) (by have:=q2 k (by lia) (by lia); lia)
 ·rw [if_neg kp]
  have e : k = 0:=by lia
  subst e
  exact uG hC T hB2 h la lb li (by have:=q2 0 (by lia) (by lia); rw [Nat.add_zero] at this; lia)
theorem sY {st : SortSt} {a b : Array Keyed} {Q : Array Keyed→SortSt→Prop} (hC : Cmp prog w A s κ a₀ key) (hB : SM κ ar pd st) (T : Two key a₀ a b)
  (h : ∀ out st',Fi key a b out→SM κ ar pd st'→Q out st') : wpS (model prog w) A E s (lG a b) Q st:=by
 have a1:=T.a1
 have b1:=T.b1
 rw [sX]
 refine wpS_bind (wpS_lift (wpAny_rule ⟨rfl,?_⟩))
 refine wpS_bind (bP (getElem?_pos b 0 (by lia)) ?_)
 dsimp only
 have p0 : MI key a b #[b[0]] 0 1:=by
  have : MI key a b #[] 0 0:=⟨by unfold PI; simp,List.Pairwise.nil,fun x hx=>by simp at hx,fun x hx=>by simp at hx⟩
  exact this.pushB (by lia) T.sb fun _=>T.c0
 by_cases e1 : (1 == b.size) = true
 ·rw [if_pos e1]
  exact wpS_pure (h _ _ (T.done p0 (by lia) (by simpa using e1)) hB)
 rw [if_neg e1]
 have n1 : ¬ (1 = b.size):=by simpa using e1
 by_cases e2 : (0 + 1 == a.size) = true
 ·rw [if_pos e2]
  exact wpS_pure (h _ _ (T.last p0 (by simpa using e2) (by lia)) hB)
 rw [if_neg e2]
 have n2 : ¬ (0 + 1 = a.size):=by simpa using e2
 refine wpS_bind (wpS_get ?_)
 refine wpS_bind (wpS_mono (wpS_forRange (I:=fun i c st'=>SM κ ar pd st'∧∃ out ia ib mg,c = (none,out,ia,ib,mg)∧MI key a b out ia ib∧ia + 1 < a.size∧ib < b.size∧i ≤ ia + ib) (Q:=fun c st'=>SM κ ar pd st'∧∃ r c',c = (some r,c')∧Fi key a b r) ?_ ?_ ⟨hB,_,_,_,_,rfl,p0,by lia,by lia,by lia⟩) ?_)
 ·rintro i c st1 _ hi ⟨hB0,out,ia,ib,mg,rfl,p1,la,lb,li⟩
  dsimp only
  refine wpS_bind (wpS_mono (wpS_forRange (I:=fun x c st'=>SM κ ar pd st'∧∃ out ia ib ac bc,c = (none,out,ia,ib,ac,bc)∧MI key a b out ia ib∧ia + 1 < a.size∧ib < b.size∧i + x ≤ ia + ib) (Q:=fun c st'=>SM κ ar pd st'∧((∃ r c',c = (some r,c')∧Fi key a b r)∨∃ out ia ib ac bc,c = (none,out,ia,ib,ac,bc)∧MI key a b out ia ib∧ia + 1 < a.size∧ib < b.size∧i + 1 ≤ ia + ib)) ?_ ?_ ⟨hB0,_,_,_,_,_,rfl,p1,la,lb,by lia⟩) ?_)
  ·rintro x c st2 _ hx ⟨hB1,out,ia,ib,ac,bc,rfl,p1,la,lb,li⟩
   dsimp only
   refine wpS_bind (bP (getElem?_pos b ib (by lia)) ?_)
   refine wpS_bind (bP (getElem?_pos a ia (by lia)) ?_)
   refine wpS_bind (jV hC hB1.kind (T.hb _ (by simp)) (T.ha _ (by simp)) ?_)
   rw [← bY (key:=key) (a:=b) (i:=ib) (by lia),← bY (key:=key) (a:=a) (i:=ia) (by lia)]
   by_cases bw : kk key b ib < kk key a ia
   ·rw [decide_eq_true bw]
    dsimp only
    rw [if_pos rfl]
    refine wpS_bind (bP (getElem?_pos b ib (by lia)) ?_)
    have p2:=p1.pushB (show ib < b.size by lia) T.sb fun _=>by lia
    by_cases f1 : (ib + 1 == b.size) = true
    ·rw [if_pos f1]; exact wpS_pure ⟨hB1,.inl ⟨_,_,rfl,T.done p2 (by lia) (by simpa using f1)⟩⟩
    rw [if_neg f1]
    have g1 : ¬ (ib + 1 = b.size):=by simpa using f1
    split
    ·exact wpS_pure ⟨hB1,.inr ⟨_,_,_,_,_,rfl,p2,by lia,by lia,by lia⟩⟩
    ·exact wpS_pure ⟨hB1,_,_,_,_,_,rfl,p2,by lia,by lia,by lia⟩
   ·rw [decide_eq_false bw]
    dsimp only
    rw [if_neg (by decide)]
    refine wpS_bind (bP (getElem?_pos a ia (by lia)) ?_)
    have p2:=p1.pushA (show ia < a.size by lia) T.sa fun _=>by lia
    by_cases f1 : (ia + 1 + 1 == a.size) = true
    ·rw [if_pos f1]; exact wpS_pure ⟨hB1,.inl ⟨_,_,rfl,T.last p2 (by simpa using f1) (by lia)⟩⟩
    rw [if_neg f1]
    have g1 : ¬ (ia + 1 + 1 = a.size):=by simpa using f1
    split
    ·exact wpS_pure ⟨hB1,.inr ⟨_,_,_,_,_,rfl,p2,by lia,by lia,by lia⟩⟩
    ·exact wpS_pure ⟨hB1,_,_,_,_,_,rfl,p2,by lia,by lia,by lia⟩
  ·rintro c st2 ⟨hB1,out,ia,ib,ac,bc,rfl,p1,la,lb,li⟩
   exact ⟨hB1,.inr ⟨_,_,_,_,_,rfl,p1,la,lb,by lia⟩⟩
  ·rintro c st2 ⟨hB1,⟨r,c',rfl,hp⟩ | ⟨out,ia,ib,ac,bc,rfl,p1,la,lb,li⟩⟩
   ·exact wpS_pure ⟨hB1,_,_,rfl,hp⟩
   ·dsimp only
    refine wpS_bind (wpS_lift (wpAny_rule ⟨rfl,?_⟩))
    refine wpS_bind (wpS_mono (wpS_forRange (I:=fun x c st'=>SM κ ar pd st'∧∃ out ia ib mg ac bc,c = (none,out,ia,ib,mg,ac,bc)∧MI key a b out ia ib∧ia + 1 < a.size∧ib < b.size∧i + 1 ≤ ia + ib) (Q:=fun c st'=>SM κ ar pd st'∧((∃ r c',c = (some r,c')∧Fi key a b r)∨∃ out ia ib mg ac bc,c = (none,out,ia,ib,mg,ac,bc)∧MI key a b out ia ib∧ia + 1 < a.size∧ib < b.size∧i + 1 ≤ ia + ib)) ?_ ?_ ⟨hB1,_,_,_,_,_,_,rfl,p1,la,lb,li⟩) ?_)
    ·rintro x c st2 _ hx ⟨hB1,out,ia,ib,mg,ac,bc,rfl,p1,la,lb,li⟩
     change wpS (model prog w) A E s (if mg > 1 then loA a b out ia ib (mg - 1) ac bc else loA a b out ia ib mg ac bc) _ st2
     split <;>
     ·refine wpS_mono (aBf hC T hB1 p1 la lb li) ?_
      rintro r st' ⟨m,⟨x,c,rfl,hf⟩ | ⟨out,ia,ib,mg,ac,bc,rfl | rfl,hh⟩⟩
      ·exact ⟨m,.inl ⟨_,_,rfl,hf⟩⟩
      ·exact ⟨m,.inr ⟨_,_,_,_,_,_,rfl,hh⟩⟩
      ·exact ⟨m,_,_,_,_,_,_,rfl,hh⟩
    ·rintro c st2 ⟨hB1,hh⟩
     exact ⟨hB1,.inr hh⟩
    ·rintro c st2 ⟨hB1,⟨r,c',rfl,hp⟩ | ⟨out,ia,ib,mg,ac,bc,rfl,p1,la,lb,li⟩⟩
     ·exact wpS_pure ⟨hB1,_,_,rfl,hp⟩
     ·dsimp only
      rw [dN]
      refine wpS_bind (wpS_modify ?_)
      exact wpS_pure ⟨⟨hB1.arr,hB1.kind,hB1.failed,hB1.pend⟩,_,_,_,_,rfl,p1,la,lb,li⟩
 ·rintro c st1 ⟨hB0,out,ia,ib,mg,rfl,p1,la,lb,li⟩
  lia
 ·rintro c st1 ⟨hB0,r,c',rfl,hp⟩
  exact wpS_pure (h r st1 hp hB0)
end
end PyProof.Rows
namespace PyProof.Rows
open PySem
abbrev HSt:=Option (Array Keyed) × Nat × Nat × Array Keyed × Nat × Nat × Nat
abbrev gK (a b out : Array Keyed) (na nb : Nat):=a.extract 0 na ++ b.extract 0 nb ++ out.reverse
abbrev iN (a b out : Array Keyed) (na nb : Nat):=b.extract 0 nb ++ a.extract 0 na ++ out.reverse
def hiC (a b : Array Keyed) (na nb : Nat) (out : Array Keyed) (mg ac bc : Nat) : StateT SortSt Sem (ForInStep HSt):=do
 let x ← elem' a (na - 1)
 if na - 1 == 0 then pure (.done (some (gK a b (out.push x) (na - 1) nb),na - 1,nb,out.push x,mg,ac,bc))
 else if ac < 7 && bc < 7 then pure (.done (none,na - 1,nb,out.push x,mg,ac,bc)) else pure (.yield (none,na - 1,nb,out.push x,mg,ac,bc))
def hiB (a b : Array Keyed) (na nb : Nat) (out : Array Keyed) (mg ac bc : Nat) : StateT SortSt Sem (ForInStep HSt):=do
 let x ← elem' b (nb - 1)
 if nb - 1 == 1 then pure (.done (some (iN a b (out.push x) na (nb - 1)),na,nb - 1,out.push x,mg,ac,bc))
 else do
  let some at_ ← cZ true (← elem' a (na - 1)) b 0 (nb - 1) (nb - 1 - 1) | pure (.done (some (gK a b (out.push x) na (nb - 1)),na,nb - 1,out.push x,mg,ac,bc))
  if nb - 1 - at_ > 0 then
   if at_ == 1 then pure (.done (some (iN a b (out.push x ++ (b.extract at_ (nb - 1)).reverse) na at_),na,at_,out.push x ++ (b.extract at_ (nb - 1)).reverse,mg,ac,nb - 1 - at_))
   else if at_ == 0 then pure (.done (some (gK a b (out.push x ++ (b.extract at_ (nb - 1)).reverse) na at_),na,at_,out.push x ++ (b.extract at_ (nb - 1)).reverse,mg,ac,nb - 1 - at_))
   else hiC a b na at_ (out.push x ++ (b.extract at_ (nb - 1)).reverse) mg ac (nb - 1 - at_)
  else hiC a b na (nb - 1) (out.push x) mg ac (nb - 1 - at_)
def hiA (a b : Array Keyed) (na nb : Nat) (out : Array Keyed) (mg ac bc : Nat) : StateT SortSt Sem (ForInStep HSt):=do
 cS mg
 let some at_ ← cZ false (← elem' b (nb - 1)) a 0 na (na - 1) | pure (.done (some (gK a b out na nb),na,nb,out,mg,ac,bc))
 if na - at_ > 0 then
  if at_ == 0 then pure (.done (some (gK a b (out ++ (a.extract at_ na).reverse) at_ nb),at_,nb,out ++ (a.extract at_ na).reverse,mg,na - at_,bc))
  else hiB a b at_ nb (out ++ (a.extract at_ na).reverse) mg (na - at_) bc
 else hiB a b na nb out mg (na - at_) bc
theorem sZ (a b : Array Keyed) : lH a b = (do
 rule "list.sort.merge-hi"
 let total:=a.size + b.size
 let done (out : Array Keyed) (na nb : Nat):=a.extract 0 na ++ b.extract 0 nb ++ out.reverse
 let firstOfB (out : Array Keyed) (na nb : Nat):=b.extract 0 nb ++ a.extract 0 na ++ out.reverse
 let mut na:=a.size - 1
 let mut nb:=b.size
 let mut out : Array Keyed:=#[← elem' a na]
 if na == 0 then return done out na nb
 if nb == 1 then return firstOfB out na nb
 let mut minGallop:=gallopOf (← get)
 for _ in [0:total] do
  let mut acount:=0
  let mut bcount:=0
  for _ in [0:total] do
   let some aWins ← lt' (← elem' b (nb - 1)) (← elem' a (na - 1)) | return done out na nb
   if aWins then
    na:=na - 1; out:=out.push (← elem' a na); acount:=acount + 1; bcount:=0
    if na == 0 then return done out na nb
    if acount ≥ minGallop then break
   else
    nb:=nb - 1; out:=out.push (← elem' b nb); bcount:=bcount + 1; acount:=0
    if nb == 1 then return firstOfB out na nb
    if bcount ≥ minGallop then break
  rule "list.sort.gallop"
  minGallop:=minGallop + 1
  for _ in [0:total] do
   if minGallop > 1 then minGallop:=minGallop - 1
   cS minGallop
   let some at_ ← cZ false (← elem' b (nb - 1)) a 0 na (na - 1) | return done out na nb
   let k:=na - at_
   acount:=k
   if k > 0 then
    out:=out ++ (a.extract at_ na).reverse; na:=at_
    if na == 0 then return done out na nb
   nb:=nb - 1; out:=out.push (← elem' b nb)
   if nb == 1 then return firstOfB out na nb
   let some at_ ← cZ true (← elem' a (na - 1)) b 0 nb (nb - 1) | return done out na nb
   let k:=nb - at_
   bcount:=k
   if k > 0 then
    out:=out ++ (b.extract at_ nb).reverse; nb:=at_
    if nb == 1 then return firstOfB out na nb
    if nb == 0 then return done out na nb
   na:=na - 1; out:=out.push (← elem' a na)
   if na == 0 then return done out na nb
   if acount < 7 && bcount < 7 then break
  minGallop:=minGallop + 1
  cS minGallop
 unsupported "internal:list.sort.merge-bound"):=rfl
def PH (a b out : Array Keyed) (na nb : Nat) : Prop:=out.toList.Perm (a.toList.drop na ++ b.toList.drop nb)
theorem PH.pushA {a b out : Array Keyed} {na nb : Nat} (h : PH a b out na nb) (h1 : 1 ≤ na) (hi : na - 1 < a.size) : PH a b (out.push a[na - 1]) (na - 1) nb:=by
 unfold PH at h ⊢
 have e : a.toList.drop (na - 1) = a[na - 1] :: a.toList.drop na:=by
  have:=List.drop_eq_getElem_cons (l:=a.toList) (i:=na - 1) (by simpa using hi)
  rw [this,Nat.sub_add_cancel h1]
  simp
 rw [Array.toList_push,e]
 refine (h.append_right _).trans ?_
 exact List.perm_append_comm
theorem aBg {a : Array Keyed} {k n : Nat} (h : k < n) (hn : n ≤ a.size) : (a.extract k n).reverse = (a.extract (k + 1) n).reverse.push a[k]:=by
 apply Array.toList_inj.mp
 rw [Array.toList_push,Array.toList_reverse,Array.toList_reverse,dO,dO]
 have e:=List.drop_eq_getElem_cons (l:=a.toList) (i:=k) (by simp; lia)
 rw [e,show n - k = (n - (k + 1)) + 1 by lia,List.take_succ_cons,List.reverse_cons]
 congr 2
theorem qW {l : List Keyed} {i j : Nat} (h : i ≤ j) : l.drop i = (l.drop i).take (j - i) ++ l.drop j:=by
 have:=(List.take_append_drop (j - i) (l.drop i)).symm
 rw [List.drop_drop,show i + (j - i) = j by lia] at this
 exact this
structure HI (key : Keyed→Int) (a b out : Array Keyed) (na nb : Nat) : Prop where
 perm : PH a b out na nb
 so : out.toList.Pairwise fun x y=>key y ≤ key x
 la : ∀ x∈out.toList,0 < na→kk key a (na - 1) ≤ key x
 lb : ∀ x∈out.toList,0 < nb→kk key b (nb - 1) ≤ key x
section
variable {key : Keyed→Int} {a b out : Array Keyed} {na nb : Nat}
theorem HI.swap (h : HI key a b out na nb) : HI key b a out nb na:=⟨h.perm.trans List.perm_append_comm,h.so,h.lb,h.la⟩
theorem HI.pushA (h : HI key a b out na nb) (h1 : 1 ≤ na) (hi : na - 1 < a.size) (sa : So key a 0 a.size) (c : 0 < nb→kk key b (nb - 1) ≤ kk key a (na - 1)) : HI key a b (out.push a[na - 1]) (na - 1) nb:=by
 refine ⟨h.perm.pushA h1 hi,?_,fun x hx hl=>?_,fun x hx hl=>?_⟩
 ·rw [Array.toList_push]
  refine List.pairwise_append.mpr ⟨h.so,List.pairwise_singleton _ _,fun x hx y hy=>?_⟩
  rw [List.mem_singleton.mp hy,← bY (key:=key) hi]
  exact h.la x hx (by lia)
 ·rw [Array.toList_push] at hx
  have:=sa (na - 1 - 1) (na - 1) (by lia) (by lia) hi
  rcases List.mem_append.mp hx with z | z
  ·have:=h.la x z (by lia); lia
  ·rw [List.mem_singleton.mp z,← bY (key:=key) hi]; exact this
 ·rw [Array.toList_push] at hx
  rcases List.mem_append.mp hx with z | z
  ·exact h.lb x z hl
  ·rw [List.mem_singleton.mp z,← bY (key:=key) hi]; exact c hl
theorem HI.appA (h : HI key a b out na nb) (sa : So key a 0 a.size) (hn : na ≤ a.size) : ∀ (d k : Nat),na = k + d→(0 < nb→∀ i,k ≤ i→i < na→kk key b (nb - 1) ≤ kk key a i)→HI key a b (out ++ (a.extract k na).reverse) k nb
 | 0,k,e,_=>by
  have e' : a.extract k na = #[]:=by simp; lia
  have e2 : k = na:=by lia
  subst e2
  rw [e',Array.reverse_empty,Array.append_empty]; exact h
 | d + 1,k,e,c=>by
  have:=(HI.appA h sa hn d (k + 1) (by lia) fun hb i h1 h2=>c hb i (by lia) h2).pushA (by lia) (by lia) sa fun hb=>c hb _ (by lia) (by lia)
  rw [aBg (by lia) hn,← Array.push_append]
  exact this
theorem HI.pushB (h : HI key a b out na nb) (h1 : 1 ≤ nb) (hi : nb - 1 < b.size) (sb : So key b 0 b.size) (c : 0 < na→kk key a (na - 1) ≤ kk key b (nb - 1)) : HI key a b (out.push b[nb - 1]) na (nb - 1):=(h.swap.pushA h1 hi sb c).swap
theorem HI.appB (h : HI key a b out na nb) (sb : So key b 0 b.size) (hn : nb ≤ b.size) (k : Nat) (hk : k ≤ nb) (c : 0 < na→∀ i,k ≤ i→i < nb→kk key a (na - 1) ≤ kk key b i) : HI key a b (out ++ (b.extract k nb).reverse) na k:=(h.swap.appA sb hn (nb - k) k (by lia) c).swap
theorem HI.first (h : HI key a b out na nb) (sa : So key a 0 a.size) (sb : So key b 0 b.size) (ha : na ≤ a.size) (hb : nb ≤ b.size) (c : 0 < nb→∀ i,i < na→kk key b (nb - 1) ≤ kk key a i) : Fi key a b (iN a b out na nb):=by
 have h1:=h.appA sa ha na 0 (by lia) fun z i _ hi=>c z i hi
 have h2:=h1.appB sb hb 0 (by lia) fun z=>by lia
 have e : iN a b out na nb = (out ++ (a.extract 0 na).reverse ++ (b.extract 0 nb).reverse).reverse:=by simp
 rw [e]
 refine ⟨?_,?_⟩
 ·have:=h2.perm
  unfold PH at this
  rw [List.drop_zero,List.drop_zero] at this
  rw [Array.perm_iff_toList_perm,Array.toList_reverse,Array.toList_append (xs:=a)]
  exact (List.reverse_perm _).trans this
 ·rw [Array.toList_reverse,List.pairwise_reverse]
  exact h2.so
theorem HI.done (h : HI key a b out na nb) (sa : So key a 0 a.size) (sb : So key b 0 b.size) (ha : na ≤ a.size) (hb : nb ≤ b.size) (c : 0 < na→∀ i,i < nb→kk key a (na - 1) ≤ kk key b i) : Fi key a b (gK a b out na nb):=by
 have:=h.swap.first sb sa hb ha c
 refine ⟨this.1.trans ?_,this.2⟩
 rw [Array.perm_iff_toList_perm,Array.toList_append,Array.toList_append]
 exact List.perm_append_comm
end
section
variable {prog : Program} {w : World} {A : Around} {E : Value→Shared→Prop} {s : Shared} {κ : SortKind} {a₀ : Array Keyed} {pd : Array (Nat × Nat × Nat)} {ar : Array Keyed} {key : Keyed→Int}
theorem Two.first {a b : Array Keyed} (T : Two key a₀ a b) {out : Array Keyed} {na nb : Nat} (h : HI key a b out na nb) (ha : na ≤ a.size) (hb : nb = 1) : Fi key a b (iN a b out na nb) :=
 h.first T.sa T.sb ha (by have:=T.b1; lia) fun _ i hi=>by
  have h0:=T.c0
  have h1:=T.sa 0 i (by lia) (by lia) (by lia)
  rw [show nb - 1 = 0 by lia]
  lia
theorem Two.doneH {a b : Array Keyed} (T : Two key a₀ a b) {out : Array Keyed} {na nb : Nat} (h : HI key a b out na nb) (ha : na ≤ a.size) (hb : nb ≤ b.size) (hz : na = 0∨nb = 0) : Fi key a b (gK a b out na nb) :=
 h.done T.sa T.sb ha hb fun z i hi=>by lia
def GH (κ : SortKind) (ar : Array Keyed) (pd : Array (Nat × Nat × Nat)) (key : Keyed→Int) (a b : Array Keyed) (n : Nat) (r : ForInStep HSt) (st : SortSt) : Prop:=SM κ ar pd st ∧
 ((∃ x c,r = .done (some x,c)∧Fi key a b x)∨∃ na nb out mg ac bc,(r = .done (none,na,nb,out,mg,ac,bc)∨r = .yield (none,na,nb,out,mg,ac,bc))∧HI key a b out na nb∧1 ≤ na∧2 ≤ nb∧na ≤ a.size∧nb ≤ b.size∧n + na + nb ≤ a.size + b.size)
theorem uH {st : SortSt} {a b out : Array Keyed} {na nb mg ac bc n : Nat} (T : Two key a₀ a b) (hB : SM κ ar pd st) (h : HI key a b out na nb) (la : 1 ≤ na) (lb : 2 ≤ nb) (ma : na ≤ a.size) (mb : nb ≤ b.size) (li : n + na + nb ≤ a.size + b.size) (c : kk key b (nb - 1) ≤ kk key a (na - 1)) :
  wpS (model prog w) A E s (hiC a b na nb out mg ac bc) (GH κ ar pd key a b n) st:=by
 unfold hiC
 refine wpS_bind (bP (getElem?_pos a (na - 1) (by lia)) ?_)
 have p:=h.pushA la (show na - 1 < a.size by lia) T.sa fun _=>c
 by_cases f : (na - 1 == 0) = true
 ·rw [if_pos f]; exact wpS_pure ⟨hB,.inl ⟨_,_,rfl,T.doneH p (by lia) (by lia) (.inl (by simpa using f))⟩⟩
 rw [if_neg f]
 have g : ¬ (na - 1 = 0):=by simpa using f
 split
 ·exact wpS_pure ⟨hB,.inr ⟨_,_,_,_,_,_,.inl rfl,p,by lia,by lia,by lia,by lia,by lia⟩⟩
 ·exact wpS_pure ⟨hB,.inr ⟨_,_,_,_,_,_,.inr rfl,p,by lia,by lia,by lia,by lia,by lia⟩⟩
theorem uI {st : SortSt} {a b out : Array Keyed} {na nb mg ac bc n : Nat} (hC : Cmp prog w A s κ a₀ key) (T : Two key a₀ a b) (hB : SM κ ar pd st) (h : HI key a b out na nb) (la : 1 ≤ na) (lb : 2 ≤ nb) (ma : na ≤ a.size) (mb : nb ≤ b.size) (li : n + na + nb ≤ a.size + b.size) (c : kk key a (na - 1) ≤ kk key b (nb - 1)) :
  wpS (model prog w) A E s (hiB a b na nb out mg ac bc) (GH κ ar pd key a b n) st:=by
 unfold hiB
 refine wpS_bind (bP (getElem?_pos b (nb - 1) (by lia)) ?_)
 have p:=h.pushB (by lia) (show nb - 1 < b.size by lia) T.sb fun _=>c
 by_cases f : (nb - 1 == 1) = true
 ·rw [if_pos f]; exact wpS_pure ⟨hB,.inl ⟨_,_,rfl,T.first p (by lia) (by simpa using f)⟩⟩
 rw [if_neg f]
 have g : ¬ (nb - 1 = 1):=by simpa using f
 refine wpS_bind (bP (getElem?_pos a (na - 1) (by lia)) ?_)
 refine wpS_bind (eE hC hB.kind (T.ha _ (by simp)) T.hb (by lia) (by lia) (fun i j h1 h2 h3=>T.sb i j (by lia) h2 (by lia)) fun k hk q1 q2=>?_)
 rw [← bY (key:=key) (a:=a) (i:=na - 1) (by lia)] at q1 q2
 simp only [thr,if_true,Nat.zero_add] at q1 q2
 dsimp only
 by_cases kp : nb - 1 - k > 0
 ·rw [if_pos kp]
  have p2:=p.appB T.sb (by lia) k hk fun _ i h1 h2=>q2 i h1 h2
  by_cases f2 : (k == 1) = true
  ·rw [if_pos f2]; exact wpS_pure ⟨hB,.inl ⟨_,_,rfl,T.first p2 (by lia) (by simpa using f2)⟩⟩
  rw [if_neg f2]
  have g2 : ¬ (k = 1):=by simpa using f2
  by_cases f6 : (k == 0) = true
  ·rw [if_pos f6]; exact wpS_pure ⟨hB,.inl ⟨_,_,rfl,T.doneH p2 (by lia) (by lia) (.inr (by simpa using f6))⟩⟩
  rw [if_neg f6]
  have g6 : ¬ (k = 0):=by simpa using f6
  exact uH T hB p2 la (by lia) ma (by lia) (by lia) (by have:=q1 (k - 1) (by lia); lia)
 ·rw [if_neg kp]
  have e : k = nb - 1:=by lia
  subst e
  exact uH T hB p la (by lia) ma (by lia) (by lia) (by have:=q1 (nb - 1 - 1) (by lia); lia)
theorem aBh {st : SortSt} {a b out : Array Keyed} {na nb mg ac bc n : Nat} (hC : Cmp prog w A s κ a₀ key) (T : Two key a₀ a b) (hB : SM κ ar pd st) (h : HI key a b out na nb) (la : 1 ≤ na) (lb : 2 ≤ nb) (ma : na ≤ a.size) (mb : nb ≤ b.size) (li : n + na + nb ≤ a.size + b.size) :
  wpS (model prog w) A E s (hiA a b na nb out mg ac bc) (GH κ ar pd key a b n) st:=by
 unfold hiA
 rw [dN]
 refine wpS_bind (wpS_modify ?_)
 have hB2 : SM κ ar pd (SortSt.mk' (kindOf st) (arrOf st) (pendingOf st) mg (failedOf st)):=⟨hB.arr,hB.kind,hB.failed,hB.pend⟩
 refine wpS_bind (bP (getElem?_pos b (nb - 1) (by lia)) ?_)
 refine wpS_bind (eE hC hB2.kind (T.hb _ (by simp)) T.ha (by lia) (by lia) (fun i j h1 h2 h3=>T.sa i j (by lia) h2 (by lia)) fun k hk q1 q2=>?_)
 rw [← bY (key:=key) (a:=b) (i:=nb - 1) (by lia)] at q1 q2
 simp only [thr,Bool.false_eq_true,if_false,Nat.zero_add] at q1 q2
 dsimp only
 by_cases kp : na - k > 0
 ·rw [if_pos kp]
  have p2:=h.appA T.sa ma (na - k) k (by lia) fun _ i h1 h2=>by have:=q2 i h1 h2; lia
  by_cases f4 : (k == 0) = true
  ·rw [if_pos f4]; exact wpS_pure ⟨hB2,.inl ⟨_,_,rfl,T.doneH p2 (by lia) (by lia) (.inl (by simpa using f4))⟩⟩
  rw [if_neg f4]
  have g4 : ¬ (k = 0):=by simpa using f4
  exact uI hC T hB2 p2 (by lia) lb (by lia) mb (by lia) (by have:=q1 (k - 1) (by lia); lia)
 ·rw [if_neg kp]
  have e : k = na:=by lia
  subst e
  exact uI hC T hB2 h la lb ma mb li (by have:=q1 (k - 1) (by lia); lia)
theorem tD {st : SortSt} {a b : Array Keyed} {Q : Array Keyed→SortSt→Prop} (hC : Cmp prog w A s κ a₀ key) (hB : SM κ ar pd st) (T : Two key a₀ a b)
  (h : ∀ out st',Fi key a b out→SM κ ar pd st'→Q out st') : wpS (model prog w) A E s (lH a b) Q st:=by
 have a1:=T.a1
 have b1:=T.b1
 rw [sZ]
 refine wpS_bind (wpS_lift (wpAny_rule ⟨rfl,?_⟩))
 refine wpS_bind (bP (getElem?_pos a (a.size - 1) (by lia)) ?_)
 dsimp only
 have p0 : HI key a b #[a[a.size - 1]] (a.size - 1) b.size:=by
  have : HI key a b #[] a.size b.size:=⟨by unfold PH; simp,List.Pairwise.nil,fun x hx=>by simp at hx,fun x hx=>by simp at hx⟩
  exact this.pushA a1 (by lia) T.sa fun _=>T.c1 _ (by lia)
 by_cases e1 : (a.size - 1 == 0) = true
 ·rw [if_pos e1]
  exact wpS_pure (h _ _ (T.doneH p0 (by lia) (by lia) (.inl (by simpa using e1))) hB)
 rw [if_neg e1]
 have n1 : ¬ (a.size - 1 = 0):=by simpa using e1
 by_cases e2 : (b.size == 1) = true
 ·rw [if_pos e2]
  exact wpS_pure (h _ _ (T.first p0 (by lia) (by simpa using e2)) hB)
 rw [if_neg e2]
 have n2 : ¬ (b.size = 1):=by simpa using e2
 refine wpS_bind (wpS_get ?_)
 refine wpS_bind (wpS_mono (wpS_forRange (I:=fun i c st'=>SM κ ar pd st'∧∃ na nb out mg,c = (none,na,nb,out,mg)∧HI key a b out na nb∧1 ≤ na∧2 ≤ nb∧na ≤ a.size∧nb ≤ b.size∧i + na + nb ≤ a.size + b.size) (Q:=fun c st'=>SM κ ar pd st'∧∃ r c',c = (some r,c')∧Fi key a b r) ?_ ?_ ⟨hB,_,_,_,_,rfl,p0,by lia,by lia,by lia,by lia,by lia⟩) ?_)
 ·rintro i c st1 _ hi ⟨hB0,na,nb,out,mg,rfl,p1,la,lb,ma,mb,li⟩
  dsimp only
  refine wpS_bind (wpS_mono (wpS_forRange (I:=fun x c st'=>SM κ ar pd st'∧∃ na nb out ac bc,c = (none,na,nb,out,ac,bc)∧HI key a b out na nb∧1 ≤ na∧2 ≤ nb∧na ≤ a.size∧nb ≤ b.size∧i + x + na + nb ≤ a.size + b.size) (Q:=fun c st'=>SM κ ar pd st'∧((∃ r c',c = (some r,c')∧Fi key a b r)∨∃ na nb out ac bc,c = (none,na,nb,out,ac,bc)∧HI key a b out na nb∧1 ≤ na∧2 ≤ nb∧na ≤ a.size∧nb ≤ b.size∧i + 1 + na + nb ≤ a.size + b.size)) ?_ ?_ ⟨hB0,_,_,_,_,_,rfl,p1,la,lb,ma,mb,by lia⟩) ?_)
  ·rintro x c st2 _ hx ⟨hB1,na,nb,out,ac,bc,rfl,p1,la,lb,ma,mb,li⟩
   dsimp only
   refine wpS_bind (bP (getElem?_pos b (nb - 1) (by lia)) ?_)
   refine wpS_bind (bP (getElem?_pos a (na - 1) (by lia)) ?_)
   refine wpS_bind (jV hC hB1.kind (T.hb _ (by simp)) (T.ha _ (by simp)) ?_)
   rw [← bY (key:=key) (a:=b) (i:=nb - 1) (by lia),← bY (key:=key) (a:=a) (i:=na - 1) (by lia)]
   by_cases aw : kk key b (nb - 1) < kk key a (na - 1)
   ·rw [decide_eq_true aw]
    dsimp only
    rw [if_pos rfl]
    refine wpS_bind (bP (getElem?_pos a (na - 1) (by lia)) ?_)
    have p2:=p1.pushA (show 1 ≤ na by lia) (show na - 1 < a.size by lia) T.sa fun _=>by lia
    by_cases f1 : (na - 1 == 0) = true
    ·rw [if_pos f1]; exact wpS_pure ⟨hB1,.inl ⟨_,_,rfl,T.doneH p2 (by lia) (by lia) (.inl (by simpa using f1))⟩⟩
    rw [if_neg f1]
    have g1 : ¬ (na - 1 = 0):=by simpa using f1
    split
    ·exact wpS_pure ⟨hB1,.inr ⟨_,_,_,_,_,rfl,p2,by lia,by lia,by lia,by lia,by lia⟩⟩
    ·exact wpS_pure ⟨hB1,_,_,_,_,_,rfl,p2,by lia,by lia,by lia,by lia,by lia⟩
   ·rw [decide_eq_false aw]
    dsimp only
    rw [if_neg (by decide)]
    refine wpS_bind (bP (getElem?_pos b (nb - 1) (by lia)) ?_)
    have p2:=p1.pushB (show 1 ≤ nb by lia) (show nb - 1 < b.size by lia) T.sb fun _=>by lia
    by_cases f1 : (nb - 1 == 1) = true
    ·rw [if_pos f1]; exact wpS_pure ⟨hB1,.inl ⟨_,_,rfl,T.first p2 (by lia) (by simpa using f1)⟩⟩
    rw [if_neg f1]
    have g1 : ¬ (nb - 1 = 1):=by simpa using f1
    split
    ·exact wpS_pure ⟨hB1,.inr ⟨_,_,_,_,_,rfl,p2,by lia,by lia,by lia,by lia,by lia⟩⟩
    ·exact wpS_pure ⟨hB1,_,_,_,_,_,rfl,p2,by lia,by lia,by lia,by lia,by lia⟩
  ·rintro c st2 ⟨hB1,na,nb,out,ac,bc,rfl,p1,la,lb,ma,mb,li⟩
   exact ⟨hB1,.inr ⟨_,_,_,_,_,rfl,p1,la,lb,ma,mb,by lia⟩⟩
  ·rintro c st2 ⟨hB1,⟨r,c',rfl,hp⟩ | ⟨na,nb,out,ac,bc,rfl,p1,la,lb,ma,mb,li⟩⟩
   ·exact wpS_pure ⟨hB1,_,_,rfl,hp⟩
   ·dsimp only
    refine wpS_bind (wpS_lift (wpAny_rule ⟨rfl,?_⟩))
    refine wpS_bind (wpS_mono (wpS_forRange (I:=fun x c st'=>SM κ ar pd st'∧∃ na nb out mg ac bc,c = (none,na,nb,out,mg,ac,bc)∧HI key a b out na nb∧1 ≤ na∧2 ≤ nb∧na ≤ a.size∧nb ≤ b.size∧i + 1 + na + nb ≤ a.size + b.size) (Q:=fun c st'=>SM κ ar pd st'∧((∃ r c',c = (some r,c')∧Fi key a b r)∨∃ na nb out mg ac bc,c = (none,na,nb,out,mg,ac,bc)∧HI key a b out na nb∧1 ≤ na∧2 ≤ nb∧na ≤ a.size∧nb ≤ b.size∧i + 1 + na + nb ≤ a.size + b.size)) ?_ ?_ ⟨hB1,_,_,_,_,_,_,rfl,p1,la,lb,ma,mb,li⟩) ?_)
    ·rintro x c st2 _ hx ⟨hB1,na,nb,out,mg,ac,bc,rfl,p1,la,lb,ma,mb,li⟩
     change wpS (model prog w) A E s (if mg > 1 then hiA a b na nb out (mg - 1) ac bc else hiA a b na nb out mg ac bc) _ st2
     split <;>
     ·refine wpS_mono (aBh hC T hB1 p1 la lb ma mb li) ?_
      rintro r st' ⟨m,⟨x,c,rfl,hf⟩ | ⟨na,nb,out,mg,ac,bc,rfl | rfl,hh⟩⟩
      ·exact ⟨m,.inl ⟨_,_,rfl,hf⟩⟩
      ·exact ⟨m,.inr ⟨_,_,_,_,_,_,rfl,hh⟩⟩
      ·exact ⟨m,_,_,_,_,_,_,rfl,hh⟩
    ·rintro c st2 ⟨hB1,hh⟩
     exact ⟨hB1,.inr hh⟩
    ·rintro c st2 ⟨hB1,⟨r,c',rfl,hp⟩ | ⟨na,nb,out,mg,ac,bc,rfl,p1,la,lb,ma,mb,li⟩⟩
     ·exact wpS_pure ⟨hB1,_,_,rfl,hp⟩
     ·dsimp only
      rw [dN]
      refine wpS_bind (wpS_modify ?_)
      exact wpS_pure ⟨⟨hB1.arr,hB1.kind,hB1.failed,hB1.pend⟩,_,_,_,_,rfl,p1,la,lb,ma,mb,li⟩
 ·rintro c st1 ⟨hB0,na,nb,out,mg,rfl,p1,la,lb,ma,mb,li⟩
  lia
 ·rintro c st1 ⟨hB0,r,c',rfl,hp⟩
  exact wpS_pure (h r st1 hp hB0)
end
end PyProof.Rows
namespace PyProof.Rows
open PySem
abbrev Run:=Nat × Nat × Nat
def Runs (key : Keyed→Int) (a : Array Keyed) : List Run→Nat→Nat→Prop
 | [],s,e=>s = e
 | r :: rs,s,e=>r.1 = s∧1 ≤ r.2.1∧So key a s (s + r.2.1)∧Runs key a rs (s + r.2.1) e
section
variable {key : Keyed→Int} {a : Array Keyed}
theorem Runs.le : ∀ {l : List Run} {s e : Nat},Runs key a l s e→s + l.length ≤ e
 | [],_,_,h=>Nat.le_of_eq h
 | r :: rs,s,e,⟨_,h2,_,h3⟩=>by have:=h3.le; rw [List.length_cons]; lia
theorem So.keep {a a' : Array Keyed} {s e : Nat} (h : So key a s e) (k : ∀ i,s ≤ i→i < e→a'[i]? = a[i]?) : So key a' s e:=fun i j h1 h2 h3=>by
 rw [eD (k i h1 (by lia)),eD (k j (by lia) h3)]
 exact h i j h1 h2 h3
theorem Runs.keep {a' : Array Keyed} : ∀ {l : List Run} {s e : Nat},Runs key a l s e→(∀ i,s ≤ i→i < e→a'[i]? = a[i]?)→Runs key a' l s e
 | [],_,_,h,_=>h
 | r :: rs,s,e,⟨h1,h2,h3,h4⟩,k=>by
  have:=h4.le
  exact ⟨h1,h2,h3.keep fun i a b=>k i a (by lia),h4.keep fun i a b=>k i (by lia) b⟩
theorem Runs.two : ∀ {l : List Run} {s e i : Nat} {x y : Run},Runs key a l s e→l[i]? = some x→l[i + 1]? = some y →
  s ≤ x.1∧x.1 + x.2.1 = y.1∧y.1 + y.2.1 ≤ e∧1 ≤ x.2.1∧1 ≤ y.2.1∧So key a x.1 y.1∧So key a y.1 (y.1 + y.2.1)∧∀ p a',Out a a' x.1 (y.1 + y.2.1)→So key a' x.1 (y.1 + y.2.1)→Runs key a' ((l.set i (x.1,x.2.1 + y.2.1,p)).eraseIdx (i + 1)) s e
 | r :: q :: rs,s,e,0,x,y,⟨h1,h2,h3,h4,h5,h6,h7⟩,hx,hy=>by
  obtain rfl:=Option.some.inj hx
  obtain rfl:=Option.some.inj hy
  have:=h7.le
  rw [h1,h4]
  refine ⟨Nat.le_refl _,rfl,by lia,h2,h5,h3,h6,fun p a' o so=>⟨rfl,by show 1 ≤ r.2.1 + q.2.1; lia,?_,?_⟩⟩
  ·show So key a' s (s + (r.2.1 + q.2.1))
   rw [← Nat.add_assoc]; exact so
  ·show Runs key a' rs (s + (r.2.1 + q.2.1)) e
   rw [← Nat.add_assoc]; exact h7.keep fun i a b=>o i (.inr a)
 | r :: rs,s,e,i + 1,x,y,⟨h1,h2,h3,h4⟩,hx,hy=>by
  obtain ⟨a0,a1,a2,a3,a4,a5,a6,a7⟩:=Runs.two (i:=i) h4 hx hy
  exact ⟨by lia,a1,a2,a3,a4,a5,a6,fun p a' o so=>⟨h1,h2,h3.keep fun i a b=>o i (.inl (by lia)),a7 p a' o so⟩⟩
theorem Runs.push : ∀ {l : List Run} {s e n p : Nat},Runs key a l s e→1 ≤ n→So key a e (e + n)→Runs key a (l ++ [(e,n,p)]) s (e + n)
 | [],s,e,n,p,h,hn,so=>⟨h.symm,hn,by rw [show s = e from h]; exact so,by rw [show s = e from h]; rfl⟩
 | r :: rs,s,e,n,p,⟨h1,h2,h3,h4⟩,hn,so=>⟨h1,h2,h3,Runs.push h4 hn so⟩
theorem Runs.pw : ∀ {l : List Run} {s e : Nat} (i p : Nat),Runs key a l s e→Runs key a (l.modify i fun r=>(r.1,r.2.1,p)) s e
 | [],s,e,i,p,h=>by cases i <;> exact h
 | r :: rs,s,e,0,p,⟨h1,h2,h3⟩=>⟨h1,h2,h3⟩
 | r :: rs,s,e,i + 1,p,⟨h1,h2,h3,h4⟩=>⟨h1,h2,h3,Runs.pw i p h4⟩
end
theorem aBi {M : Model} {A : Around} {E : Value→Shared→Prop} {s : Shared} {σ : Type} {x : σ} {Q : PUnit→σ→Prop} {st : σ} (h : Q ⟨⟩ x) : wpS M A E s (set x : StateT σ Sem PUnit) Q st:=by
 unfold wpS; rw [StateT.run_set]; exact wpAny_pure ⟨rfl,h⟩
theorem tE (i : Nat) : mergeAt' i = (do
 let s ← get
 let (some (sa,na,power),some (sb,nb,_)):=((pendingOf s)[i]?,(pendingOf s)[i + 1]?) | unsupported "internal:list.sort.pending"
 set (setPending s (((pendingOf s).setIfInBounds i (sa,na + nb,power)).eraseIdxIfInBounds (i + 1)))
 let some k ← cZ false (← elem' (arrOf s) sb) (arrOf s) sa na 0 | return false
 let (sa,na):=(sa + k,na - k)
 if na == 0 then return true
 let some nb ← cZ true (← elem' (arrOf s) (sa + na - 1)) (arrOf s) sb nb (nb - 1) | return false
 if nb == 0 then return true
 let x:=(arrOf s).extract sa sb
 let y:=(arrOf s).extract sb (sb + nb)
 let merged ← if na ≤ nb then lG x y else lH x y
 modify fun s=>setArr s (merged.toList.zipIdx.foldl (fun a (p,j)=>a.setIfInBounds (sa + j) p) (arrOf s))
 return (failedOf (← get)).isNone):=rfl
theorem mF {sa : Nat} : ∀ (l : List Keyed) (k : Nat) (arr : Array Keyed),sa + k + l.length ≤ arr.size →
  ((l.zipIdx k).foldl (fun (a : Array Keyed) (x : Keyed × Nat)=>a.setIfInBounds (sa + x.2) x.1) arr).toList = arr.toList.take (sa + k) ++ l ++ arr.toList.drop (sa + k + l.length)
 | [],k,arr,_=>by simp
 | x :: l,k,arr,h=>by
  rw [List.length_cons] at h
  have hs : sa + k < arr.toList.length:=by rw [Array.length_toList]; lia
  rw [List.zipIdx_cons,List.foldl_cons,mF l (k + 1) _ (by rw [Array.size_setIfInBounds]; lia),Array.toList_setIfInBounds]
  dsimp only
  have e1 : (arr.toList.set (sa + k) x).take (sa + (k + 1)) = arr.toList.take (sa + k) ++ [x]:=by
   rw [← Nat.add_assoc,List.take_add_one,List.getElem?_set_self hs,List.take_set_of_le (Nat.le_refl _)]
   rfl
  have e2 : (arr.toList.set (sa + k) x).drop (sa + (k + 1) + l.length) = arr.toList.drop (sa + k + (x :: l).length):=by
   rw [List.drop_set_of_lt (by lia),List.length_cons]
   congr 1; lia
  rw [e1,e2,List.append_assoc,List.append_assoc,List.append_assoc]
  rfl
section
variable {prog : Program} {w : World} {A : Around} {E : Value→Shared→Prop} {s : Shared} {κ : SortKind} {a₀ : Array Keyed} {key : Keyed→Int}
theorem nJ {a : Array Keyed} {i : Nat} : kk key a i = (a.toList[i]?.map key).getD 0:=by unfold kk; rw [Array.getElem?_toList]
theorem eQ {a : Array Keyed} {i j k : Nat} (h : k < j - i) : kk key (a.extract i j) k = kk key a (i + k):=by
 rw [nJ,nJ,dO,List.getElem?_take,if_pos h,List.getElem?_drop]
def SR (κ : SortKind) (a₀ : Array Keyed) (key : Keyed→Int) (lo : Nat) (st : SortSt) : Prop:=∃ pd,SQ κ a₀ pd st∧Runs key (arrOf st) pd.toList 0 lo∧lo ≤ a₀.size
theorem aBj {a a' : Array Keyed} {out : List Keyed} {sa k sb k2 e : Nat} (h1 : sa + k ≤ sb) (h2 : sb + k2 ≤ e) (he : e ≤ a.size) (hl : out.length = sb + k2 - (sa + k)) (wl : a'.toList = a.toList.take (sa + k) ++ out ++ a.toList.drop (sb + k2))
  (s1 : So key a sa sb) (s2 : So key a sb e) (so : out.Pairwise fun x y=>key x ≤ key y) {b t : Int} (g1 : ∀ i,sa ≤ i→i < sa + k→kk key a i ≤ b) (g2 : ∀ i,sb + k2 ≤ i→i < e→t ≤ kk key a i) (go : ∀ x∈out,b ≤ key x∧key x ≤ t) (gb : ∀ i,sb + k2 ≤ i→i < e→b ≤ kk key a i) :
  So key a' sa e∧Out a a' sa e:=by
 have tl : (a.toList.take (sa + k)).length = sa + k:=by rw [List.length_take,Array.length_toList]; lia
 have p1 : ∀ i,i < sa + k→a'[i]? = a[i]?:=fun i hi=>by
  rw [← Array.getElem?_toList,wl,List.append_assoc,List.getElem?_append_left (by rw [tl]; exact hi),List.getElem?_take,if_pos hi,Array.getElem?_toList]
 have p3 : ∀ i,sb + k2 ≤ i→a'[i]? = a[i]?:=fun i hi=>by
  rw [← Array.getElem?_toList,wl,List.getElem?_append_right (by rw [List.length_append,tl,hl]; lia),List.length_append,tl,hl,List.getElem?_drop,Array.getElem?_toList]
  congr 1; lia
 have p2 : ∀ i,sa + k ≤ i→i < sb + k2→∃ h : i - (sa + k) < out.length,kk key a' i = key out[i - (sa + k)]:=fun i hi hi'=>by
  have hh : i - (sa + k) < out.length:=by lia
  refine ⟨hh,?_⟩
  rw [nJ,wl,List.append_assoc,List.getElem?_append_right (by rw [tl]; exact hi),tl,List.getElem?_append_left hh,List.getElem?_eq_getElem hh]; rfl
 refine ⟨fun i j hi hij hj=>?_,fun i hi=>?_⟩
 ·by_cases c1 : i < sa + k
  ·rw [eD (p1 i c1)]
   by_cases c2 : j < sa + k
   ·rw [eD (p1 j c2)]; exact s1 i j hi hij (by lia)
   ·have:=g1 i hi c1
    by_cases c3 : j < sb + k2
    ·obtain ⟨hh,e⟩:=p2 j (by lia) c3
     have:=(go _ (List.getElem_mem hh)).1
     rw [e]; lia
    ·rw [eD (p3 j (by lia))]
     have:=gb j (by lia) hj
     lia
  ·by_cases c2 : i < sb + k2
   ·obtain ⟨hh,ei⟩:=p2 i (by lia) c2
    rw [ei]
    by_cases c3 : j < sb + k2
    ·obtain ⟨hh',ej⟩:=p2 j (by lia) c3
     rw [ej]
     by_cases c4 : i = j
     ·subst c4; exact Int.le_refl _
     ·exact List.pairwise_iff_getElem.mp so _ _ hh hh' (by lia)
    ·rw [eD (p3 j (by lia))]
     have:=(go _ (List.getElem_mem hh)).2
     have:=g2 j (by lia) hj
     lia
   ·rw [eD (p3 i (by lia)),eD (p3 j (by lia))]
    exact s2 i j (by lia) hij hj
 ·rcases hi with hi | hi
  ·exact p1 i (by lia)
  ·exact p3 i (by lia)
theorem iE {st : SortSt} {i lo : Nat} {Q : Bool→SortSt→Prop} (hC : Cmp prog w A s κ a₀ key) (hB : SR κ a₀ key lo st) (hi : i + 1 < (pendingOf st).size) (h : ∀ st',SR κ a₀ key lo st'→Out (arrOf st) (arrOf st') 0 lo→(pendingOf st').size + 1 = (pendingOf st).size→Q true st') : wpS (model prog w) A E s (mergeAt' i) Q st:=by
 obtain ⟨pd,hq,hr,hlo⟩:=hB
 rw [hq.pend] at hi h
 rw [tE]
 refine wpS_bind (wpS_get ?_)
 have e1 : pd[i]? = some pd[i]:=getElem?_pos pd i (by lia)
 have e2 : pd[i + 1]? = some pd[i + 1]:=getElem?_pos pd (i + 1) hi
 obtain ⟨_,a1,a2,a3,a4,b1,b2,a5⟩:=hr.two (i:=i) (x:=pd[i]) (y:=pd[i + 1]) (by simpa using e1) (by simpa using e2)
 rw [hq.pend,e1,e2]
 revert a1 a2 a3 a4 a5 b1 b2
 generalize pd[i] = x
 generalize pd[i + 1] = y
 obtain ⟨sa,na,pw⟩:=x
 obtain ⟨sb,nb,pw2⟩:=y
 intro a1 a2 a3 a4 b1 b2 a5
 dsimp only at a1 a2 a3 a4 a5 b1 b2 ⊢
 obtain ⟨pd',hpd'⟩ : ∃ pd',pd' = (pd.setIfInBounds i (sa,na + nb,pw)).eraseIdxIfInBounds (i + 1):=⟨_,rfl⟩
 have hps : pd'.size + 1 = pd.size:=by
  rw [hpd',← Array.length_toList,Array.toList_eraseIdxIfInBounds,Array.toList_setIfInBounds,List.length_eraseIdx,List.length_set,if_pos (by simpa using hi),Array.length_toList]
  lia
 have hr' : ∀ a',Out (arrOf st) a' sa (sb + nb)→So key a' sa (sb + nb)→Runs key a' pd'.toList 0 lo:=by
  intro a' o so
  rw [hpd',Array.toList_eraseIdxIfInBounds,Array.toList_setIfInBounds]
  exact a5 pw a' o so
 refine wpS_bind (aBi ?_)
 rw [← hpd']
 have hq1 : SM κ (arrOf st) pd' (setPending st pd'):=⟨rfl,hq.kind,hq.failed,rfl⟩
 have hsz:=hq.size
 have hin : ∀ x∈(arrOf st).toList,x∈a₀.toList:=fun x hx=>(Array.perm_iff_toList_perm.mp hq.perm).mem_iff.mp hx
 have fin : ∀ st',SM κ (arrOf st) pd' st'→So key (arrOf st) sa (sb + nb)→Q true st':=fun st' m so=>h st' ⟨pd',⟨by rw [m.arr]; exact hq.perm,m.kind,m.failed,m.pend⟩,by rw [m.arr]; exact hr' _ Out.refl so,hlo⟩ (by rw [m.arr]; exact Out.refl) (by rw [m.pend]; exact hps)
 refine wpS_bind (bP (getElem?_pos (arrOf st) sb (by lia)) ?_)
 refine wpS_bind (eE hC hq1.kind (hin _ (by simp)) hin (by lia) (by lia) (by rw [a1]; exact b1) fun k hk q1 q2=>?_)
 rw [← bY (key:=key) (a:=arrOf st) (i:=sb) (by lia)] at q1 q2
 simp only [thr,Bool.false_eq_true,if_false] at q1 q2
 dsimp only
 by_cases f1 : (na - k == 0) = true
 ·rw [if_pos f1]
  have g1 : na - k = 0:=by simpa using f1
  refine wpS_pure (fin _ hq1 fun i j h1 h2 h3=>?_)
  by_cases c1 : j < sb
  ·exact b1 i j h1 h2 c1
  ·by_cases c2 : i < sb
   ·have:=q1 (i - sa) (by lia)
    rw [show sa + (i - sa) = i by lia] at this
    have:=b2 sb j (by lia) (by lia) h3
    lia
   ·exact b2 i j (by lia) h2 h3
 rw [if_neg f1]
 have g1 : ¬ (na - k = 0):=by simpa using f1
 have el : sa + k + (na - k) - 1 = sb - 1:=by lia
 rw [el]
 refine wpS_bind (bP (getElem?_pos (arrOf st) (sb - 1) (by lia)) ?_)
 refine wpS_bind (eE hC hq1.kind (hin _ (by simp)) hin (by lia) (by lia) b2 fun k2 hk2 q3 q4=>?_)
 rw [← bY (key:=key) (a:=arrOf st) (i:=sb - 1) (by lia)] at q3 q4
 simp only [thr,if_true] at q3 q4
 dsimp only
 by_cases f2 : (k2 == 0) = true
 ·rw [if_pos f2]
  have g2 : k2 = 0:=by simpa using f2
  refine wpS_pure (fin _ hq1 fun i j h1 h2 h3=>?_)
  by_cases c1 : j < sb
  ·exact b1 i j h1 h2 c1
  ·by_cases c2 : i < sb
   ·have:=q4 (j - sb) (by lia) (by lia)
    rw [show sb + (j - sb) = j by lia] at this
    have:=b1 i (sb - 1) h1 (by lia) (by lia)
    lia
   ·exact b2 i j (by lia) h2 h3
 rw [if_neg f2]
 have g2 : ¬ (k2 = 0):=by simpa using f2
 have sx : ((arrOf st).extract (sa + k) sb).size = sb - (sa + k):=by rw [Array.size_extract]; lia
 have sy : ((arrOf st).extract sb (sb + k2)).size = k2:=by rw [Array.size_extract]; lia
 have T : Two key a₀ ((arrOf st).extract (sa + k) sb) ((arrOf st).extract sb (sb + k2)):=by
  refine ⟨fun x hx=>hin x (by rw [dO] at hx; exact List.mem_of_mem_drop (List.mem_of_mem_take hx)),fun x hx=>hin x (by rw [dO] at hx; exact List.mem_of_mem_drop (List.mem_of_mem_take hx)),by lia,by lia,fun i j h1 h2 h3=>?_,fun i j h1 h2 h3=>?_,?_,fun i hi=>?_⟩
  ·rw [sx] at h3
   rw [eQ (by lia),eQ (by lia)]
   exact b1 _ _ (by lia) (by lia) (by lia)
  ·rw [sy] at h3
   rw [eQ (by lia),eQ (by lia)]
   exact b2 _ _ (by lia) (by lia) (by lia)
  ·rw [eQ (by lia),eQ (by lia)]
   have:=q2 k (by lia) (by lia)
   rw [Nat.add_zero,Nat.add_zero]
   lia
  ·rw [sy] at hi
   rw [sx,eQ (by lia),eQ (by lia)]
   have:=q3 i hi
   rw [show sa + k + (sb - (sa + k) - 1) = sb - 1 by lia]
   lia
 have last : ∀ (out : Array Keyed) (st' : SortSt),Fi key ((arrOf st).extract (sa + k) sb) ((arrOf st).extract sb (sb + k2)) out→SM κ (arrOf st) pd' st'→wpS (model prog w) A E s (do
   modify fun s=>setArr s (out.toList.zipIdx.foldl (fun a (p,j)=>a.setIfInBounds (sa + k + j) p) (arrOf s))
   return (failedOf (← get)).isNone) Q st':=by
  intro out st' hF m
  obtain ⟨hp,so⟩:=hF
  refine wpS_bind (wpS_modify ?_)
  refine wpS_bind (wpS_get (wpS_pure ?_))
  have osz : out.toList.length = sb - (sa + k) + k2:=by
   rw [Array.length_toList,hp.size_eq,Array.size_append,sx,sy]
  have wl:=mF (sa:=sa + k) out.toList 0 (arrOf st') (by rw [m.arr,osz]; lia)
  have e3 : sa + k + (sb - (sa + k) + k2) = sb + k2:=by lia
  rw [m.arr,osz,Nat.add_zero,e3] at wl
  have hp':=Array.perm_iff_toList_perm.mp hp
  rw [Array.toList_append] at hp'
  have pm : (out.toList.zipIdx.foldl (fun a (p,j)=>a.setIfInBounds (sa + k + j) p) (arrOf st)).Perm (arrOf st):=by
   rw [Array.perm_iff_toList_perm]
   refine (List.Perm.of_eq wl).trans ?_
   rw [dO,dO] at hp'
   refine ((hp'.append_left _).append_right _).trans ?_
   have e1 : (arrOf st).toList.drop (sa + k) = ((arrOf st).toList.drop (sa + k)).take (sb - (sa + k)) ++ (arrOf st).toList.drop sb:=qW (by lia)
   have e2 : (arrOf st).toList.drop sb = ((arrOf st).toList.drop sb).take (sb + k2 - sb) ++ (arrOf st).toList.drop (sb + k2):=qW (by lia)
   refine List.Perm.of_eq ?_
   conv=>rhs; rw [← List.take_append_drop (sa + k) (arrOf st).toList,e1,e2]
   simp only [List.append_assoc]
  have hf : (failedOf st').isNone = true:=by rw [m.failed]; rfl
  show Q (failedOf st').isNone _
  rw [hf]
  have go : ∀ x∈out.toList,kk key (arrOf st) sb ≤ key x∧key x ≤ kk key (arrOf st) (sb - 1):=by
   intro x hx
   rcases List.mem_append.mp (hp'.mem_iff.mp hx) with z | z
   ·obtain ⟨n,hn,rfl⟩:=List.mem_iff_getElem.mp z
    rw [Array.length_toList] at hn
    have e : key (((arrOf st).extract (sa + k) sb).toList[n]'(by rw [Array.length_toList]; exact hn)) = kk key (arrOf st) (sa + k + n):=by
     rw [← eQ (i:=sa + k) (j:=sb) (by lia),bY hn,Array.getElem_toList]
    rw [e]
    have h1:=q2 (k + n) (by lia) (by lia)
    rw [← Nat.add_assoc] at h1
    have h2:=b1 (sa + k + n) (sb - 1) (by lia) (by lia) (by lia)
    lia
   ·obtain ⟨n,hn,rfl⟩:=List.mem_iff_getElem.mp z
    rw [Array.length_toList] at hn
    have e : key (((arrOf st).extract sb (sb + k2)).toList[n]'(by rw [Array.length_toList]; exact hn)) = kk key (arrOf st) (sb + n):=by
     rw [← eQ (i:=sb) (j:=sb + k2) (by lia),bY hn,Array.getElem_toList]
    rw [e]
    have h1:=q3 n (by lia)
    have h2:=b2 sb (sb + n) (by lia) (by lia) (by lia)
    lia
  have bk:=aBj (key:=key) (a:=arrOf st) (a':=out.toList.zipIdx.foldl (fun a (p,j)=>a.setIfInBounds (sa + k + j) p) (arrOf st)) (out:=out.toList) (sa:=sa) (k:=k) (sb:=sb) (k2:=k2) (e:=sb + nb) (by lia) (by lia) (by lia) (by lia) wl b1 b2 so (b:=kk key (arrOf st) sb) (t:=kk key (arrOf st) (sb - 1))
   (fun i h1 h2=>by have:=q1 (i - sa) (by lia); rw [show sa + (i - sa) = i by lia] at this; lia) (fun i h1 h2=>by have:=q4 (i - sb) (by lia) (by lia); rw [show sb + (i - sb) = i by lia] at this; lia) go (fun i h1 h2=>b2 sb i (by lia) (by lia) h2)
  have ea : arrOf (setArr st' (out.toList.zipIdx.foldl (fun a (p,j)=>a.setIfInBounds (sa + k + j) p) (arrOf st'))) = out.toList.zipIdx.foldl (fun a (p,j)=>a.setIfInBounds (sa + k + j) p) (arrOf st):=by rw [m.arr]
  refine h _ ⟨pd',⟨by rw [ea]; exact pm.trans hq.perm,m.kind,m.failed,m.pend⟩,by rw [ea]; exact hr' _ bk.2 bk.1,hlo⟩ (by rw [ea]; exact bk.2.wide (by lia) (by lia)) (by show (pendingOf st').size + 1 = _; rw [m.pend]; exact hps)
 by_cases f3 : na - k ≤ k2
 ·rw [if_pos f3]
  exact wpS_bind (sY hC hq1 T fun out st' hp m=>last out st' hp m)
 ·rw [if_neg f3]
  exact wpS_bind (tD hC hq1 T fun out st' hp m=>last out st' hp m)
end
end PyProof.Rows
namespace PyProof.Rows
open PySem
section
variable {prog : Program} {w : World} {A : Around} {E : Value→Shared→Prop} {s : Shared} {κ : SortKind} {a₀ : Array Keyed} {key : Keyed→Int}
theorem tG {c : Prop} [Decidable c] {x : Nat} : (if c then x - 1 else x) ≤ x:=by split <;> lia
theorem SR.pw {lo : Nat} {st : SortSt} (h : SR κ a₀ key lo st) (i p : Nat) : SR κ a₀ key lo (setPending st ((pendingOf st).modify i fun r=>(r.1,r.2.1,p))):=by
 obtain ⟨pd,hq,hr,hl⟩:=h
 refine ⟨_,⟨hq.perm,hq.kind,hq.failed,rfl⟩,?_,hl⟩
 show Runs key (arrOf st) ((pendingOf st).modify i fun r=>(r.1,r.2.1,p)).toList 0 lo
 rw [hq.pend,Array.toList_modify]
 exact hr.pw i p
theorem SR.push {lo n : Nat} {st : SortSt} (h : SR κ a₀ key lo st) (h1 : 1 ≤ n) (hn : lo + n ≤ a₀.size) (so : So key (arrOf st) lo (lo + n)) : SR κ a₀ key (lo + n) (setPending st ((pendingOf st).push (lo,n,0))):=by
 obtain ⟨pd,hq,hr,hl⟩:=h
 refine ⟨_,⟨hq.perm,hq.kind,hq.failed,rfl⟩,?_,hn⟩
 show Runs key (arrOf st) ((pendingOf st).push (lo,n,0)).toList 0 (lo + n)
 rw [hq.pend,Array.toList_push]
 exact hr.push h1 so
theorem yP {st : SortSt} {Q : Unit→SortSt→Prop} (hC : Cmp prog w A s κ a₀ key) (hp : (arrOf st).Perm a₀) (hk : kindOf st = κ) (hf : failedOf st = none) (hpd : pendingOf st = #[])
  (h : ∀ st',(arrOf st').Perm a₀→failedOf st' = none→So key (arrOf st') 0 a₀.size→Q () st') : wpS (model prog w) A E s sortRuns' Q st:=by
 have h0 : SR κ a₀ key 0 st:=⟨#[],⟨hp,hk,hf,hpd⟩,rfl,Nat.zero_le _⟩
 have hsz : (arrOf st).size = a₀.size:=hp.size_eq
 rw [sortRuns'_eq]
 refine wpS_bind (wpS_get ?_)
 dsimp only
 rw [hsz]
 refine wpS_bind (wpS_mono (wpS_forRange (I:=fun i c st'=>∃ lo,c = (none,lo)∧SR κ a₀ key lo st'∧i ≤ lo) (Q:=fun c st'=>∃ lo,c = (none,lo)∧SR κ a₀ key lo st'∧a₀.size ≤ lo) ?_ (fun c st' ⟨lo,a,b,c⟩=>⟨lo,a,b,by lia⟩) ⟨0,rfl,h0,by lia⟩) ?_)
 ·rintro i c st1 _ _ ⟨lo,rfl,hR,hil⟩
  by_cases e1 : lo ≥ a₀.size
  ·dsimp only
   rw [if_pos e1]; exact wpS_pure ⟨lo,rfl,hR,e1⟩
  have hlo : lo < a₀.size:=by lia
  obtain ⟨pd,hq,hr,hl⟩:=hR
  dsimp only
  rw [if_neg e1]
  refine wpS_bind (yO hC (by lia) (by lia) hq fun n st2 hq2 n1 n2 so ou=>?_)
  have hr2 : Runs key (arrOf st2) pd.toList 0 lo:=hr.keep fun i _ h2=>ou i (.inl h2)
  dsimp only
  by_cases hm : n < minRun' a₀.size a₀.size 0
  ·rw [if_pos hm]
   refine wpS_bind (wpS_lift (wpAny_rule ⟨rfl,?_⟩))
   refine wpS_bind (aBe hC (by lia) (by lia) hq2 so fun st3 hq3 so3 ou3=>?_)
   simp only [Bool.not_true,Bool.false_eq_true,if_false]
   have hR3 : SR κ a₀ key lo st3:=⟨pd,hq3,hr2.keep fun i _ h2=>ou3 i (.inl h2),hl⟩
   refine wpS_bind (wpS_get ?_)
   cases hb : (pendingOf st3).back? with
   | none =>
    dsimp only
    exact wpS_bind (wpS_modify (wpS_pure ⟨_,rfl,SR.push hR3 (by lia) (by lia) so3,by lia⟩))
   | some r =>
    obtain ⟨s1,n1',pw1⟩:=r
    dsimp only
    refine wpS_bind (wpS_mono (wpS_forRange (I:=fun _ c st'=>c = (none,())∧SR κ a₀ key lo st'∧So key (arrOf st') lo (lo + min (a₀.size - lo) (minRun' a₀.size a₀.size 0))) (Q:=fun c st'=>c = (none,())∧SR κ a₀ key lo st'∧So key (arrOf st') lo (lo + min (a₀.size - lo) (minRun' a₀.size a₀.size 0))) ?_ (fun c st' hh=>hh) ⟨rfl,hR3,so3⟩) ?_)
    ·rintro x c st4 _ _ ⟨rfl,hR4,so4⟩
     refine wpS_bind (wpS_get ?_)
     by_cases hs : (pendingOf st4).size > 1
     ·rw [if_pos hs,getElem?_pos (pendingOf st4) ((pendingOf st4).size - 2) (by lia)]
      generalize (pendingOf st4)[(pendingOf st4).size - 2] = r4
      obtain ⟨_,_,older⟩:=r4
      dsimp only
      split
      ·exact wpS_pure ⟨rfl,hR4,so4⟩
      ·refine wpS_bind (iE hC hR4 (by lia) fun st5 hR5 ou _=>?_)
       simp only [Bool.not_true,Bool.false_eq_true,if_false]
       exact wpS_pure ⟨rfl,hR5,so4.keep fun i h1 _=>ou i (.inr h1)⟩
     ·rw [if_neg hs]; exact wpS_pure ⟨rfl,hR4,so4⟩
    ·rintro c st4 ⟨rfl,hR4,so4⟩
     dsimp only
     exact wpS_bind (wpS_modify (wpS_bind (wpS_modify (wpS_pure ⟨_,rfl,(hR4.pw _ _).push (by lia) (by lia) so4,by lia⟩))))
  ·rw [if_neg hm]
   have hR3 : SR κ a₀ key lo st2:=⟨pd,hq2,hr2,hl⟩
   refine wpS_bind (wpS_get ?_)
   cases hb : (pendingOf st2).back? with
   | none =>
    dsimp only
    exact wpS_bind (wpS_modify (wpS_pure ⟨_,rfl,SR.push hR3 n1 (by lia) so,by lia⟩))
   | some r =>
    obtain ⟨s1,n1',pw1⟩:=r
    dsimp only
    refine wpS_bind (wpS_mono (wpS_forRange (I:=fun _ c st'=>c = (none,())∧SR κ a₀ key lo st'∧So key (arrOf st') lo (lo + n)) (Q:=fun c st'=>c = (none,())∧SR κ a₀ key lo st'∧So key (arrOf st') lo (lo + n)) ?_ (fun c st' hh=>hh) ⟨rfl,hR3,so⟩) ?_)
    ·rintro x c st4 _ _ ⟨rfl,hR4,so4⟩
     refine wpS_bind (wpS_get ?_)
     by_cases hs : (pendingOf st4).size > 1
     ·rw [if_pos hs,getElem?_pos (pendingOf st4) ((pendingOf st4).size - 2) (by lia)]
      generalize (pendingOf st4)[(pendingOf st4).size - 2] = r4
      obtain ⟨_,_,older⟩:=r4
      dsimp only
      split
      ·exact wpS_pure ⟨rfl,hR4,so4⟩
      ·refine wpS_bind (iE hC hR4 (by lia) fun st5 hR5 ou _=>?_)
       simp only [Bool.not_true,Bool.false_eq_true,if_false]
       exact wpS_pure ⟨rfl,hR5,so4.keep fun i h1 _=>ou i (.inr h1)⟩
     ·rw [if_neg hs]; exact wpS_pure ⟨rfl,hR4,so4⟩
    ·rintro c st4 ⟨rfl,hR4,so4⟩
     dsimp only
     exact wpS_bind (wpS_modify (wpS_bind (wpS_modify (wpS_pure ⟨_,rfl,(hR4.pw _ _).push n1 (by lia) so4,by lia⟩))))
 ·rintro c st1 ⟨lo,rfl,hR,hlo⟩
  dsimp only
  refine wpS_bind (wpS_mono (wpS_forRange (I:=fun i c st'=>c = (none,())∧SR κ a₀ key lo st'∧(pendingOf st').size ≤ max 1 (a₀.size - i)) (Q:=fun c st'=>c = (none,())∧SR κ a₀ key lo st'∧(pendingOf st').size ≤ 1) ?_ ?_ ⟨rfl,hR,?_⟩) ?_)
  ·rintro x c st4 _ _ ⟨rfl,hR4,hz⟩
   refine wpS_bind (wpS_get ?_)
   by_cases hs : (pendingOf st4).size ≤ 1
   ·rw [if_pos hs]; exact wpS_pure ⟨rfl,hR4,hs⟩
   rw [if_neg hs]
   refine wpS_bind (iE hC hR4 ?_ fun st5 hR5 _ hz5=>?_)
   ·exact Nat.lt_of_le_of_lt (Nat.succ_le_succ tG) (show (pendingOf st4).size - 2 + 1 < (pendingOf st4).size by lia)
   ·simp only [Bool.not_true,Bool.false_eq_true,if_false]
    exact wpS_pure ⟨rfl,hR5,by lia⟩
  ·rintro c st4 ⟨rfl,hR4,hz⟩
   exact ⟨rfl,hR4,by lia⟩
  ·obtain ⟨pd,hq,hr,hl⟩:=hR
   have:=hr.le
   rw [hq.pend]
   simp at this
   lia
  ·rintro c st4 ⟨rfl,⟨pd,hq,hr,hl⟩,hz⟩
   refine wpS_pure (h _ hq.perm hq.failed ?_)
   rw [hq.pend] at hz
   have hz' : pd.toList.length ≤ 1:=by simpa using hz
   have e : lo = a₀.size:=by lia
   subst e
   revert hz'
   revert hr
   cases pd.toList with
   | nil=>intro hr _ i j _ _ hj; have : 0 = a₀.size:=hr; lia
   | cons r rs =>
    cases rs with
    | nil=>intro hr _; obtain ⟨_,_,so,e⟩:=hr; have e : 0 + r.2.1 = a₀.size:=e; rw [← e]; exact so
    | cons r2 rs=>intro _ hz; simp at hz
end
end PyProof.Rows
namespace L2
open PySem PySem.Spec PyProof.Rows PySem.W
def fD (h : Heap) (g : Addr→Int × Int) (vs : List Value) : Prop:=∀ v∈vs,∃ a o n t u,v = Value.ref a∧h.get? a = some o∧o.cls = .type "tuple" ∧ o.data = .seq #[.int (g a).1 t,.int (g a).2 u] n∧0 ≤ (g a).2∧(g a).2 < 64
def pk (u : Int × Int) : Int:=64 * u.1 + u.2
def kv (g : Addr→Int × Int) (v : Value) : Int:=match v with
 | .ref a=>pk (g a)
 | _=>0
theorem fD.tups {h : Heap} {g : Addr→Int × Int} : ∀ {vs : List Value},fD h g vs→∃ fs,KatTups h vs fs∧fs.length = vs.length∧∀ v∈fs,∃ n t,v = Value.int n t
 | [],_=>⟨[],trivial,rfl,fun v hv=>nomatch hv⟩
 | v :: vs,hp=>by
  obtain ⟨fs,k1,k2,k3⟩:=fD.tups (vs:=vs) fun b hb=>hp b (List.mem_cons_of_mem _ hb)
  obtain ⟨a,o,n,t,u,rfl,e,c,d,_⟩:=hp v List.mem_cons_self
  refine ⟨.int (g a).1 t :: fs,KatTups.cons e c d rfl k1,by simp [k2],fun v hv=>?_⟩
  rcases List.mem_cons.mp hv with z | z
  ·exact ⟨_,t,z⟩
  ·exact k3 v z
section
variable {prog : Program} {w : World} {A : Around} {E : Value→Shared→Prop} {s : Shared} {g : Addr→Int × Int}
theorem yQ {vs : List Value} (hp : fD s.heap g vs) : Cmp prog w A s (tuples' true) (vs.toArray.zip vs.toArray) (fun x=>kv g x.1):=by
 have mem : ∀ x∈(vs.toArray.zip vs.toArray).toList,x.1∈vs:=by
  intro x hx
  rw [Array.toList_zip] at hx
  exact (List.of_mem_zip hx).1
 intro x y hx hy Q E' q
 obtain ⟨a,o,n,t1,t2,e1,eo,_,ed,a1,a2⟩:=hp x.1 (mem x hx)
 obtain ⟨b,o',n',u1,u2,e2,eo',_,ed',b1,b2⟩:=hp y.1 (mem y hy)
 replace q : ∀ c,c = decide (kv g x.1 < kv g y.1)→Q c s:=fun c e=>e ▸ q
 rw [e1,e2] at q
 rw [e1,e2]
 replace q : ∀ c,c = decide (64 * (g a).1 + (g a).2 < 64 * (g b).1 + (g b).2)→Q c s:=q
 generalize (g a).1 = x1 at *
 generalize (g a).2 = x2 at *
 generalize (g b).1 = y1 at *
 generalize (g b).2 = y2 at *
 refine kat_lt eo ed eo' ed' (kat_cons (wpAny_eqBool_int ?_))
 by_cases h1 : x1 = y1
 ·rw [beq_iff_eq.mpr h1]
  refine kat_yes (kat_cons (wpAny_eqBool_int ?_))
  by_cases h2 : x2 = y2
  ·rw [beq_iff_eq.mpr h2]
   exact kat_yes (kat_nil (q _ (by
    have e : decide (64 * x1 + x2 < 64 * y1 + y2) = false:=decide_eq_false (by lia)
    rw [e]; rfl)))
  ·rw [beq_eq_false_iff_ne.mpr h2]
   exact kat_no (kat_one _ _ (lt_int (q _ (by congr 1; rw [eq_iff_iff]; lia))))
 ·rw [beq_eq_false_iff_ne.mpr h1]
  exact kat_no (oneLt_int (q _ (by congr 1; rw [eq_iff_iff]; lia)))
theorem aBk {vs : List Value} : ((vs.toArray.zip vs.toArray).map (·.2)).toList = vs:=by
 rw [Array.toList_map,Array.toList_zip]
 show (vs.zip vs).map (·.2) = vs
 rw [← List.unzip_snd,List.unzip_zip_right (Nat.le_refl _)]
theorem qX : ∀ {l : List Value} {p : Value × Value},p∈l.zip l→p.2 = p.1
 | x :: l,p,h=>by
  rw [List.zip_cons_cons] at h
  rcases List.mem_cons.mp h with z | z
  ·rw [z]
  ·exact qX z
theorem mG {a : Addr} {vs : List Value} {n : Nat} {P : PySem.Fin→Shared→Prop} (ho : s.heap.get? a = some (seqObj "list" vs.toArray n)) (hp : fD s.heap g vs) (hz : vs.length ≤ 4096)
  (h : ∀ (out : Array Value),out.toList.Perm vs→out.toList.Pairwise (fun u v=>kv g u ≤ kv g v)→P (.done (.ret .none)) { s with heap:=sortedHeap s.heap a vs out }) :
  wpAny (model prog w) A (Builtin.«list.sort» ⟨[.ref a],[]⟩) P E s:=by
 rw [list_sort_plain]
 have ha : a < s.heap.objs.size:=Heap.lt_size ho
 have hsl : vs.toArray.size ≤ sizeLine:=by rw [List.size_toArray,sizeLine_eq]; lia
 refine wpAny_bind (listItems_at ho rfl ?_)
 refine wpAny_bind (listUpdate_at ho rfl ?_ hsl (Nat.zero_le _))
 obtain ⟨e1,ho1⟩ : ∃ e1,(s.heap.update a (Obj.mapSeq fun _=>#[])).get? a = some (seqObj "list" #[] e1):=⟨_,get?_update_seq ho (fun _=>#[])⟩
 refine wpAny_bind (seqEpoch_at ho1 rfl ?_)
 refine wpAny_bind (wpAny_newTuple ?_ (by show vs.length ≤ _; rw [sizeLine_eq]; lia))
 refine wpAny_bind (wpAny_newList ?_ (Nat.zero_le _))
 refine wpAny_holding ?_
 have ho6 : (((s.heap.update a (Obj.mapSeq fun _=>#[])).push (seqObj "tuple" vs.toArray 0)).push (seqObj "list" #[] 0)).get? a = some (seqObj "list" #[] e1):=by
  rw [Heap.get?_push_ne _ _ _ (by rw [size_push',Heap.size_update]; exact Nat.ne_of_lt (Nat.lt_succ_of_lt ha)),Heap.get?_push_ne _ _ _ (by rw [Heap.size_update]; exact Nat.ne_of_lt ha)]
  exact ho1
 have hp6 : fD (((s.heap.update a (Obj.mapSeq fun _=>#[])).push (seqObj "tuple" vs.toArray 0)).push (seqObj "list" #[] 0)) g vs:=by
  intro v hv
  obtain ⟨b,o,n,t,u,ev,e,c,d⟩:=hp v hv
  have hb : b < s.heap.objs.size:=Heap.lt_size e
  have hne : b ≠ a:=by
   rintro rfl
   rw [ho] at e; cases e
   exact absurd (Value.type.inj c) (by decide)
  refine ⟨b,o,n,t,u,ev,?_,c,d⟩
  rw [Heap.get?_push_ne _ _ _ (by rw [size_push',Heap.size_update]; exact Nat.ne_of_lt (Nat.lt_succ_of_lt hb)),Heap.get?_push_ne _ _ _ (by rw [Heap.size_update]; exact Nat.ne_of_lt hb),Heap.get?_update_ne _ _ _ _ hne]
  exact e
 show wpAny (model prog w) A _ P E { s with heap:=((s.heap.update a (Obj.mapSeq fun _=>#[])).push (seqObj "tuple" vs.toArray 0)).push (seqObj "list" #[] 0) }
 dsimp only
 have fin : ∀ st' : SortSt,(arrOf st').Perm (vs.toArray.zip vs.toArray)→So (fun x=>kv g x.1) (arrOf st') 0 (arrOf st').size→P (.done (.ret .none)) { s with heap:=sortedHeap s.heap a vs ((arrOf st').map (·.2)) }:=by
  intro st' hpm so
  refine h _ ?_ ?_
  ·have:=(Array.perm_iff_toList_perm.mp hpm).map (·.2)
   rw [← Array.toList_map,← Array.toList_map,aBk] at this
   exact this
  ·have same : ∀ p∈(arrOf st').toList,p.2 = p.1:=by
    intro p hp
    have:=(Array.perm_iff_toList_perm.mp hpm).mem_iff.mp hp
    rw [Array.toList_zip] at this
    exact qX this
   rw [Array.toList_map,List.pairwise_map]
   refine List.pairwise_iff_getElem.mpr fun i j hi hj hij=>?_
   rw [same _ (List.getElem_mem hi),same _ (List.getElem_mem hj)]
   have:=so i j (by lia) (by lia) (by simpa using hj)
   rw [bY (by simpa using hi),bY (by simpa using hj)] at this
   simpa using this
 have zsz : (vs.toArray.zip vs.toArray).size = vs.length:=by simp
 by_cases h2 : vs.toArray.size < 2
 ·rw [if_pos h2,if_pos h2]
  refine wpAny_bind (wpAny_pure ?_)
  rw [StateT.run_pure]
  refine wpAny_bind (wpAny_pure ?_)
  dsimp only
  refine wpAny_bind (seqEpoch_at ho6 rfl ?_)
  refine wpAny_bind (listUpdate_at ho6 rfl ?_ (Nat.zero_le _) (by show ((vs.toArray.zip vs.toArray).map (·.2)).size ≤ _; rw [Array.size_map,zsz,sizeLine_eq]; lia))
  simp only [bne_self_eq_false,Bool.false_eq_true,if_false]
  exact wpAny_pure (fin (SortSt.mk' general' (vs.toArray.zip vs.toArray) #[] 7 none) (Array.Perm.refl _) fun i j _ h3 h4=>by
   have h4 : j < (vs.toArray.zip vs.toArray).size:=h4
   rw [zsz] at h4
   rw [List.size_toArray] at h2
   rw [show i = j by lia]
   exact Int.le_refl _)
 ·rw [if_neg h2,if_neg h2]
  have hlen : 2 ≤ vs.length:=by rw [List.size_toArray] at h2; lia
  obtain ⟨fs,k1,k2,k3⟩:=hp6.tups
  refine wpAny_bind (kat_kind (T:=.type "int") k1 (by lia) (fun v hv=>?_) rfl ?_)
  ·obtain ⟨m,t,rfl⟩:=k3 v hv
   exact .now
  refine wpAny_bind (wpAny_mono (yP (a₀:=vs.toArray.zip vs.toArray) (κ:=tuples' true) (st:=SortSt.mk' (tuples' true) (vs.toArray.zip vs.toArray) #[] 7 none)
   (Q:=fun _ st'=>(arrOf st').Perm (vs.toArray.zip vs.toArray)∧failedOf st' = none∧So (fun x=>kv g x.1) (arrOf st') 0 (vs.toArray.zip vs.toArray).size) (yQ hp6) (Array.Perm.refl _) rfl rfl rfl fun st' b1 b2 b3=>⟨b1,b2,b3⟩) ?_ fun _ _ e=>e)
  rintro ⟨⟨⟩,st'⟩ s' ⟨rfl,hpm,hf,so⟩
  dsimp only
  refine wpAny_bind (seqEpoch_at ho6 rfl ?_)
  refine wpAny_bind (listUpdate_at ho6 rfl ?_ (Nat.zero_le _) (by refine Nat.le_trans (Nat.le_of_eq ((Array.size_map ..).trans (hpm.size_eq.trans zsz))) ?_; rw [sizeLine_eq]; lia))
  rw [hf]
  simp only [bne_self_eq_false,Bool.false_eq_true,if_false]
  exact wpAny_pure (fin st' hpm (by rw [hpm.size_eq]; exact so))
theorem qY {l : Addr} {vs : List Value} {Q : Value→Shared→Prop} (hl : s.heap.IsList l vs.toArray) (hp : fD s.heap g vs) (hz : vs.length ≤ 4096)
  (h : ∀ (out : Array Value),out.toList.Perm vs→out.toList.Pairwise (fun u v=>kv g u ≤ kv g v)→Q (.ref (s.heap.objs.size + 1)) { s with heap:=sortedAll s.heap vs out }) :
  wpAny (model prog w) A (call (.builtin "sorted") [.ref l]) Q E s:=by
 have hsl : vs.length ≤ sizeLine:=by rw [sizeLine_eq]; lia
 refine Calls.call_function_entry kind_sorted plain_sorted entry_sorted (args_sorted1 _) ?_
 unfold Builtin.«sorted»
 refine wpAny_bind (m:=checkCount "sorted" 1 1 _) (wpAny_pure ?_)
 refine wpAny_bind (collect_list hl ?_ hsl)
 refine wpAny_bind (wpAny_newList ?_ hsl)
 have hsz : ((s.heap.push (seqObj "list" #[] 0)).update s.heap.objs.size (Obj.mapSeq (· ++ vs.toArray))).objs.size = s.heap.objs.size + 1:=by
  rw [Heap.size_update,size_push']
 have hoL : (((s.heap.push (seqObj "list" #[] 0)).update s.heap.objs.size (Obj.mapSeq (· ++ vs.toArray))).push (seqObj "list" vs.toArray 0)).get? (s.heap.objs.size + 1) = some (seqObj "list" vs.toArray 0):=by
  rw [← hsz]; exact Heap.get?_push_size _ rfl
 have hp2 : fD (((s.heap.push (seqObj "list" #[] 0)).update s.heap.objs.size (Obj.mapSeq (· ++ vs.toArray))).push (seqObj "list" vs.toArray 0)) g vs:=by
  intro v hv
  obtain ⟨b,o,n,t,u,ev,e,c,d⟩:=hp v hv
  have hb : b < s.heap.objs.size:=Heap.lt_size e
  refine ⟨b,o,n,t,u,ev,?_,c,d⟩
  rw [Heap.get?_push_ne _ _ _ (by rw [hsz]; exact Nat.ne_of_lt (Nat.lt_succ_of_lt hb)),Heap.get?_update_ne _ _ _ _ (Nat.ne_of_lt hb),Heap.get?_push_ne _ _ _ (Nat.ne_of_lt hb)]
  exact e
 show wpAny _ _ _ _ _ { s with heap:=((s.heap.push (seqObj "list" #[] 0)).update s.heap.objs.size (Obj.mapSeq (· ++ vs.toArray))).push (seqObj "list" vs.toArray 0) }
 rw [hsz]
 refine wpAny_bind (wpAny_holding (wpAny_call_entry slot_list_sort ⟨_,hoL,rfl⟩ entry_list_sort (mG hoL hp2 hz fun out a1 a2=>⟨_,rfl,?_⟩) (args_list_sort _)))
 exact wpAny_pure ⟨_,rfl,h out a1 a2⟩
end
theorem iY : ∀ {as : List Addr} {its : List Value},Vals (as.map V.ref) its→its = as.map Value.ref
 | [],_,r=>by cases r; rfl
 | a :: as,_,r=>by
  cases r with
  | cons r rr =>
   obtain rfl:=(show _ = Value.ref a from r)
   rw [iY rr]; rfl
theorem pA : ∀ {as : List Addr},Vals (as.map V.ref) (as.map Value.ref)
 | []=>.nil
 | _ :: _=>.cons rfl pA
theorem yR {as : List Addr} {vs : List Value} (h : vs.Perm (as.map Value.ref)) : ∃ as' : List Addr,vs = as'.map Value.ref∧as'.Perm as:=by
 let un : Value→Addr:=fun v=>match v with | .ref a=>a | _=>0
 refine ⟨vs.map un,?_,?_⟩
 ·rw [List.map_map]
  have : ∀ v∈vs,(Value.ref ∘ un) v = v:=by
   intro v hv
   obtain ⟨a,_,rfl⟩:=List.mem_map.mp (h.mem_iff.mp hv)
   rfl
  conv=>lhs; rw [← List.map_id vs]
  exact List.map_congr_left fun v hv=>(this v hv).symm
 ·have:=h.map un
  rw [List.map_map] at this
  have e : as.map (un ∘ Value.ref) = as:=by
   conv=>rhs; rw [← List.map_id as]
   exact List.map_congr_left fun a _=>rfl
  rw [e] at this
  exact this
def yS (K : PySem.W.Frag) : List V→Hp→VK→Prop:=fun xs H Q=>∃ (l : Addr) (as : List Addr) (g : Addr→Int × Int),xs = [.ref l]∧SqL K H l (as.map V.ref)∧(∀ a∈as,SqT K H a [.int (g a).1,.int (g a).2]∧0 ≤ (g a).2∧(g a).2 < 64)∧as.length ≤ 4096 ∧
 ∀ (D : Addr) (as' : List Addr),H D = none→as'.Perm as→as'.Pairwise (fun a b=>pk (g a) ≤ pk (g b))→Q (.ref D) (upd H D (.lst (as'.map V.ref)))
theorem mH {X : Cx} : cV X (.builtin "sorted") (yS X.K):=by
 intro pins s σ H xs us Q I r h
 obtain ⟨l,as,g,rfl,hl,hp,hz,q⟩:=h
 obtain ⟨u1,rfl,r1⟩:=r.one
 obtain rfl : u1 = Value.ref l:=r1
 obtain ⟨its,rv,pl,_⟩:=I.list hl
 have hits:=iY rv
 subst hits
 have hpv : fD s.heap g (as.map Value.ref):=by
  intro v hv
  obtain ⟨a,ha,rfl⟩:=List.mem_map.mp hv
  obtain ⟨hxy,b1,b2⟩:=hp a ha
  obtain ⟨its,r,⟨o,e,c,n,d⟩,_⟩:=I.tuple hxy
  obtain ⟨u1,u2,rfl,r1,r2⟩:=r.two
  obtain ⟨t,rfl⟩:=r1
  obtain ⟨t',rfl⟩:=r2
  exact ⟨a,o,n,t,t',rfl,e,c,d,b1,b2⟩
 refine qY pl.isList hpv (by rw [List.length_map]; exact hz) fun out hperm hord=>?_
 obtain ⟨as',eo,pa⟩:=yR hperm
 have hout : out = (as'.map Value.ref).toArray:=by rw [← eo]
 subst hout
 have ho : as'.Pairwise (fun a b=>pk (g a) ≤ pk (g b)):=by
  rw [eo,List.pairwise_map] at hord
  exact hord
 have sz1 : ((s.heap.push (seqObj "list" #[] 0)).update s.heap.objs.size (Obj.mapSeq (· ++ (as.map Value.ref).toArray))).objs.size = s.heap.objs.size + 1:=by rw [Heap.size_update,size_push']
 have k1 : ∀ b u,s.heap.get? b = some u→(((s.heap.push (seqObj "list" #[] 0)).update s.heap.objs.size (Obj.mapSeq (· ++ (as.map Value.ref).toArray))).push (seqObj "list" (as.map Value.ref).toArray 0)).get? b = some u:=fun b u e=>by
  have hb : b < s.heap.objs.size:=Heap.lt_size e
  rw [Heap.get?_push_ne _ _ _ (by rw [sz1]; exact Nat.ne_of_lt (Nat.lt_succ_of_lt hb)),Heap.get?_update_ne _ _ _ _ (Nat.ne_of_lt hb),Heap.get?_push_ne _ _ _ (Nat.ne_of_lt hb)]
  exact e
 have hoL : (((s.heap.push (seqObj "list" #[] 0)).update s.heap.objs.size (Obj.mapSeq (· ++ (as.map Value.ref).toArray))).push (seqObj "list" (as.map Value.ref).toArray 0)).get? (s.heap.objs.size + 1) = some (seqObj "list" (as.map Value.ref).toArray 0):=by
  rw [← sz1]; exact Heap.get?_push_size _ rfl
 have sz2 : (((s.heap.push (seqObj "list" #[] 0)).update s.heap.objs.size (Obj.mapSeq (· ++ (as.map Value.ref).toArray))).push (seqObj "list" (as.map Value.ref).toArray 0)).objs.size = s.heap.objs.size + 2:=by rw [size_push',sz1]
 show EP X pins σ Q (.ref (s.heap.objs.size + 1)) { s with heap:=sortedHeap (((s.heap.push (seqObj "list" #[] 0)).update s.heap.objs.size (Obj.mapSeq (· ++ (as.map Value.ref).toArray))).push (seqObj "list" (as.map Value.ref).toArray 0)) (s.heap.objs.size + 1) (as.map Value.ref) (as'.map Value.ref).toArray }
 revert k1 hoL sz2
 generalize ((s.heap.push (seqObj "list" #[] 0)).update s.heap.objs.size (Obj.mapSeq (· ++ (as.map Value.ref).toArray))).push (seqObj "list" (as.map Value.ref).toArray 0) = h1
 intro k1 hoL sz2
 obtain ⟨e1,ho1⟩ : ∃ e1,(h1.update (s.heap.objs.size + 1) (Obj.mapSeq fun _=>(#[] : Array Value))).get? (s.heap.objs.size + 1) = some (seqObj "list" #[] e1):=⟨_,get?_update_seq hoL (fun _=>#[])⟩
 have ho6 : (((h1.update (s.heap.objs.size + 1) (Obj.mapSeq fun _=>(#[] : Array Value))).push (seqObj "tuple" (as.map Value.ref).toArray 0)).push (seqObj "list" #[] 0)).get? (s.heap.objs.size + 1) = some (seqObj "list" #[] e1):=by
  rw [Heap.get?_push_ne _ _ _ (by rw [size_push',Heap.size_update,sz2]; exact Nat.ne_of_lt (Nat.lt_succ_of_lt (Nat.lt_succ_self _))),Heap.get?_push_ne _ _ _ (by rw [Heap.size_update,sz2]; exact Nat.ne_of_lt (Nat.lt_succ_self _))]
  exact ho1
 obtain ⟨e2,ho7⟩ : ∃ e2,(sortedHeap h1 (s.heap.objs.size + 1) (as.map Value.ref) (as'.map Value.ref).toArray).get? (s.heap.objs.size + 1) = some (seqObj "list" (as'.map Value.ref).toArray e2):=⟨_,get?_update_seq ho6 (fun _=>(as'.map Value.ref).toArray)⟩
 have keep : ∀ b u,s.heap.get? b = some u→(sortedHeap h1 (s.heap.objs.size + 1) (as.map Value.ref) (as'.map Value.ref).toArray).get? b = some u:=fun b u e=>by
  have hb : b < s.heap.objs.size:=Heap.lt_size e
  unfold sortedHeap
  rw [Heap.get?_update_ne _ _ _ _ (Nat.ne_of_lt (Nat.lt_succ_of_lt hb)),Heap.get?_push_ne _ _ _ (by rw [size_push',Heap.size_update,sz2]; exact Nat.ne_of_lt (Nat.lt_succ_of_lt (Nat.lt_succ_of_lt (Nat.lt_succ_of_lt hb)))),Heap.get?_push_ne _ _ _ (by rw [Heap.size_update,sz2]; exact Nat.ne_of_lt (Nat.lt_succ_of_lt (Nat.lt_succ_of_lt hb))),Heap.get?_update_ne _ _ _ _ (Nat.ne_of_lt (Nat.lt_succ_of_lt hb))]
  exact k1 b u e
 have hnone : s.heap.get? (s.heap.objs.size + 1) = none:=Heap.get?_none_of_le (by lia)
 refine ⟨.ref (s.heap.objs.size + 1),_,I.laidN (t':=s.toks) (o:=.lst (as'.map V.ref)) keep hnone ⟨?_,as'.map Value.ref,e2,pA,ho7⟩,rfl,q _ as' (I.hok.freshN hnone) pa ho⟩
 rw [List.length_map,pa.length_eq]
 exact Nat.le_trans hz (by decide)
end L2
namespace L2
open PySem PySem.Spec PyProof.Rows
section
variable {prog : Program} {w : World} {A : Around} {E : Value→Shared→Prop} {s : Shared}
end
end L2
namespace L2
open PySem PySem.Spec PyProof.Rows
section
variable {prog : Program} {w : World} {A : Around} {E : Value→Shared→Prop} {s : Shared}
end
section
variable {X : Cx}
end
end L2
namespace L2
open PySem PySem.Spec PyProof.Rows
section
variable {X : Cx}
theorem wB {s : Shared} {A : Around} {xs ys : List V} {us vs : List Value} (rx : Vals xs us) (ry : Vals ys vs) (fx : xs.all dD = true) (fy : ys.all dD = true) :
  ∀ j (h1 : j < us.toArray.size) (h2 : j < vs.toArray.size),SeqAt.EqAt A s us.toArray[j] vs.toArray[j] (eqV (xs.getD j .non) (ys.getD j .non)):=by
 intro j h1 h2
 have j1 : j < xs.length:=by rw [rx.length]; simpa using h1
 have j2 : j < ys.length:=by rw [ry.length]; simpa using h2
 have e1 : xs[j]? = some (xs.getD j .non):=by rw [List.getD_eq_getElem?_getD,List.getElem?_eq_getElem j1]; rfl
 have e2 : ys[j]? = some (ys.getD j .non):=by rw [List.getD_eq_getElem?_getD,List.getElem?_eq_getElem j2]; rfl
 obtain ⟨u,hu1,ru⟩:=rx.get e1
 obtain ⟨v,hv1,rv⟩:=ry.get e2
 have eu : us.toArray[j] = u:=by
  have : us[j]? = some us.toArray[j]:=by simp at h1 ⊢
  rw [hu1] at this; exact (Option.some.inj this).symm
 have ev : vs.toArray[j] = v:=by
  have : vs[j]? = some vs.toArray[j]:=by simp at h2 ⊢
  rw [hv1] at this; exact (Option.some.inj this).symm
 rw [eu,ev]
 exact lV ru rv (List.all_eq_true.mp fx _ (List.mem_of_getElem? e1)) (List.all_eq_true.mp fy _ (List.mem_of_getElem? e2))
theorem aAk {pins : List (Addr × Obj)} {σ : St} {H : Hp} {s : Shared} {A : Around} {a b : Addr} {xs ys : List V} (I : Inv X pins σ H s) (hu : A.units + 1 < cLine) (ha : SqT X.K H a xs) (hb : SqT X.K H b ys) (hl : xs.length = ys.length) (fx : xs.all dD = true) (fy : ys.all dD = true) :
  SeqAt.EqAt A s (.ref a) (.ref b) (dL eqV xs ys):=by
 by_cases hab : a = b
 ·subst hab
  have e1:=I.tuple_inj ha hb
  subst e1
  have e2 : dL eqV xs xs = true:=by
   clear ha hb hl fy
   induction xs with
   | nil=>rfl
   | cons x xs ih =>
    rw [List.all_cons,Bool.and_eq_true] at fx
    rw [dL,ih fx.2,Bool.and_true]
    cases x <;> first | rfl | (show (_ == _) = true; simp) | exact absurd (show false = true from fx.1) Bool.false_ne_true
  rw [e2]
  exact SeqAt.EqAt.same _
 ·obtain ⟨us,r1,p1,_⟩:=I.tuple ha
  obtain ⟨vs,r2,p2,_⟩:=I.tuple hb
  have h:=SeqAt.RcAt.tuples (A:=A) (s:=s) (l:=a) (b:=b) (e:=fun i=>eqV (xs.getD i .non) (ys.getD i .non)) (show s.heap.IsTuple a us.toArray from p1) (show s.heap.IsTuple b vs.toArray from p2) (by lia)
   (wB r1 r2 fx fy)
  refine SeqAt.EqAt.of_refs hab ?_
  have er : ((List.range (min us.toArray.size vs.toArray.size)).all (fun i=>eqV (xs.getD i .non) (ys.getD i .non)) && us.toArray.size == vs.toArray.size) = dL eqV xs ys:=by
   rw [List.size_toArray,List.size_toArray,← r1.length,← r2.length,← hl,Nat.min_self,beq_self_eq_true,Bool.and_true,eO hl]
  rw [er] at h
  exact h
theorem wC {p q : Int × Int} : dL eqV [.int p.1,.int p.2] [.int q.1,.int q.2] = decide (p = q):=by
 obtain ⟨a,b⟩:=p
 obtain ⟨c,d⟩:=q
 show ((a == c) && ((b == d) && true)) = decide ((a,b) = (c,d))
 by_cases h1 : a = c <;> by_cases h2 : b = d <;> simp [h1,h2]
def rInP (K : PySem.W.Frag) (neg : Bool) : R2:=fun x y H Q=>∃ (p l : Addr) (u : Int × Int) (as : List Addr) (ps : List (Int × Int)),x = .ref p∧y = .ref l∧SqT K H p [.int u.1,.int u.2]∧SqL K H l (as.map V.ref)∧as.length = ps.length∧(∀ i,i < ps.length→SqT K H (as.getD i 0) [.int (ps.getD i (0,0)).1,.int (ps.getD i (0,0)).2]) ∧
 Q (.bl (if neg then !decide (u∈ps) else decide (u∈ps))) H
open Classical in
theorem nK {pins : List (Addr × Obj)} {σ : St} {H : Hp} {s : Shared} (I : Inv X pins σ H s) {u : Int × Int} : ∀ {as : List Addr} {ps : List (Int × Int)},as.length = ps.length→(∀ i,i < ps.length→SqT X.K H (as.getD i 0) [.int (ps.getD i (0,0)).1,.int (ps.getD i (0,0)).2]) →
  ((as.map Value.ref).any fun v=>decide (∃ a,v = Value.ref a∧SqT X.K H a [.int u.1,.int u.2])) = decide (u∈ps)
 | [],[],_,_=>by simp
 | a :: as,p :: ps,hl,h=>by
  have ih:=nK I (u:=u) (as:=as) (ps:=ps) (by simpa using hl) (fun i hi=>h (i + 1) (by simpa using hi))
  have h0 : SqT X.K H a [.int p.1,.int p.2]:=h 0 (by simp)
  rw [List.map_cons,List.any_cons,ih]
  have e : decide (∃ b,Value.ref a = Value.ref b∧SqT X.K H b [.int u.1,.int u.2]) = decide (u = p):=by
   rw [Bool.eq_iff_iff,decide_eq_true_iff,decide_eq_true_iff]
   constructor
   ·rintro ⟨b,e,hb⟩
    cases e
    have:=I.tuple_inj h0 hb
    have e1 : p.1 = u.1:=V.int.inj (List.cons.inj this).1
    have e2 : p.2 = u.2:=V.int.inj (List.cons.inj (List.cons.inj this).2).1
    exact Prod.ext e1.symm e2.symm
   ·rintro rfl
    exact ⟨a,rfl,h0⟩
  rw [e]
  by_cases z : u = p
  ·simp [z]
  ·simp [z]
open Classical in
theorem qZ {pins : List (Addr × Obj)} {σ : St} {H : Hp} {s : Shared} {A : Around} (I : Inv X pins σ H s) (hu : A.units + 1 < cLine) {p : Addr} {u : Int × Int} (hp : SqT X.K H p [.int u.1,.int u.2]) {as : List Addr} {ps : List (Int × Int)} (hl : as.length = ps.length)
  (h : ∀ i,i < ps.length→SqT X.K H (as.getD i 0) [.int (ps.getD i (0,0)).1,.int (ps.getD i (0,0)).2]) : ∀ v∈as.map Value.ref,SeqAt.EqAt A s v (.ref p) (decide (∃ a,v = Value.ref a∧SqT X.K H a [.int u.1,.int u.2])):=by
 intro v hv
 obtain ⟨a,ha,rfl⟩:=List.mem_map.mp hv
 obtain ⟨i,hi,e⟩:=List.mem_iff_getElem.mp ha
 have hq:=h i (by lia)
 have ea : as.getD i 0 = a:=by rw [List.getD_eq_getElem?_getD,List.getElem?_eq_getElem hi]; exact e
 rw [ea] at hq
 have z:=aAk (A:=A) I hu hq hp rfl rfl rfl
 rw [wC] at z
 have e : decide (∃ b,Value.ref a = Value.ref b∧SqT X.K H b [.int u.1,.int u.2]) = decide (ps.getD i (0,0) = u):=by
  rw [Bool.eq_iff_iff,decide_eq_true_iff,decide_eq_true_iff]
  constructor
  ·rintro ⟨b,e,hb⟩
   cases e
   have:=I.tuple_inj hq hb
   exact Prod.ext (V.int.inj (List.cons.inj this).1) (V.int.inj (List.cons.inj (List.cons.inj this).2).1)
  ·intro e
   rw [← e]
   exact ⟨a,rfl,hq⟩
 rw [e]
 exact z
open Classical in
theorem rA (hu : X.A.units + 2 < cLine) : OpR X (compareOp .In) (rInP X.K false):=by
 intro pins s σ H x y v u Q I rx ry h
 obtain ⟨p,l,w,as,ps,rfl,rfl,hp,hl,hlen,hps,q⟩:=h
 obtain rfl : v = Value.ref p:=rx
 obtain rfl : u = Value.ref l:=ry
 obtain ⟨its,r,pl,_⟩:=I.list hl
 have e:=iY r
 subst e
 refine SeqAt.in_listAt (fun v=>decide (∃ a,v = Value.ref a∧SqT X.K H a [.int w.1,.int w.2])) pl.isList (fun y hy=>qZ I (by show X.A.units + 1 + 1 < cLine; lia) hp hlen hps y (by simpa using hy)) ⟨.bl _,H,I,rfl,?_⟩
 rw [show (as.map Value.ref).toArray.any (fun v=>decide (∃ a,v = Value.ref a∧SqT X.K H a [.int w.1,.int w.2])) = (as.map Value.ref).any (fun v=>decide (∃ a,v = Value.ref a∧SqT X.K H a [.int w.1,.int w.2])) by simp,nK I hlen hps]
 exact q
open Classical in
theorem fK (hu : X.A.units + 2 < cLine) : OpR X (compareOp .NotIn) (rInP X.K true):=by
 intro pins s σ H x y v u Q I rx ry h
 obtain ⟨p,l,w,as,ps,rfl,rfl,hp,hl,hlen,hps,q⟩:=h
 obtain rfl : v = Value.ref p:=rx
 obtain rfl : u = Value.ref l:=ry
 obtain ⟨its,r,pl,_⟩:=I.list hl
 have e:=iY r
 subst e
 refine SeqAt.notIn_listAt (fun v=>decide (∃ a,v = Value.ref a∧SqT X.K H a [.int w.1,.int w.2])) pl.isList (fun y hy=>qZ I (by show X.A.units + 1 + 1 < cLine; lia) hp hlen hps y (by simpa using hy)) ⟨.bl _,H,I,rfl,?_⟩
 rw [show (as.map Value.ref).toArray.any (fun v=>decide (∃ a,v = Value.ref a∧SqT X.K H a [.int w.1,.int w.2])) = (as.map Value.ref).any (fun v=>decide (∃ a,v = Value.ref a∧SqT X.K H a [.int w.1,.int w.2])) by simp,nK I hlen hps]
 exact q
def aCG (K : PySem.W.Frag) (t : TGs) : TG:=fun v σ H Q=>∃ a x y,v = .ref a∧SqL K H a [x,y]∧t [x,y] σ H Q
theorem aBl {es : List Expr} {k : Nat} {t : TGs} {pos : Pos} (hc : X.calm = true) (h : PGs X es t) (hn : (assignEach es X.env).length = 2:=by rfl) (hst : (assignEach es X.env).findIdx? (·.1) = none:=by rfl) : PG X (.Tuple es k pos) (aCG X.K t):=by
 intro pins s σ H v u Q I r hw
 obtain ⟨a,x,y,e1,hq,hw⟩:=hw
 subst e1
 cases r
 obtain ⟨its,rv,ht,hz⟩:=I.list hq
 obtain ⟨u1,u2,rfl,r1,r2⟩:=rv.two
 have hlt : a ≠ s.heap.objs.size:=by
  obtain ⟨o,ho,_⟩:=ht.isList
  exact Nat.ne_of_lt (Heap.lt_size ho)
 rw [assign_Tuple]
 refine wpAny_bind (wpAny_standAt ?_)
 unfold unpack
 rw [hn,hst]
 refine wpAny_bind (wpAny_holding ?_)
 unfold unpackItems
 refine wpAny_bind ?_
 unfold notIterableAtAll
 refine wpAny_bind (wpAny_specialOf ht.isList.typeIs slot_list_iter.lookup (wpAny_pure ?_))
 simp only [Bool.false_eq_true,if_false]
 refine wpAny_bind (wpAny_holding (wpAny_pyIter_list ht.isList ?_))
 have hL0 : (s.heap.push { cls:=.type "list_iterator",data:=.fields #[.ref a,.int 0 0] }).IsList a [u1,u2].toArray:=ht.isList.push _
 refine wpAny_bind (wpAny_holding ?_)
 change wpAny _ _ (pyNext (.ref s.heap.objs.size) >>= _) _ _ _
 refine wpAny_bind (wpAny_pyNext_list_item (it:=s.heap.objs.size) (l:=a) (i:=0) (s:={ s with heap:=s.heap.push { cls:=.type "list_iterator",data:=.fields #[.ref a,.int 0 0] } }) ⟨_,Heap.get?_push_size _ rfl,rfl,rfl⟩ hL0 (x:=u1) rfl fun h1 it1 sb1=>?_)
 refine wpAny_bind (wpAny_holding ?_)
 change wpAny _ _ (pyNext (.ref s.heap.objs.size) >>= _) _ _ _
 have hL1 : h1.IsList a [u1,u2].toArray:=hL0.extBut sb1.extBut hlt
 refine wpAny_bind (wpAny_pyNext_list_item (s:={ s with heap:=h1 }) it1 hL1 (x:=u2) rfl fun h2 it2 sb2=>?_)
 have hL2 : h2.IsList a [u1,u2].toArray:=hL1.extBut sb2.extBut hlt
 refine wpAny_bind (wpAny_holding (wpAny_pure (wpAny_pure (wpAny_pure ?_))))
 rw [if_neg (by simp)]
 refine wpAny_bind (wpAny_holding (wpAny_pyNext_list_end (s:={ s with heap:=h2 }) (I.ok.hd hc) it2 hL2 rfl fun h3 eb3=>?_))
 simp only [Option.isSome_none,Bool.false_eq_true,if_false]
 refine wpAny_pure ?_
 have I1 : Inv X pins σ H { s with heap:=h3 }:=I.kept (t':=s.toks) fun b o e=>by
  have nb : b ≠ s.heap.objs.size:=Nat.ne_of_lt (Heap.lt_size e)
  exact eb3 b o nb (sb2.extBut b o nb (sb1.extBut b o nb (Heap.get?_push_of_some _ e)))
 exact h pins _ σ H [x,y] _ Q I1 (.cons r1 (.cons r2 .nil)) hw
end
end L2
namespace L2
open PySem PySem.Spec PyProof.Rows PySem.W
end L2
namespace NetM
abbrev Ts:=List (Int × Int)
def T (ts : Ts) (a b : Nat) : Prop:=(((a : Nat) : Int),((b : Nat) : Int))∈ts
instance (ts : Ts) (a b : Nat) : Decidable (T ts a b):=inferInstanceAs (Decidable (_∈_))
def Walk (ts : Ts) : Nat→Nat→Nat→Prop
 | 0,a,b=>a = b
 | k + 1,a,b=>∃ c,Walk ts k a c∧T ts c b
theorem Walk.trans {ts : Ts} {k : Nat} {a b : Nat} (h : Walk ts k a b) : ∀ {l : Nat} {c : Nat},Walk ts l b c→Walk ts (k + l) a c
 | 0,_,e=>by cases e; exact h
 | l + 1,_,⟨d,w,t⟩=>⟨d,h.trans w,t⟩
theorem Walk.one {ts : Ts} {a b : Nat} (h : T ts a b) : Walk ts 1 a b:=⟨a,rfl,h⟩
theorem Walk.cons {ts : Ts} {k a b c : Nat} (h : T ts a b) (w : Walk ts k b c) : Walk ts (k + 1) a c:=by
 have:=(Walk.one h).trans w
 rwa [Nat.add_comm] at this
theorem Walk.uncons {ts : Ts} : ∀ {k : Nat} {a c : Nat},Walk ts (k + 1) a c→∃ b,T ts a b∧Walk ts k b c
 | 0,a,c,⟨d,e,t⟩=>by cases e; exact ⟨c,t,rfl⟩
 | k + 1,a,c,⟨d,w,t⟩=>by
  obtain ⟨b,t',w'⟩:=Walk.uncons w
  exact ⟨b,t',d,w',t⟩
def kP (ts : Ts) (a b d : Nat) : Prop:=Walk ts d a b∧∀ k,Walk ts k a b→d ≤ k
theorem kP.uniq {ts : Ts} {a b d e : Nat} (h : kP ts a b d) (g : kP ts a b e) : d = e:=Nat.le_antisymm (h.2 _ g.1) (g.2 _ h.1)
open Classical in
noncomputable def far (ts : Ts) (a b : Nat) : Nat:=if h : ∃ d,kP ts a b d then h.choose else 0
theorem aCa {ts : Ts} {a b d : Nat} (h : kP ts a b d) : far ts a b = d:=by
 unfold far
 have hx : ∃ d,kP ts a b d:=⟨d,h⟩
 rw [dif_pos hx]
 exact hx.choose_spec.uniq h
structure Fine (n : Nat) (ts : Ts) : Prop where
 n1 : 2 ≤ n
 n2 : n ≤ 32
 nd : ts.Nodup
 rg : ∀ t∈ts,(0 ≤ t.1∧t.1 < n)∧(0 ≤ t.2∧t.2 < n)
 ne : ∀ t∈ts,t.1 ≠ t.2
 bal : ∀ h : Int,(ts.filter fun t=>decide (t.1 = h)).length = (ts.filter fun t=>decide (t.2 = h)).length
 most : ∀ h : Int,(ts.filter fun t=>decide (t.1 = h)).length ≤ 8
 con : ∀ a b,a < n→b < n→∃ k,Walk ts k a b
theorem yT {α : Type} (f : α→Int) : ∀ (l : List α) (n : Nat),(∀ x∈l,0 ≤ f x∧f x < n)→(∀ h : Int,(l.filter fun t=>decide (f t = h)).length ≤ 8)→l.length ≤ 8 * n:=by
 intro l n
 induction n generalizing l with
 | zero =>
  intro h _
  cases l with
  | nil=>simp
  | cons x xs=>have:=h x List.mem_cons_self; lia
 | succ n ih =>
  intro h h8
  have e : l.length = (l.filter fun t=>decide (f t = (n : Int))).length + (l.filter fun t=>!decide (f t = (n : Int))).length:=by
   induction l with
   | nil=>rfl
   | cons x xs ih2 =>
    have:=ih2 (fun y hy=>h y (List.mem_cons_of_mem _ hy)) (fun hh=>Nat.le_trans (by rw [List.filter_cons]; split <;> simp) (h8 hh))
    by_cases q : f x = (n : Int) <;> simp [List.filter_cons,q] <;> lia
  have i2:=ih (l.filter fun t=>!decide (f t = (n : Int))) (fun x hx=>by
   have a:=h x (List.mem_filter.mp hx |>.1)
   have b:=(List.mem_filter.mp hx).2
   simp at b
   lia) (fun hh=>by
   refine Nat.le_trans ?_ (h8 hh)
   exact (List.filter_sublist.filter _).length_le)
  have:=h8 (n : Int)
  lia
theorem Fine.len {n : Nat} {ts : Ts} (F : Fine n ts) : ts.length ≤ 256:=by
 have:=yT (·.1) ts n (fun t ht=>(F.rg t ht).1) F.most
 have:=F.n2
 lia
theorem Fine.tlt {n : Nat} {ts : Ts} (F : Fine n ts) {a b : Nat} (h : T ts a b) : a < n∧b < n∧a ≠ b:=by
 have q:=F.rg _ h
 have q2:=F.ne _ h
 refine ⟨by have:=q.1; simp at this; lia,by have:=q.2; simp at this; lia,fun e=>q2 (by rw [e])⟩
def outN (n : Nat) (ts : Ts) (h : Nat) : List Nat:=((List.range n).map fun s=>(h + s) % n).filter fun o=>decide (T ts h o)
theorem dP {n : Nat} {ts : Ts} (F : Fine n ts) {h o : Nat} (hh : h < n) : o∈outN n ts h↔T ts h o:=by
 unfold outN
 rw [List.mem_filter,decide_eq_true_eq]
 refine ⟨fun z=>z.2,fun z=>⟨?_,z⟩⟩
 obtain ⟨_,h2,_⟩:=F.tlt z
 refine List.mem_map.mpr ⟨if h ≤ o then o - h else o + n - h,List.mem_range.mpr (by split <;> lia),?_⟩
 split
 ·rw [show h + (o - h) = o by lia,Nat.mod_eq_of_lt h2]
 ·rw [show h + (o + n - h) = o + n by lia,Nat.add_mod_right,Nat.mod_eq_of_lt h2]
theorem aBm {n : Nat} {ts : Ts} (F : Fine n ts) {h o : Nat} (hh : h < n) (ho : o∈outN n ts h) : o < n:=(F.tlt ((dP F hh).mp ho)).2.1
def key (n h o : Nat) : Int:=((o : Int) - (h : Int)) % (n : Int)
theorem yU {n h s : Nat} (hh : h < n) (hs : s < n) : key n h ((h + s) % n) = (s : Int):=by
 unfold key
 by_cases c : h + s < n
 ·rw [Nat.mod_eq_of_lt c,show (((h + s : Nat) : Int) - (h : Int)) = (s : Int) by lia]
  exact Int.emod_eq_of_lt (by lia) (by lia)
 ·have e : (h + s) % n = h + s - n:=by
   rw [Nat.mod_eq_sub_mod (by lia),Nat.mod_eq_of_lt (by lia)]
  rw [e,show ((((h + s - n : Nat)) : Int) - (h : Int)) = (s : Int) - (n : Int) by lia,Int.sub_emod_right]
  exact Int.emod_eq_of_lt (by lia) (by lia)
theorem lA {n : Nat} {ts : Ts} {h : Nat} (hh : h < n) : (outN n ts h).Pairwise fun a b=>key n h a < key n h b:=by
 unfold outN
 refine List.Pairwise.filter _ ?_
 refine List.pairwise_map.mpr ?_
 refine List.Pairwise.imp_of_mem ?_ (List.pairwise_lt_range (n:=n))
 intro a b ha hb hab
 rw [yU hh (List.mem_range.mp ha),yU hh (List.mem_range.mp hb)]
 lia
theorem iF {α : Type} {k : α→Int} : ∀ {a b : List α},a.Pairwise (fun x y=>k x < k y)→b.Pairwise (fun x y=>k x < k y)→(∀ x,x∈a↔x∈b)→a = b
 | [],[],_,_,_=>rfl
 | [],y :: ys,_,_,h=>absurd ((h y).mpr List.mem_cons_self) (by simp)
 | x :: xs,[],_,_,h=>absurd ((h x).mp List.mem_cons_self) (by simp)
 | x :: xs,y :: ys,ha,hb,h=>by
  obtain ⟨a1,a2⟩:=List.pairwise_cons.mp ha
  obtain ⟨b1,b2⟩:=List.pairwise_cons.mp hb
  have e : x = y:=by
   rcases List.mem_cons.mp ((h x).mp List.mem_cons_self) with z | z
   ·exact z
   ·rcases List.mem_cons.mp ((h y).mpr List.mem_cons_self) with z' | z'
    ·exact z'.symm
    ·have q1:=b1 x z
     have q2:=a1 y z'
     lia
  subst e
  refine congrArg (x :: ·) (iF a2 b2 fun z=>⟨fun hz=>?_,fun hz=>?_⟩)
  ·rcases List.mem_cons.mp ((h z).mp (List.mem_cons_of_mem _ hz)) with q | q
   ·subst q; exact absurd (a1 _ hz) (by lia)
   ·exact q
  ·rcases List.mem_cons.mp ((h z).mpr (List.mem_cons_of_mem _ hz)) with q | q
   ·subst q; exact absurd (b1 _ hz) (by lia)
   ·exact q
structure Bfs (n : Nat) (ts : Ts) (s i : Nat) (R : List Nat) (f : Nat→Nat) : Prop where
 nd : R.Nodup
 lt : ∀ x∈R,x < n
 st : s∈R
 z : f s = 0
 wk : ∀ x∈R,Walk ts (f x) s x
 up : R.Pairwise fun a b=>f a ≤ f b
 bd : ∀ u,R[i]? = some u→∀ x∈R,f x ≤ f u + 1
 cl : ∀ j u,j < i→R[j]? = some u→∀ v,T ts u v→v∈R∧f v ≤ f u + 1
theorem Bfs.start {n : Nat} {ts : Ts} {s : Nat} (hs : s < n) : Bfs n ts s 0 [s] (fun _=>0) :=
 ⟨by simp,fun x hx=>by simp at hx; lia,by simp,rfl,fun x hx=>by simp at hx; subst hx; rfl,by simp,fun u _ x _=>by lia,fun j u h=>absurd h (by lia)⟩
def put (f : Nat→Nat) (v k : Nat) : Nat→Nat:=fun y=>if y = v then k else f y
theorem gN {f : Nat→Nat} {v k : Nat} : put f v k v = k:=by simp [put]
theorem dR {f : Nat→Nat} {v k x : Nat} (h : x ≠ v) : put f v k x = f x:=by simp [put,h]
theorem Bfs.add {n : Nat} {ts : Ts} {s i u v : Nat} {R : List Nat} {f : Nat→Nat} (B : Bfs n ts s i R f) (hu : R[i]? = some u) (hv : v < n) (t : T ts u v) (hn : v ∉ R) : Bfs n ts s i (R ++ [v]) (put f v (f u + 1)):=by
 have hur : u∈R:=List.mem_of_getElem? hu
 have nv : ∀ x∈R,x ≠ v:=fun x hx e=>hn (e ▸ hx)
 have hi : i < R.length:=(List.getElem?_eq_some_iff.mp hu).1
 refine ⟨?_,fun x hx=>?_,List.mem_append_left _ B.st,by rw [dR (nv s B.st)]; exact B.z,fun x hx=>?_,?_,fun w hw x hx=>?_,fun j w hj hw x hx=>?_⟩
 ·rw [List.nodup_append]
  exact ⟨B.nd,by simp,fun a ha b hb e=>by simp at hb; subst hb; exact hn (e ▸ ha)⟩
 ·rcases List.mem_append.mp hx with z | z
  ·exact B.lt x z
  ·simp at z; lia
 ·rcases List.mem_append.mp hx with z | z
  ·rw [dR (nv x z)]; exact B.wk x z
  ·simp at z; subst z
   rw [gN]
   exact ⟨u,B.wk u hur,t⟩
 ·rw [List.pairwise_append]
  refine ⟨B.up.imp_of_mem fun {a b} ha hb h=>by rw [dR (nv a ha),dR (nv b hb)]; exact h,by simp,fun a ha b hb=>?_⟩
  simp at hb; subst hb
  rw [dR (nv a ha),gN]
  exact B.bd u hu a ha
 ·have hw' : w = u:=by
   rw [List.getElem?_append_left hi,hu] at hw
   exact (Option.some.inj hw).symm
  subst hw'
  rw [dR (nv w hur)]
  rcases List.mem_append.mp hx with z | z
  ·rw [dR (nv x z)]; exact B.bd w hu x z
  ·simp at z; subst z; rw [gN]; exact Nat.le_refl _
 ·rw [List.getElem?_append_left (by lia)] at hw
  obtain ⟨a,b⟩:=B.cl j w hj hw x hx
  refine ⟨List.mem_append_left _ a,?_⟩
  rw [dR (nv x a),dR (nv w (List.mem_of_getElem? hw))]
  exact b
theorem Bfs.next {n : Nat} {ts : Ts} {s i u : Nat} {R : List Nat} {f : Nat→Nat} (B : Bfs n ts s i R f) (hu : R[i]? = some u) (h : ∀ v,T ts u v→v∈R∧f v ≤ f u + 1) : Bfs n ts s (i + 1) R f:=by
 refine ⟨B.nd,B.lt,B.st,B.z,B.wk,B.up,fun w hw x hx=>?_,fun j w hj hw v hv=>?_⟩
 ·have h1:=B.bd u hu x hx
  have h2 : f u ≤ f w:=by
   have hi : i < R.length:=(List.getElem?_eq_some_iff.mp hu).1
   have hi' : i + 1 < R.length:=(List.getElem?_eq_some_iff.mp hw).1
   have:=List.pairwise_iff_getElem.mp B.up i (i + 1) hi hi' (by lia)
   rw [List.getElem?_eq_getElem hi] at hu
   rw [List.getElem?_eq_getElem hi'] at hw
   rw [Option.some.inj hu,Option.some.inj hw] at this
   exact this
  lia
 ·by_cases e : j = i
  ·subst e
   rw [hu] at hw
   cases hw
   exact h v hv
  ·exact B.cl j w (by lia) hw v hv
theorem dG : ∀ {n : Nat} {R : List Nat},R.Nodup→(∀ x∈R,x < n)→R.length ≤ n:=by
 intro n R hn hl
 have key : ∀ (a b : List Nat),a.Nodup→(∀ x∈a,x∈b)→a.length ≤ b.length:=by
  intro a
  induction a with
  | nil=>intro b _ _; exact Nat.zero_le _
  | cons x xs ih =>
   intro b hn hs
   obtain ⟨h1,h2⟩:=List.nodup_cons.mp hn
   have hx : x∈b:=hs x List.mem_cons_self
   have:=ih (b.erase x) h2 fun y hy=>(List.mem_erase_of_ne (fun (e : y = x)=>h1 (e ▸ hy))).mpr (hs y (List.mem_cons_of_mem _ hy))
   rw [List.length_erase_of_mem hx] at this
   have : 0 < b.length:=List.length_pos_of_mem hx
   rw [List.length_cons]
   lia
 have:=key R (List.range n) hn fun x hx=>List.mem_range.mpr (hl x hx)
 rwa [List.length_range] at this
theorem Bfs.done {n : Nat} {ts : Ts} {s i : Nat} {R : List Nat} {f : Nat→Nat} (B : Bfs n ts s i R f) (F : Fine n ts) (hi : R.length ≤ i) {x : Nat} (hx : x < n) : x∈R∧f x = far ts s x:=by
 have cl : ∀ u∈R,∀ v,T ts u v→v∈R∧f v ≤ f u + 1:=fun u hu v hv=>by
  obtain ⟨j,hj,e⟩:=List.mem_iff_getElem.mp hu
  exact B.cl j u (by lia) (by rw [List.getElem?_eq_getElem hj,e]) v hv
 have walk : ∀ k x,Walk ts k s x→x∈R∧f x ≤ k:=by
  intro k
  induction k with
  | zero=>intro x e; cases e; exact ⟨B.st,by rw [B.z]; exact Nat.le_refl _⟩
  | succ k ih =>
   rintro x ⟨c,w,t⟩
   obtain ⟨c1,c2⟩:=ih c w
   obtain ⟨d1,d2⟩:=cl c c1 x t
   exact ⟨d1,by lia⟩
 obtain ⟨k,w⟩:=F.con s x (B.lt s B.st) hx
 obtain ⟨m,_⟩:=walk k x w
 exact ⟨m,(aCa ⟨B.wk x m,fun k w=>(walk k x w).2⟩).symm⟩
end NetM
namespace NetM
theorem Walk.mono {ts ts' : Ts} (h : ∀ t∈ts,t∈ts') : ∀ {k a b : Nat},Walk ts k a b→Walk ts' k a b
 | 0,_,_,e=>e
 | _ + 1,_,_,⟨c,w,t⟩=>⟨c,w.mono h,h _ t⟩
structure Pre (n : Nat) (ts : Ts) : Prop where
 nd : ts.Nodup
 rg : ∀ t∈ts,(0 ≤ t.1∧t.1 < n)∧(0 ≤ t.2∧t.2 < n)
 ne : ∀ t∈ts,t.1 ≠ t.2
 bal : ∀ h : Int,(ts.filter fun t=>decide (t.1 = h)).length = (ts.filter fun t=>decide (t.2 = h)).length
 most : ∀ h : Int,(ts.filter fun t=>decide (t.1 = h)).length ≤ 8
theorem Fine.pre {n : Nat} {ts : Ts} (F : Fine n ts) : Pre n ts:=⟨F.nd,F.rg,F.ne,F.bal,F.most⟩
theorem Pre.fine {n : Nat} {ts : Ts} (P : Pre n ts) (n1 : 2 ≤ n) (n2 : n ≤ 32) (c : ∀ a b,a < n→b < n→∃ k,Walk ts k a b) : Fine n ts:=⟨n1,n2,P.nd,P.rg,P.ne,P.bal,P.most,c⟩
theorem Fine.perm {n : Nat} {ts ts' : Ts} (F : Fine n ts) (p : ts'.Perm ts) : Fine n ts' :=
  ⟨F.n1, F.n2, p.nodup_iff.mpr F.nd, fun t ht => F.rg t (p.mem_iff.mp ht), fun t ht => F.ne t (p.mem_iff.mp ht), fun h => by rw [(p.filter _).length_eq, (p.filter _).length_eq]; exact F.bal h,
   fun h => by rw [(p.filter _).length_eq]; exact F.most h, fun a b ha hb => let ⟨k, w⟩ := F.con a b ha hb; ⟨k, w.mono fun t ht => p.mem_iff.mpr ht⟩⟩
theorem Fine.app {n : Nat} {ts us : Ts} (F : Fine n ts) (P : Pre n (ts ++ us)) : Fine n (ts ++ us) :=
 P.fine F.n1 F.n2 fun a b ha hb=>let ⟨k,w⟩:=F.con a b ha hb; ⟨k,w.mono fun t ht=>List.mem_append_left _ ht⟩
def pk (c k : Nat) : Nat:=if k = 0 then c - 1 else k - 1
abbrev ci (x : Nat) : Int:=(x : Int)
def cyc (xs : List Nat) : Ts:=(List.range xs.length).map fun k=>(ci (xs.getD (pk xs.length k) 0),ci (xs.getD k 0))
theorem bU {xs : List Nat} {k : Nat} (h : k < xs.length) : xs.getD k 0 = xs[k]:=by rw [List.getD_eq_getElem?_getD,List.getElem?_eq_getElem h]; rfl
theorem uJ (xs : List Nat) : (cyc xs).map (·.2) = xs.map ci:=by
 unfold cyc
 rw [List.map_map]
 apply List.ext_getElem
 ·simp
 ·intro i h1 h2
  simp only [List.getElem_map,List.getElem_range,Function.comp]
  rw [bU (by simpa using h2)]
theorem uK (xs : List Nat) : ((cyc xs).map (·.1)).Perm (xs.map ci):=by
 cases hx : xs with
 | nil=>exact List.Perm.refl _
 | cons y ys =>
  rw [← hx]
  have hl : xs.length = ys.length + 1:=by rw [hx]; rfl
  have e : (cyc xs).map (·.1) = ci (xs.getD (xs.length - 1) 0) :: (xs.take (xs.length - 1)).map ci:=by
   unfold cyc
   rw [List.map_map]
   apply List.ext_getElem
   ·simp; lia
   ·intro i h1 h2
    simp only [List.getElem_map,List.getElem_range,Function.comp]
    cases i with
    | zero=>rfl
    | succ i =>
     have hi : i + 1 < xs.length:=by simpa using h1
     simp only [List.getElem_cons_succ,List.getElem_map,List.getElem_take]
     unfold pk
     rw [if_neg (by lia),show i + 1 - 1 = i by lia,bU (by lia)]
  rw [e]
  have : xs.map ci = (xs.take (xs.length - 1)).map ci ++ [ci (xs.getD (xs.length - 1) 0)]:=by
   conv=>lhs; rw [← List.take_append_drop (xs.length - 1) xs]
   rw [List.map_append]
   congr 1
   rw [List.drop_eq_getElem_cons (by lia),List.drop_eq_nil_of_le (by lia),bU (by lia)]
   rfl
  rw [this]
  exact (List.perm_append_singleton _ _).symm
theorem gP (ts : Ts) (h : Int) : (ts.filter fun t=>decide (t.1 = h)).length = (ts.map (·.1)).count h:=by
 induction ts with
 | nil=>rfl
 | cons t ts ih=>by_cases e : t.1 = h <;> simp [List.filter_cons,List.count_cons,e,ih]
theorem lI (ts : Ts) (h : Int) : (ts.filter fun t=>decide (t.2 = h)).length = (ts.map (·.2)).count h:=by
 induction ts with
 | nil=>rfl
 | cons t ts ih=>by_cases e : t.2 = h <;> simp [List.filter_cons,List.count_cons,e,ih]
theorem rB {xs : List Nat} (h : xs.Nodup) : (xs.map ci).Nodup:=by
 refine List.pairwise_map.mpr (h.imp fun {a b} hab e=>hab ?_)
 exact Int.ofNat.inj e
theorem jX {α β : Type} {f : α→β} : ∀ {l : List α},(l.map f).Nodup→l.Nodup
 | [],_=>List.nodup_nil
 | a :: l,h=>by
  rw [List.map_cons] at h
  obtain ⟨h1,h2⟩:=List.nodup_cons.mp h
  exact List.nodup_cons.mpr ⟨fun z=>h1 (List.mem_map.mpr ⟨a,z,rfl⟩),jX h2⟩
theorem uL {xs : List Nat} {t : Int × Int} (h : t∈cyc xs) : ∃ k,k < xs.length∧t = (ci (xs.getD (pk xs.length k) 0),ci (xs.getD k 0)):=by
 obtain ⟨k,hk,rfl⟩:=List.mem_map.mp h
 exact ⟨k,List.mem_range.mp hk,rfl⟩
theorem wD {c k : Nat} (h : k < c) : pk c k < c:=by unfold pk; split <;> lia
theorem pB {xs : List Nat} {k : Nat} (h : k < xs.length) : xs.getD k 0∈xs:=by rw [bU h]; exact List.getElem_mem h
theorem pC {xs : List Nat} (nd : xs.Nodup) {i j : Nat} (hi : i < xs.length) (hj : j < xs.length) (e : xs[i] = xs[j]) : i = j:=by
 have pw:=List.pairwise_iff_getElem.mp nd
 rcases Nat.lt_trichotomy i j with z | z | z
 ·exact absurd e (pw i j hi hj z)
 ·exact z
 ·exact absurd e.symm (pw j i hj hi z)
theorem nN {n : Nat} {xs : List Nat} (nd : xs.Nodup) (lt : ∀ x∈xs,x < n) (c2 : 2 ≤ xs.length) : Pre n (cyc xs)∧∀ h : Int,((cyc xs).filter fun t=>decide (t.1 = h)).length ≤ 1:=by
 have nd2 : ((cyc xs).map (·.2)).Nodup:=by rw [uJ]; exact rB nd
 have one : ∀ h : Int,((cyc xs).filter fun t=>decide (t.1 = h)).length ≤ 1:=fun h=>by
  rw [gP,(uK xs).count_eq]
  exact List.nodup_iff_count.mp (rB nd) h
 refine ⟨⟨jX nd2,fun t ht=>?_,fun t ht=>?_,fun h=>?_,fun h=>Nat.le_trans (one h) (by decide)⟩,one⟩
 ·obtain ⟨k,hk,rfl⟩:=uL ht
  have h1:=lt _ (pB (wD hk))
  have h2:=lt _ (pB hk)
  simp only [ci]
  lia
 ·obtain ⟨k,hk,rfl⟩:=uL ht
  intro e
  have e' : xs.getD (pk xs.length k) 0 = xs.getD k 0:=Int.ofNat.inj e
  rw [bU (wD hk),bU hk] at e'
  have:=pC nd (wD hk) hk e'
  unfold pk at this
  split at this <;> lia
 ·rw [gP,lI,(uK xs).count_eq,uJ]
theorem kQ {n : Nat} {ts us : Ts} (P : Pre n ts) (Q : Pre n us) (hd : ∀ t∈us,t ∉ ts) (hm : ∀ h : Int,(ts.filter fun t=>decide (t.1 = h)).length + (us.filter fun t=>decide (t.1 = h)).length ≤ 8) : Pre n (ts ++ us):=by
 refine ⟨List.nodup_append.mpr ⟨P.nd,Q.nd,fun a ha b hb e=>hd b hb (e ▸ ha)⟩,fun t ht=>?_,fun t ht=>?_,fun h=>?_,fun h=>?_⟩
 ·rcases List.mem_append.mp ht with z | z
  ·exact P.rg t z
  ·exact Q.rg t z
 ·rcases List.mem_append.mp ht with z | z
  ·exact P.ne t z
  ·exact Q.ne t z
 ·rw [List.filter_append,List.filter_append,List.length_append,List.length_append,P.bal,Q.bal]
 ·rw [List.filter_append,List.length_append]; exact hm h
theorem yV {n : Nat} {ts : Ts} {xs : List Nat} (P : Pre n ts) (nd : xs.Nodup) (lt : ∀ x∈xs,x < n) (c2 : 2 ≤ xs.length) (hf : ∀ t∈cyc xs,(ts.filter fun u=>decide (u.1 = t.1)).length ≤ 7) (hn : ∀ t∈cyc xs,t ∉ ts) : Pre n (ts ++ cyc xs):=by
 obtain ⟨Q,one⟩:=nN nd lt c2
 refine kQ P Q hn fun h=>?_
 by_cases z : (cyc xs).filter (fun t=>decide (t.1 = h)) = []
 ·rw [z]; simpa using P.most h
 ·obtain ⟨t,ht⟩:=List.exists_mem_of_ne_nil _ z
  obtain ⟨h1,h2⟩:=List.mem_filter.mp ht
  have e : t.1 = h:=by simpa using h2
  have a:=hf t h1
  rw [e] at a
  have:=one h
  lia
theorem aAQ {xs : List Nat} {k : Nat} (hk : k < xs.length) : T (cyc xs) (xs.getD (pk xs.length k) 0) (xs.getD k 0):=List.mem_map.mpr ⟨k,List.mem_range.mpr hk,rfl⟩
theorem rC {xs : List Nat} (i : Nat) : ∀ (d : Nat),i + d < xs.length→Walk (cyc xs) d (xs.getD i 0) (xs.getD (i + d) 0)
 | 0,_=>rfl
 | d + 1,h=>by
  refine ⟨_,rC i d (by lia),?_⟩
  have:=aAQ (xs:=xs) (k:=i + (d + 1)) h
  unfold pk at this
  rw [if_neg (by lia)] at this
  exact this
theorem pD {n : Nat} {xs : List Nat} (n1 : 2 ≤ n) (n2 : n ≤ 32) (pm : xs.Perm (List.range n)) : Fine n (cyc xs):=by
 have hl : xs.length = n:=by rw [pm.length_eq,List.length_range]
 have nd : xs.Nodup:=pm.nodup_iff.mpr List.nodup_range
 have lt : ∀ x∈xs,x < n:=fun x hx=>List.mem_range.mp (pm.mem_iff.mp hx)
 refine (nN nd lt (by lia)).1.fine n1 n2 fun a b ha hb=>?_
 obtain ⟨i,hi,ei⟩:=List.mem_iff_getElem.mp (pm.mem_iff.mpr (List.mem_range.mpr ha))
 obtain ⟨j,hj,ej⟩:=List.mem_iff_getElem.mp (pm.mem_iff.mpr (List.mem_range.mpr hb))
 have w1:=rC (xs:=xs) i (xs.length - 1 - i) (by lia)
 have t0:=aAQ (xs:=xs) (k:=0) (by lia)
 have w3:=rC (xs:=xs) 0 j (by lia)
 rw [show i + (xs.length - 1 - i) = xs.length - 1 by lia] at w1
 rw [show pk xs.length 0 = xs.length - 1 from rfl] at t0
 rw [Nat.zero_add] at w3
 have w:=w1.trans (Walk.cons t0 w3)
 rw [bU hi,bU hj,ei,ej] at w
 exact ⟨_,w⟩
theorem mI : ∀ (hs : List Nat) (ts : Ts),hs.Nodup→(∀ h∈hs,8 ≤ (ts.filter fun t=>decide (t.1 = ci h)).length)→8 * hs.length ≤ ts.length
 | [],_,_,_=>by simp
 | h :: hs,ts,nd,hf=>by
  obtain ⟨h1,h2⟩:=List.nodup_cons.mp nd
  have e : ts.length = (ts.filter fun t=>decide (t.1 = ci h)).length + (ts.filter fun t=>!decide (t.1 = ci h)).length:=by
   clear hf
   induction ts with
   | nil=>rfl
   | cons x xs ih2=>by_cases q : x.1 = ci h <;> simp [List.filter_cons,q] <;> lia
  have a:=hf h List.mem_cons_self
  have ih:=mI hs (ts.filter fun t=>!decide (t.1 = ci h)) h2 fun x hx=>by
   refine Nat.le_trans (hf x (List.mem_cons_of_mem _ hx)) (Nat.le_of_eq ?_)
   rw [List.filter_filter]
   congr 1
   refine List.filter_congr fun t _=>?_
   by_cases q : t.1 = ci x
   ·have : ¬ t.1 = ci h:=fun z=>h1 (by have:=Int.ofNat.inj (z.symm.trans q); exact this ▸ hx)
    simp [q]
    rw [q] at this
    exact this
   ·simp [q]
  rw [List.length_cons]
  lia
structure Tree (n : Nat) (os : List Nat) (k : Nat) (ts : Ts) : Prop where
 pre : Pre n ts
 ends : ∀ t∈ts,∃ a b,a∈os.take k∧b∈os.take k∧t = (ci a,ci b)
 con : ∀ a b,a∈os.take k→b∈os.take k→∃ j,Walk ts j a b
 len : ts.length + 2 = 2 * k
theorem Tree.start {n : Nat} {os : List Nat} (h : 0 < os.length) : Tree n os 1 []:=by
 refine ⟨⟨List.nodup_nil,(fun t h=>nomatch h),(fun t h=>nomatch h),fun h=>rfl,fun h=>by simp⟩,(fun t h=>nomatch h),fun a b ha hb=>?_,rfl⟩
 cases os with
 | nil=>simp at h
 | cons o os =>
  simp at ha hb
  exact ⟨0,by rw [ha,hb]; rfl⟩
theorem Tree.free {n : Nat} {os : List Nat} {k : Nat} {ts : Ts} (T : Tree n os k ts) (nd : os.Nodup) (hk : k ≤ os.length) : ∃ h∈os.take k,(ts.filter fun t=>decide (t.1 = ci h)).length < 8:=by
 apply Classical.byContradiction
 intro hno
 have:=mI (os.take k) ts (nd.sublist (List.take_sublist _ _)) fun h hh=>Classical.byContradiction fun z=>hno ⟨h,hh,by lia⟩
 have hl:=T.len
 rw [List.length_take,Nat.min_eq_left hk] at this
 lia
theorem Tree.add {n : Nat} {os : List Nat} {k s v : Nat} {ts : Ts} (Tr : Tree n os k ts) (nd : os.Nodup) (lt : ∀ x∈os,x < n) (hv : os[k]? = some v) (hs : s∈os.take k) (hd : (ts.filter fun t=>decide (t.1 = ci s)).length < 8) : Tree n os (k + 1) (ts ++ [(ci s,ci v),(ci v,ci s)]):=by
 have tk : os.take (k + 1) = os.take k ++ [v]:=by rw [List.take_add_one,hv]; rfl
 have nd1 : (os.take k ++ [v]).Nodup:=by rw [← tk]; exact nd.sublist (List.take_sublist _ _)
 have vn : v ∉ os.take k:=fun z=>(List.nodup_append.mp nd1).2.2 v z v (by simp) rfl
 have sv : s ≠ v:=fun e=>vn (e ▸ hs)
 have vm : v∈os:=List.mem_of_getElem? hv
 have sl:=lt s (List.mem_of_mem_take hs)
 have vl:=lt v vm
 have nov : ∀ t∈ts,t.1 ≠ ci v∧t.2 ≠ ci v:=fun t ht=>by
  obtain ⟨a,b,ha,hb,rfl⟩:=Tr.ends t ht
  exact ⟨fun e=>vn (Int.ofNat.inj e ▸ ha),fun e=>vn (Int.ofNat.inj e ▸ hb)⟩
 have Q : Pre n [(ci s,ci v),(ci v,ci s)]:=by
  have svi : ci s ≠ ci v:=fun e=>sv (Int.ofNat.inj e)
  refine ⟨?_,fun t ht=>?_,fun t ht=>?_,fun h=>?_,fun h=>Nat.le_trans (List.length_filter_le _ _) (by simp)⟩
  ·simp [svi]
  ·simp at ht
   rcases ht with rfl | rfl <;> (simp only [ci]; lia)
  ·simp at ht
   rcases ht with rfl | rfl
   ·exact svi
   ·exact svi.symm
  ·by_cases a : ci s = h <;> by_cases b : ci v = h <;> simp [List.filter_cons,a,b]
 have P2 : Pre n (ts ++ [(ci s,ci v),(ci v,ci s)]):=by
  refine kQ Tr.pre Q (fun t ht z=>?_) fun h=>?_
  ·simp at ht
   rcases ht with rfl | rfl
   ·exact (nov _ z).2 rfl
   ·exact (nov _ z).1 rfl
  ·have svi : ci s ≠ ci v:=fun e=>sv (Int.ofNat.inj e)
   by_cases a : ci s = h
   ·subst a
    have b : ¬ ci v = ci s:=svi.symm
    simp only [List.filter_cons,decide_true,if_true,decide_eq_false b]
    simp
    lia
   ·by_cases b : ci v = h
    ·subst b
     have z : ts.filter (fun t=>decide (t.1 = ci v)) = []:=List.filter_eq_nil_iff.mpr fun t ht=>by simpa using (nov t ht).1
     rw [z]
     exact Nat.le_trans (Nat.add_le_add_left (List.length_filter_le _ _) _) (by simp)
    ·have:=Tr.pre.most h
     simp [List.filter_cons,a,b]
     exact this
 have up : ∀ t∈ts,t∈ts ++ [(ci s,ci v),(ci v,ci s)]:=fun t ht=>List.mem_append_left _ ht
 have t1 : T (ts ++ [(ci s,ci v),(ci v,ci s)]) s v:=List.mem_append_right _ (by simp)
 have t2 : T (ts ++ [(ci s,ci v),(ci v,ci s)]) v s:=List.mem_append_right _ (by simp)
 have toS : ∀ a,a∈os.take k ++ [v]→∃ j,Walk (ts ++ [(ci s,ci v),(ci v,ci s)]) j a s:=fun a ha=>by
  rcases List.mem_append.mp ha with z | z
  ·obtain ⟨j,w⟩:=Tr.con a s z hs
   exact ⟨j,w.mono up⟩
  ·simp at z; subst z; exact ⟨1,Walk.one t2⟩
 have ofS : ∀ b,b∈os.take k ++ [v]→∃ j,Walk (ts ++ [(ci s,ci v),(ci v,ci s)]) j s b:=fun b hb=>by
  rcases List.mem_append.mp hb with z | z
  ·obtain ⟨j,w⟩:=Tr.con s b hs z
   exact ⟨j,w.mono up⟩
  ·simp at z; subst z; exact ⟨1,Walk.one t1⟩
 refine ⟨P2,fun t ht=>?_,fun a b ha hb=>?_,?_⟩
 ·rw [tk]
  rcases List.mem_append.mp ht with z | z
  ·obtain ⟨a,b,ha,hb,e⟩:=Tr.ends t z
   exact ⟨a,b,List.mem_append_left _ ha,List.mem_append_left _ hb,e⟩
  ·simp at z
   rcases z with rfl | rfl
   ·exact ⟨s,v,List.mem_append_left _ hs,by simp,rfl⟩
   ·exact ⟨v,s,by simp,List.mem_append_left _ hs,rfl⟩
 ·rw [tk] at ha hb
  obtain ⟨i,w1⟩:=toS a ha
  obtain ⟨j,w2⟩:=ofS b hb
  exact ⟨i + j,w1.trans w2⟩
 ·have:=Tr.len
  rw [List.length_append]
  simp
  lia
theorem Tree.fine {n : Nat} {os : List Nat} {ts : Ts} (Tr : Tree n os n ts) (n1 : 2 ≤ n) (n2 : n ≤ 32) (pm : os.Perm (List.range n)) : Fine n ts:=by
 have hl : os.length = n:=by rw [pm.length_eq,List.length_range]
 refine Tr.pre.fine n1 n2 fun a b ha hb=>Tr.con a b ?_ ?_
 ·rw [List.take_of_length_le (by lia)]; exact pm.mem_iff.mpr (List.mem_range.mpr ha)
 ·rw [List.take_of_length_le (by lia)]; exact pm.mem_iff.mpr (List.mem_range.mpr hb)
end NetM
namespace NetM
theorem wE {n : Nat} {ts : Ts} {h : Nat} (hh : h < n) : (outN n ts h).Nodup:=(lA hh).imp fun {a b} hab e=>by subst e; lia
end NetM
namespace L2
open PySem PySem.Spec PyProof.Rows
section
variable {X : Cx}
theorem lJ : ∀ {ns : List Int} {its : List Value},Vals (ns.map V.int) its→∃ xs : List (Int × Tok),its = xs.map (fun p=>Value.int p.1 p.2)∧xs.map (·.1) = ns
 | [],_,r=>by cases r; exact ⟨[],rfl,rfl⟩
 | n :: ns,_,r=>by
  cases r with
  | cons r rr =>
   obtain ⟨t,rfl⟩:=(show ∃ t,_ = Value.int n t from r)
   obtain ⟨xs,rfl,e⟩:=lJ rr
   exact ⟨(n,t) :: xs,rfl,by rw [List.map_cons,e]⟩
def aCH (K : PySem.W.Frag) : List V→Hp→VK→Prop:=fun xs H Q=>∃ (l : Addr) (ns : List Int),xs = [.ref l]∧SqL K H l (ns.map V.int)∧ns ≠ []∧∀ M,M∈ns→(∀ a∈ns,a ≤ M)→Q (.int M) H
theorem yW (hc : X.calm = true) : cV X (.builtin "max") (aCH X.K) := by
  intro pins s σ H xs us Q I r h
  obtain ⟨l, ns, rfl, hl, hne, q⟩ := h
  obtain ⟨u1, rfl, r1⟩ := r.one
  obtain rfl : u1 = Value.ref l := r1
  obtain ⟨its, rv, pl, _⟩ := I.list hl
  obtain ⟨ps, rfl, rfl⟩ := lJ rv
  have hi : intItems ps.toArray = (ps.map (fun p => Value.int p.1 p.2)).toArray := by unfold intItems; simp
  have hsz : 0 < ps.toArray.size := by
    cases ps with
    | nil => exact absurd rfl hne
    | cons p ps => simp
  refine max_intList (I.ok.hd hc) (xs := ps.toArray) (by rw [hi]; exact pl.isList) hsz fun v h' tk hv hk => ?_
  obtain ⟨t, rfl⟩ := intItems_at hv
  obtain ⟨h1, h2⟩ := argBest_gt (numAt ps.toArray) (ps.toArray.size - 1)
  have num : ∀ j, j < ps.length → numAt ps.toArray j ∈ ps.map (·.1) ∧ numAt ps.toArray j = (ps.map (·.1)).getD j 0 := fun j hj => by
    have e : numAt ps.toArray j = ps[j].1 := by unfold numAt; simp [List.getElem?_eq_getElem hj]
    refine ⟨by rw [e]; exact List.mem_map.mpr ⟨_, List.getElem_mem hj, rfl⟩, ?_⟩
    rw [e, List.getD_eq_getElem?_getD, List.getElem?_map, List.getElem?_eq_getElem hj]; rfl
  have hb : argBest (fun i j => decide (numAt ps.toArray i > numAt ps.toArray j)) (ps.toArray.size - 1) < ps.length := by
    have : ps.toArray.size = ps.length := by simp
    lia
  refine ⟨.int _, H, I.kept (t' := tk) hk, ⟨t, rfl⟩, q _ (num _ hb).1 fun a ha => ?_⟩
  obtain ⟨j, hj, e⟩ := List.mem_iff_getElem.mp ha
  rw [List.length_map] at hj
  have := h2 j (by have : ps.toArray.size = ps.length := by simp
                   lia)
  rw [(num j hj).2, List.getD_eq_getElem?_getD, List.getElem?_eq_getElem (by rw [List.length_map]; exact hj)] at this
  rw [← e]
  exact this
end
end L2
namespace NetM
abbrev swp (u : Int × Int) : Int × Int:=(u.2,u.1)
def dbl (ps : Ts) : Ts:=ps.flatMap fun u=>[u,swp u]
theorem dQ {ps qs : Ts} : dbl (ps ++ qs) = dbl ps ++ dbl qs:=List.flatMap_append
theorem iZ : ∀ {ps : Ts},(dbl ps).Perm (ps ++ ps.map swp)
 | []=>List.Perm.refl _
 | u :: ps=>by
  have ih:=iZ (ps:=ps)
  show (u :: swp u :: dbl ps).Perm (u :: (ps ++ swp u :: ps.map swp))
  refine List.Perm.cons _ ?_
  exact (ih.cons _).trans List.perm_middle.symm
theorem iO : ∀ {ps : Ts},(dbl ps).length = 2 * ps.length
 | []=>rfl
 | u :: ps=>by
  have ih:=iO (ps:=ps)
  show (dbl ps).length + 2 = 2 * (ps.length + 1)
  lia
theorem aBn {ps : Ts} {u : Int × Int} (h : u∈dbl ps) : swp u∈dbl ps:=by
 obtain ⟨v,hv,hu⟩:=List.mem_flatMap.mp h
 refine List.mem_flatMap.mpr ⟨v,hv,?_⟩
 rcases List.mem_cons.mp hu with e | e
 ·rw [e]; exact List.mem_cons_of_mem _ (List.mem_singleton.mpr rfl)
 ·rw [List.mem_singleton.mp e]; exact List.mem_cons_self
theorem dY {ps : Ts} {u : Int × Int} : u∈dbl ps↔u∈ps∨swp u∈ps:=by
 rw [(iZ (ps:=ps)).mem_iff,List.mem_append]
 refine or_congr Iff.rfl ⟨fun h=>?_,fun h=>List.mem_map.mpr ⟨_,h,rfl⟩⟩
 obtain ⟨v,hv,rfl⟩:=List.mem_map.mp h
 exact hv
theorem aBo {ps : Ts} : ((dbl ps).map swp).Perm (dbl ps):=by
 refine ((iZ (ps:=ps)).map swp).trans (List.Perm.trans ?_ (iZ (ps:=ps)).symm)
 rw [List.map_append,List.map_map]
 have e : ps.map (swp ∘ swp) = ps:=(List.map_congr_left fun u _=>rfl).trans (List.map_id ps)
 rw [e]
 exact List.perm_append_comm
def memB (x : Nat) : List Nat→Bool
 | []=>false
 | y :: ys=>Nat.beq x y || memB x ys
theorem lK {x : Nat} : ∀ {ys : List Nat},memB x ys = true↔x∈ys
 | []=>by simp [memB]
 | y :: ys=>by
  unfold memB
  rw [Bool.or_eq_true,lK (ys:=ys),List.mem_cons]
  exact or_congr ⟨fun h=>Nat.eq_of_beq_eq_true h,fun h=>by rw [h]; exact Nat.beq_refl y⟩ Iff.rfl
def ndB : List Nat→Bool
 | []=>true
 | x :: xs=>!memB x xs && ndB xs
theorem yX : ∀ {xs : List Nat},ndB xs = true→xs.Nodup
 | [],_=>List.nodup_nil
 | x :: xs,h=>by
  unfold ndB at h
  rw [Bool.and_eq_true] at h
  refine List.nodup_cons.mpr ⟨fun z=>?_,yX h.2⟩
  rw [lK.mpr z] at h
  exact absurd h.1 (by decide)
abbrev ci2 (q : Nat × Nat) : Int × Int:=((q.1 : Int),(q.2 : Int))
def cds (qs : List (Nat × Nat)) : List Nat:=qs.flatMap fun q=>[64 * q.1 + q.2,64 * q.2 + q.1]
def dec (c : Nat) : Int × Int:=(((c / 64 : Nat) : Int),((c % 64 : Nat) : Int))
theorem rD {a b : Nat} (h : b < 64) : dec (64 * a + b) = ((a : Int),(b : Int)):=by
 unfold dec
 rw [show (64 * a + b) / 64 = a by lia,show (64 * a + b) % 64 = b by lia]
theorem nP : ∀ {qs : List (Nat × Nat)},(∀ q∈qs,q.1 < 64∧q.2 < 64)→(cds qs).map dec = dbl (qs.map ci2)
 | [],_=>rfl
 | q :: qs,h=>by
  have ih:=nP (qs:=qs) fun x hx=>h x (List.mem_cons_of_mem _ hx)
  obtain ⟨h1,h2⟩:=h q List.mem_cons_self
  show dec (64 * q.1 + q.2) :: dec (64 * q.2 + q.1) :: (cds qs).map dec = ci2 q :: swp (ci2 q) :: dbl (qs.map ci2)
  rw [ih,rD h2,rD h1]
def b1 (b : Bool) : Nat:=cond b 1 0
def cntB (h : Nat) : List (Nat × Nat)→Nat
 | []=>0
 | q :: qs=>b1 (Nat.beq q.1 h) + (b1 (Nat.beq q.2 h) + cntB h qs)
theorem nQ {h : Nat} : ∀ {qs : List (Nat × Nat)},((dbl (qs.map ci2)).filter fun t=>decide (t.1 = (h : Int))).length = cntB h qs
 | []=>rfl
 | q :: qs=>by
  have ih:=nQ (h:=h) (qs:=qs)
  have e : ∀ a : Nat,(if decide ((a : Int) = (h : Int)) = true then 1 else 0) = b1 (Nat.beq a h):=fun a=>by
   by_cases c : a = h
   ·subst c; rw [if_pos (by simp),Nat.beq_refl]; rfl
   ·rw [if_neg (by simp; lia),show Nat.beq a h = false from Bool.eq_false_iff.mpr fun z=>c (Nat.eq_of_beq_eq_true z)]; rfl
  show ((ci2 q :: swp (ci2 q) :: dbl (qs.map ci2)).filter _).length = b1 (Nat.beq q.1 h) + (b1 (Nat.beq q.2 h) + cntB h qs)
  rw [← ih,← e q.1,← e q.2,List.filter_cons,List.filter_cons]
  split <;> split <;> simp <;> lia
def wF (n : Nat) (qs : List (Nat × Nat)) : Bool:=Nat.ble 2 n && (Nat.ble n 32 && (ndB (cds qs) && (qs.all (fun q=>Nat.blt q.1 n && (Nat.blt q.2 n && !Nat.beq q.1 q.2)) && ((List.range n).all (fun h=>Nat.ble (cntB h qs) 8) &&
 (List.range n).all (fun v=>Nat.beq v 0 || (List.range v).reverse.any (fun u=>memB (64 * u + v) (cds qs)))))))
theorem gQ {a b : Nat} (h : Nat.blt a b = true) : a < b:=Nat.le_of_ble_eq_true h
theorem aAl {n : Nat} {qs : List (Nat × Nat)} (h : wF n qs = true) : Fine n (dbl (qs.map ci2))∧∀ q∈qs,q.1 < 64∧q.2 < 64:=by
 unfold wF at h
 simp only [Bool.and_eq_true,List.all_eq_true,List.mem_range,Bool.or_eq_true,List.any_eq_true,List.mem_reverse] at h
 obtain ⟨h1,h2,h3,h4,h5,h6⟩:=h
 have h1:=Nat.le_of_ble_eq_true h1
 have h2:=Nat.le_of_ble_eq_true h2
 have q64 : ∀ q∈qs,q.1 < 64∧q.2 < 64:=fun q hq=>⟨by have:=gQ (h4 q hq).1; lia,by have:=gQ (h4 q hq).2.1; lia⟩
 have mem : ∀ t∈dbl (qs.map ci2),∃ q∈qs,t = ci2 q∨t = swp (ci2 q):=fun t ht=>by
  rcases dY.mp ht with z | z
  ·obtain ⟨q,hq,e⟩:=List.mem_map.mp z; exact ⟨q,hq,.inl e.symm⟩
  ·obtain ⟨q,hq,e⟩:=List.mem_map.mp z; exact ⟨q,hq,.inr (by rw [e])⟩
 have rg : ∀ t∈dbl (qs.map ci2),((0 ≤ t.1∧t.1 < n)∧(0 ≤ t.2∧t.2 < n))∧t.1 ≠ t.2:=fun t ht=>by
  obtain ⟨q,hq,e⟩:=mem t ht
  have a:=gQ (h4 q hq).1
  have b:=gQ (h4 q hq).2.1
  have c : q.1 ≠ q.2:=fun z=>by have:=(h4 q hq).2.2; rw [z,Nat.beq_refl] at this; exact absurd this (by decide)
  rcases e with rfl | rfl
  ·exact ⟨⟨⟨by show (0 : Int) ≤ (q.1 : Int); lia,by show (q.1 : Int) < n; lia⟩,by show (0 : Int) ≤ (q.2 : Int); lia,by show (q.2 : Int) < n; lia⟩,by show ((q.1 : Nat) : Int) ≠ (q.2 : Nat); lia⟩
  ·exact ⟨⟨⟨by show (0 : Int) ≤ (q.2 : Int); lia,by show (q.2 : Int) < n; lia⟩,by show (0 : Int) ≤ (q.1 : Int); lia,by show (q.1 : Int) < n; lia⟩,by show ((q.2 : Nat) : Int) ≠ (q.1 : Nat); lia⟩
 have bal : ∀ h : Int,((dbl (qs.map ci2)).filter fun t=>decide (t.1 = h)).length = ((dbl (qs.map ci2)).filter fun t=>decide (t.2 = h)).length:=fun h=>by
  rw [← (aBo (ps:=qs.map ci2)).filter (fun t=>decide (t.1 = h)) |>.length_eq,List.filter_map,List.length_map]
  rfl
 have nd : (dbl (qs.map ci2)).Nodup:=by
  rw [← nP q64]
  refine List.Pairwise.map _ (fun a b hab e=>hab ?_) (List.nodup_iff_pairwise_ne.mp (yX h3))
  have e1 : a / 64 = b / 64:=Int.ofNat.inj (congrArg Prod.fst e)
  have e2 : a % 64 = b % 64:=Int.ofNat.inj (congrArg Prod.snd e)
  lia
 refine ⟨⟨h1,h2,nd,fun t ht=>(rg t ht).1,fun t ht=>(rg t ht).2,bal,fun h=>?_,fun a b ha hb=>?_⟩,q64⟩
 ·by_cases c : 0 ≤ h∧h < n
  ·have:=Nat.le_of_ble_eq_true (h5 h.toNat (by lia))
   rw [← nQ,Int.toNat_of_nonneg c.1] at this
   exact this
  ·have e : (dbl (qs.map ci2)).filter (fun t=>decide (t.1 = h)) = []:=List.filter_eq_nil_iff.mpr fun t ht e=>c ((show t.1 = h from of_decide_eq_true e) ▸ (rg t ht).1.1)
   rw [e]; exact Nat.zero_le _
 ·have both : ∀ v,v < n→(∃ k,Walk (dbl (qs.map ci2)) k 0 v)∧∃ k,Walk (dbl (qs.map ci2)) k v 0:=by
   intro v
   induction v using Nat.strongRecOn with
   | ind v ih =>
    intro hv
    rcases h6 v hv with e | ⟨u,hu,t1⟩
    ·have e:=Nat.eq_of_beq_eq_true e
     subst e; exact ⟨⟨0,rfl⟩,0,rfl⟩
    ·obtain ⟨⟨k,w⟩,l,w'⟩:=ih u hu (by lia)
     have t : T (dbl (qs.map ci2)) u v:=by
      have:=List.mem_map.mpr ⟨_,lK.mp t1,rD (a:=u) (b:=v) (by lia)⟩
      rw [nP q64] at this
      exact this
     have t' : T (dbl (qs.map ci2)) v u:=aBn t
     exact ⟨⟨k + 1,u,w,t⟩,l + 1,Walk.cons t' w'⟩
  obtain ⟨_,k,w⟩:=both a ha
  obtain ⟨⟨l,w'⟩,_⟩:=both b hb
  exact ⟨_,w.trans w'⟩
def eT (n : Nat) : List (Nat × Nat):=(List.range n).map fun h=>(h,(h + 1) % n)
theorem yY : (List.range 33).all (fun n=>Nat.blt n 3 || wF n (eT n)) = true:=by decide +kernel
theorem mJ {n : Nat} (h1 : 3 ≤ n) (h2 : n ≤ 32) : Fine n (dbl ((eT n).map ci2)):=by
 have:=List.all_eq_true.mp yY n (List.mem_range.mpr (by lia))
 rw [Bool.or_eq_true] at this
 rcases this with z | z
 ·have:=gQ z; lia
 ·exact (aAl z).1
end NetM
namespace NetM
end NetM
namespace NetM
end NetM
namespace K12
open PySem L2
def top (i : Nat) : Stmt:=PySem.Challenge.pw_neverwait_k16_trees_and_plain_rings.main.body.getD i (.Pass ⟨0,0,0,0⟩)
abbrev rE : Stmt:=top 8
abbrev nR : Stmt:=top 9
abbrev rF : Stmt:=top 10
abbrev sRow : Stmt:=top 12
structure Bl (mg : Str→Option Value) : Prop where
 isi : mg "isinstance" = none
 int : mg "int" = none
 bool : mg "bool" = none
 tup : mg "tuple" = none
 lst : mg "list" = none
 str : mg "str" = none
 set : mg "set" = none
 len : mg "len" = none
 range : mg "range" = none
 sorted : mg "sorted" = none
 any : mg "any" = none
 max : mg "max" = none
 min : mg "min" = none
 verr : mg "ValueError" = none
 all : mg "all" = none
def aAm (K : PySem.W.Frag) (H : Hp) (x : V) : Prop:=∃ t,TyX K H x t∧(PySem.W.kitOne K t (.type "int") = some false∨(PySem.W.kitOne K t (.type "int") = some true∧PySem.W.kitOne K t (.type "bool") = some true))
theorem tH {K : PySem.W.Frag} : PySem.W.kitOne K (.type "int") (.type "int") = some true:=by kernel_rfl
theorem rG {K : PySem.W.Frag} : PySem.W.kitOne K (.type "int") (.type "bool") = some false:=by kernel_rfl
inductive Wh (K : PySem.W.Frag) (H : Hp) : V→Option Int→Prop where
 | int (i : Int) : Wh K H (.int i) (some i)
 | no {x : V} (h : aAm K H x) : Wh K H x none
def nS (K : PySem.W.Frag) : Sp:=fun vs H Q _=>∃ x o,vs = [x]∧Wh K H x o∧Q (.bl o.isSome) H
section
variable {P : Program} {w : World} {K : PySem.W.Frag} {mg : Str→Option Value} {base : Heap}
theorem aBp : aS ["thing"] ["thing"] (aH rE):=⟨rfl,rfl,rfl,by decide +kernel,rfl,by decide +kernel,by decide +kernel⟩
theorem aAn {f : Addr} {fd : FuncData} (F : Fun K "is_whole" "is_whole" rE f fd) (B : Bl mg) : FnOk P w K mg base CX0 1 f fd ["thing"] (nS K):=by
 refine F.ok aBp (fun vs H Q E h=>?_) (fun cdv A outer s H vs Q E hr h=>?_)
 ·obtain ⟨x,o,rfl,_⟩:=h
  rfl
 ·obtain ⟨x,o,rfl,W,k⟩:=h
  refine ⟨_,aJ (aW (eC (aO gI (by rfl) B.isi PyProof.Rows.boot_isinstance (aA (pv 0) (aA (iJ (v:=.ty "int") rfl B.int PyProof.Rows.boot_int rfl) aB)))
   (eH (aBV (aO gI (by rfl) B.isi PyProof.Rows.boot_isinstance (aA (pv 0) (aA (iJ (v:=.ty "bool") rfl B.bool PyProof.Rows.boot_bool rfl) aB))))))),?_⟩
  cases W with
  | int i =>
   refine ⟨_,rfl,_,_,_,.type "int",true,rfl,⟨rfl,tH⟩,.of (.int _),true,rfl,?_⟩
   exact ⟨_,rfl,_,_,_,.type "int",false,rfl,⟨rfl,rG⟩,.of (.int _),false,rfl,k⟩
  | no h =>
   obtain ⟨t,ty,h | ⟨h1,h2⟩⟩:=h
   ·exact ⟨_,rfl,_,_,_,t,false,rfl,⟨rfl,h⟩,ty,false,rfl,k⟩
   ·refine ⟨_,rfl,_,_,_,t,true,rfl,⟨rfl,h1⟩,ty,true,rfl,?_⟩
    exact ⟨_,rfl,_,_,_,t,true,rfl,⟨rfl,h2⟩,ty,true,rfl,k⟩
end
section
variable {P : Program} {w : World} {K : PySem.W.Frag} {mg : Str→Option Value} {base : Heap}
def dS (o : Option Int) (lo hi : Int) : Bool:=match o with
 | some i=>decide (lo ≤ i) && decide (i ≤ hi)
 | none=>false
def gU (K : PySem.W.Frag) : Sp:=fun vs H Q _=>∃ x o lo hi,vs = [x,.int lo,.int hi]∧Wh K H x o∧Q (.bl (dS o lo hi)) H
theorem aAo : aS ["thing", "least", "most"] ["thing", "least", "most"] (aH nR):=⟨rfl,rfl,rfl,by decide +kernel,rfl,by decide +kernel,by decide +kernel⟩
theorem yZ {f : Addr} {fd : FuncData} (F : Fun K "is_whole_within" "is_whole_within" nR f fd) (W : Cal P w K mg base CX0 1 "is_whole" ["thing"] (nS K)) : FnOk P w K mg base CX0 2 f fd ["thing", "least", "most"] (gU K):=by
 refine F.ok aAo (fun vs H Q E h=>?_) (fun cdv A outer s H vs Q E hr h=>?_)
 ·obtain ⟨x,o,lo,hi,rfl,_⟩:=h
  rfl
 ·obtain ⟨x,o,lo,hi,rfl,wh,k⟩:=h
  refine ⟨_,aJ (aW (eC (aN W hr aK (aA (pv 0) aB)) (eH (zW aAI aAI (pv 1) (pv 0) (pv 2))))),?_⟩
  refine ⟨_,rfl,x,o,rfl,wh,?_⟩
  cases wh with
  | no h=>exact ⟨false,rfl,k⟩
  | int i =>
   refine ⟨true,rfl,_,rfl,_,rfl,_,_,rfl,rfl,_,rfl,?_⟩
   show if decide (lo ≤ i) = true then _ else _
   have k' : Q (.bl (decide (lo ≤ i) && decide (i ≤ hi))) H:=k
   by_cases h : lo ≤ i
   ·rw [decide_eq_true h] at k' ⊢
    exact ⟨_,rfl,_,_,rfl,rfl,k'⟩
   ·rw [decide_eq_false h] at k' ⊢
    exact k'
def iP (K : PySem.W.Frag) : Sp:=fun vs H Q _=>∃ x o n,vs = [.int n,x]∧Wh K H x o∧Q (.bl (dS o 0 (n - 1))) H
theorem aBq : aS ["many", "thing"] ["many", "thing"] (aH rF):=⟨rfl,rfl,rfl,by decide +kernel,rfl,by decide +kernel,by decide +kernel⟩
theorem aAp {f : Addr} {fd : FuncData} (F : Fun K "is_house" "is_house" rF f fd) (W : Cal P w K mg base CX0 2 "is_whole_within" ["thing", "least", "most"] (gU K)) : FnOk P w K mg base CX0 3 f fd ["many", "thing"] (iP K):=by
 refine F.ok aBq (fun vs H Q E h=>?_) (fun cdv A outer s H vs Q E hr h=>?_)
 ·obtain ⟨x,o,n,rfl,_⟩:=h
  rfl
 ·obtain ⟨x,o,n,rfl,wh,k⟩:=h
  refine ⟨_,aJ (aW (aN W hr aK (aA (pv 1) (aA aG (aA (bA gD (pv 0) aG) aB))))),?_⟩
  exact ⟨_,rfl,_,rfl,_,_,rfl,rfl,x,o,0,n - 1,rfl,wh,k⟩
inductive Rw (K : PySem.W.Frag) (H : Hp) : V→Option (List V)→Prop where
 | tup {p : Addr} {xs : List V} (h : H p = some (.tup xs)) : Rw K H (.ref p) (some xs)
 | no {x : V} {t : Value} (ty : TyX K H x t) (h : PySem.W.kitOne K t (.type "tuple") = some false) : Rw K H x none
def aCI (o : Option (List V)) (m : Int) : Bool:=match o with
 | some xs=>decide ((xs.length : Int) = m)
 | none=>false
theorem aBr {K : PySem.W.Frag} : PySem.W.kitOne K (.type "tuple") (.type "tuple") = some true:=by kernel_rfl
def pR (K : PySem.W.Frag) : Sp:=fun vs H Q _=>∃ x o m,vs = [x,.int m]∧Rw K H x o∧Q (.bl (aCI o m)) H
theorem aCJ : aS ["thing", "length"] ["thing", "length"] (aH sRow):=⟨rfl,rfl,rfl,by decide +kernel,rfl,by decide +kernel,by decide +kernel⟩
theorem aCb {f : Addr} {fd : FuncData} (F : Fun K "is_row" "is_row" sRow f fd) (B : Bl mg) : FnOk P w K mg base CX0 1 f fd ["thing", "length"] (pR K):=by
 refine F.ok aCJ (fun vs H Q E h=>?_) (fun cdv A outer s H vs Q E hr h=>?_)
 ·obtain ⟨x,o,m,rfl,_⟩:=h
  rfl
 ·obtain ⟨x,o,m,rfl,W,k⟩:=h
  refine ⟨_,aJ (aW (eC (aO gI (by rfl) B.isi PyProof.Rows.boot_isinstance (aA (pv 0) (aA (iJ (v:=.ty "tuple") rfl B.tup PyProof.Rows.boot_tuple rfl) aB)))
   (eH (cW cI (aO aR (by rfl) B.len PySem.boot_len (aA (pv 0) aB)) (pv 1) (aX _))))),?_⟩
  cases W with
  | @tup p xs h =>
   refine ⟨_,rfl,_,_,_,.type "tuple",true,rfl,⟨rfl,aBr⟩,.of (.tup h),true,rfl,?_⟩
   refine ⟨_,rfl,_,_,rfl,.inr (SqT.of h),_,rfl,rfl,?_⟩
   have e : decide (V.int ((xs.length : Nat) : Int) = V.int m) = decide (((xs.length : Nat) : Int) = m):=by simp
   rw [e]
   exact k
  | no ty h=>exact ⟨_,rfl,_,_,_,_,false,rfl,⟨rfl,h⟩,ty,false,rfl,k⟩
end
end K12
namespace K12
open PySem L2
theorem bR {D : Addr} {H H' : Hp} {o : HO} (s : Same H H') (hD : H D = none) : Same H (upd H' D o):=fun b u e=>by rw [aI (aM e hD)]; exact s b u e
abbrev IV (ns : List Int) : List V:=ns.map V.int
abbrev NV (ns : List Nat) : List V:=ns.map fun (x : Nat)=>V.int (x : Int)
theorem if_k {c : TT} {t u : TS} {D : Ends} {σ : St} {H : Hp} (Gy Gn : Hp→Prop) (hy : ∀ H,Gy H→t D σ H) (hn : ∀ H,Gn H→u D σ H)
  (ht : ∀ Y N : Hp→Prop,(∀ H,Gy H→Y H)→(∀ H,Gn H→N H)→c σ H fun b H1=>if b = true then Y H1 else N H1) : tIfS c t u D σ H:=ht _ _ hy hn
theorem pS {t u : TS} {D : Ends} {σ : St} {H : Hp} (G : St→Hp→Prop) (hr : ∀ σ H,G σ H→u D σ H) (ht : ∀ N : St→Hp→Prop,(∀ σ H,G σ H→N σ H)→t { D with nx:=N } σ H) : tSeq t u D σ H:=ht _ hr
abbrev Zs:=List (Addr × (Int × Int))
abbrev prT (u : Int × Int) : HO:=.tup [.int u.1,.int u.2]
def zr (zs : Zs) : List V:=zs.map fun z=>V.ref z.1
def zp (zs : Zs) : List (Int × Int):=zs.map (·.2)
def PO (H : Hp) (zs : Zs) : Prop:=∀ z∈zs,H z.1 = some (prT z.2)
theorem cA {a b : Zs} : zr (a ++ b) = zr a ++ zr b:=List.map_append
theorem cH {a b : Zs} : zp (a ++ b) = zp a ++ zp b:=List.map_append
theorem aZ {a : Zs} : (zr a).length = a.length:=List.length_map _
theorem aP {a : Zs} : (zp a).length = a.length:=List.length_map _
theorem kR {a : Zs} : zr a = (a.map (·.1)).map V.ref:=by unfold zr; rw [List.map_map]; rfl
theorem fL {zs : Zs} {i : Nat} {x : V} (h : (zr zs)[i]? = some x) : ∃ z,zs[i]? = some z∧x = .ref z.1:=by
 unfold zr at h
 rw [List.getElem?_map] at h
 cases e : zs[i]? with
 | none=>rw [e] at h; cases h
 | some z=>rw [e] at h; exact ⟨z,rfl,(Option.some.inj h).symm⟩
theorem PO.nil {H : Hp} : PO H []:=fun z hz=>(nomatch hz)
theorem PO.same {H H' : Hp} {zs : Zs} (h : PO H zs) (s : Same H H') : PO H' zs:=fun z hz=>s _ _ (h z hz)
theorem PO.putL {H : Hp} {D : Addr} {xs : List V} {o : HO} {zs : Zs} (h : PO H zs) (e : H D = some (.lst xs)) : PO (upd H D o) zs:=fun z hz=>by
 have:=h z hz
 rw [aI (by rintro rfl; rw [e] at this; cases this)]; exact this
theorem PO.putN {H : Hp} {D : Addr} {o : HO} {zs : Zs} (h : PO H zs) (e : H D = none) : PO (upd H D o) zs:=h.same (aE e)
theorem PO.append {H : Hp} {a b : Zs} (h : PO H a) (h' : PO H b) : PO H (a ++ b):=fun z hz=>(List.mem_append.mp hz).elim (h z) (h' z)
theorem PO.one {H : Hp} {p : Addr} {u : Int × Int} (h : H p = some (prT u)) : PO H [(p,u)]:=fun z hz=>by rw [List.mem_singleton.mp hz]; exact h
theorem rH {zs : Zs} {i : Nat} (h : i < zs.length) : (zs.map (·.1)).getD i 0 = zs[i].1:=by
 rw [List.getD_eq_getElem?_getD,List.getElem?_map,List.getElem?_eq_getElem h]; rfl
theorem uM {zs : Zs} {i : Nat} (h : i < zs.length) : (zp zs).getD i (0,0) = zs[i].2:=by
 unfold zp
 rw [List.getD_eq_getElem?_getD,List.getElem?_map,List.getElem?_eq_getElem h]; rfl
theorem fN {K : PySem.W.Frag} {neg : Bool} {H : Hp} {p l : Addr} {u : Int × Int} {zs : Zs} {Q : VK} (hp : H p = some (prT u)) (hl : H l = some (.lst (zr zs))) (ho : PO H zs) (q : Q (.bl (if neg then !decide (u∈zp zs) else decide (u∈zp zs))) H) : rInP K neg (.ref p) (.ref l) H Q :=
 ⟨p,l,u,zs.map (·.1),zp zs,rfl,rfl,SqT.of hp,SqL.of (by rw [← kR]; exact hl),by rw [List.length_map,aP],fun i hi=>by
  rw [aP] at hi
  rw [rH hi,uM hi]
  exact SqT.of (ho _ (List.getElem_mem hi)),q⟩
theorem zA {H : Hp} {zs : Zs} (ho : PO H zs) : ∃ g : Addr→Int × Int,(∀ z∈zs,g z.1 = z.2)∧∀ {as : List Addr},as.Perm (zs.map (·.1))→∃ zs' : Zs,zs'.Perm zs∧as = zs'.map (·.1):=by
 classical
 let f : Addr→Int × Int:=fun a=>match H a with
  | some (.tup [.int x,.int y])=>(x,y)
  | _=>(0,0)
 have e2 : ∀ z∈zs,f z.1 = z.2:=fun z hz=>by
  show (match H z.1 with | some (.tup [.int x,.int y])=>(x,y) | _=>(0,0)) = z.2
  rw [ho z hz]
 have e : (zs.map (·.1)).map (fun a=>(a,f a)) = zs:=by
  rw [List.map_map]
  conv=>rhs; rw [← List.map_id zs]
  refine List.map_congr_left fun z hz=>?_
  show (z.1,f z.1) = z
  rw [e2 z hz]
 refine ⟨f,e2,fun {as} h=>⟨as.map fun a=>(a,f a),?_,?_⟩⟩
 ·have:=h.map (fun a=>(a,f a))
  rw [e] at this
  exact this
 ·rw [List.map_map]
  exact (List.map_id as).symm
abbrev Ord (us : List (Int × Int)) : Prop:=us.Pairwise fun u v=>pk u ≤ pk v
theorem uN {K : PySem.W.Frag} {H : Hp} {l : Addr} {zs : Zs} {Q : VK} (hl : H l = some (.lst (zr zs))) (ho : PO H zs) (hz : zs.length ≤ 4096) (hb : ∀ u∈zp zs,0 ≤ u.2∧u.2 < 64) (q : ∀ (D : Addr) (zs' : Zs),H D = none→zs'.Perm zs→Ord (zp zs')→Q (.ref D) (upd H D (.lst (zr zs')))) : yS K [.ref l] H Q:=by
 obtain ⟨g,hg,lift⟩:=zA ho
 refine ⟨l,zs.map (·.1),g,rfl,SqL.of (by rw [← kR]; exact hl),fun a ha=>?_,by rw [List.length_map]; exact hz,fun D as' hD hp so=>?_⟩
 ·obtain ⟨z,hz,rfl⟩:=List.mem_map.mp ha
  rw [hg z hz]
  exact ⟨SqT.of (ho z hz),hb _ (List.mem_map.mpr ⟨z,hz,rfl⟩)⟩
 ·obtain ⟨zs',h1,rfl⟩:=lift hp
  rw [← kR]
  refine q D zs' hD h1 ?_
  unfold zp Ord
  rw [List.pairwise_map] at so ⊢
  refine so.imp_of_mem fun {a b} ha hb h=>?_
  rw [hg a (h1.mem_iff.mp ha),hg b (h1.mem_iff.mp hb)] at h
  exact h
theorem jA {lo : Int} {n : Nat} {D : Addr} {g : TG} {tt : TT} {te : TE} {fin : Hp→Prop} {σB : St} {H0 : Hp} (F : Nat→Int × Int) (shape : St→Prop) (hD : H0 D = none) (hn : n ≤ 100000) (h0 : shape σB)
  (hs : ∀ i σ H (R : V→St→Hp→Prop) (Kf : St→Hp→Prop),i < n→shape σ→Same H0 H→(∀ σ2 p,shape σ2→H p = none→R (.ref p) σ2 (upd H p (prT (F i))))→g (.int (lo + i)) σ H fun σ2 H2=>tt σ2 H2 fun b H3=>if b = true then te σ2 H3 fun v H4=>R v σ2 H4 else Kf σ2 H3)
  (hd : ∀ zs H,Same H0 H→H D = some (.lst (zr zs))→PO H zs→zp zs = (List.range n).map F→(∀ z∈zs,H0 z.1 = none)→fin H) : eB (Itr lo n) g tt te D fin σB (upd H0 D (.lst [])):=by
 refine dM (fun i ys σ H=>shape σ∧Same H0 H∧H D = some (.lst ys)∧∃ zs : Zs,ys = zr zs∧PO H zs∧zp zs = (List.range i).map F∧∀ z∈zs,H0 z.1 = none) ⟨h0,aE hD,aD,[],rfl,PO.nil,rfl,fun z hz=>nomatch hz⟩ ?_ ?_
 ·rintro i ys σ H Kt Kf hi ⟨sh,sm,hDl,zs,rfl,po,ep,fr⟩ kt kf
  have hl : zs.length = i:=by rw [← aP,ep,List.length_map,List.length_range]
  refine hs i σ H Kt Kf hi sh sm (fun σ2 p sh2 hp=>?_)
  ·have nD : D ≠ p:=aM hDl hp
   refine kt _ _ _ (by rw [aI nD]; exact hDl) (by rw [aZ,hl]; exact Nat.lt_of_lt_of_le hi (Nat.le_trans hn (by decide))) ⟨sh2,bR (sm.trans (aE hp)) hD,aD,zs ++ [(p,F i)],?_,?_,?_,?_⟩
   ·rw [cA]; rfl
   ·refine PO.putL (xs:=zr zs) ?_ (by rw [aI nD]; exact hDl)
    exact (po.putN hp).append (PO.one aD)
   ·rw [cH,ep,List.range_succ,List.map_append]; rfl
   ·intro z hz
    rcases List.mem_append.mp hz with z' | z'
    ·exact fr z z'
    ·rw [List.mem_singleton.mp z']; exact sm.free hp
 ·rintro ys σ H ⟨_,sm,hDl,zs,rfl,po,ep,fr⟩
  exact hd zs H sm hDl po ep fr
theorem aAq {K : PySem.W.Frag} {a D : Addr} {zs0 : Zs} {g : TG} {tt : TT} {te : TE} {fin : Hp→Prop} {σB : St} {H0 : Hp} (F : Int × Int→Int × Int) (shape : St→Prop) (ha : H0 a = some (.lst (zr zs0))) (hp0 : PO H0 zs0) (hD : H0 D = none) (hn : zs0.length ≤ 100000) (h0 : shape σB)
  (hs : ∀ z σ H (R : V→St→Hp→Prop) (Kf : St→Hp→Prop),z∈zs0→shape σ→H z.1 = some (prT z.2)→(∀ σ2 p,shape σ2→H p = none→R (.ref p) σ2 (upd H p (prT (F z.2))))→g (.ref z.1) σ H fun σ2 H2=>tt σ2 H2 fun b H3=>if b = true then te σ2 H3 fun v H4=>R v σ2 H4 else Kf σ2 H3)
  (hd : ∀ zs H,Same H0 H→H D = some (.lst (zr zs))→PO H zs→zp zs = (zp zs0).map F→(∀ z∈zs,H0 z.1 = none)→fin H) : eB (Itl K a) g tt te D fin σB (upd H0 D (.lst [])):=by
 refine cQ (xs:=zr zs0) (fun i ys σ H=>shape σ∧Same H0 H∧H D = some (.lst ys)∧∃ zs : Zs,ys = zr zs∧PO H zs∧zp zs = ((zp zs0).take i).map F∧∀ z∈zs,H0 z.1 = none) ⟨h0,aE hD,aD,[],rfl,PO.nil,rfl,fun z hz=>nomatch hz⟩ (fun i ys σ H _ z=>SqL.of (z.2.1 _ _ ha)) ?_ ?_
 ·rintro i x ys σ H Kt Kf hx ⟨sh,sm,hDl,zs,rfl,po,ep,fr⟩ kt kf
  obtain ⟨z,hz,rfl⟩:=fL hx
  have hi : i < zs0.length:=(List.getElem?_eq_some_iff.mp hz).1
  have hzm : z∈zs0:=List.mem_of_getElem? hz
  have hl : zs.length = i:=by rw [← aP,ep,List.length_map,List.length_take,aP]; lia
  refine hs z σ H Kt Kf hzm sh (sm _ _ (hp0 z hzm)) (fun σ2 p sh2 hp=>?_)
  ·have nD : D ≠ p:=aM hDl hp
   refine kt _ _ _ (by rw [aI nD]; exact hDl) (by rw [aZ,hl]; exact Nat.lt_of_lt_of_le hi (Nat.le_trans hn (by decide))) ⟨sh2,bR (sm.trans (aE hp)) hD,aD,zs ++ [(p,F z.2)],?_,?_,?_,?_⟩
   ·rw [cA]; rfl
   ·refine PO.putL (xs:=zr zs) ?_ (by rw [aI nD]; exact hDl)
    exact (po.putN hp).append (PO.one aD)
   ·have e2 : (zp zs0)[i]? = some z.2:=by unfold zp; rw [List.getElem?_map,hz]; rfl
    rw [cH,ep,List.take_add_one,e2,Option.toList_some,List.map_append]; rfl
   ·intro z hz
    rcases List.mem_append.mp hz with z' | z'
    ·exact fr z z'
    ·rw [List.mem_singleton.mp z']; exact sm.free hp
 ·rintro ys σ H ⟨_,sm,hDl,zs,rfl,po,ep,fr⟩
  rw [aZ,← aP,List.take_length] at ep
  exact hd zs H sm hDl po ep fr
end K12
namespace K12
open PySem L2
open NetM
abbrev pT : Stmt:=fY (top 17) 0
abbrev wG : Stmt:=fY (top 17) 1
abbrev wH : Stmt:=fY (top 17) 2
abbrev sOut : Stmt:=fY (top 17) 3
abbrev rJ : Stmt:=fY (top 17) 8
theorem n12 : ¬ (("house_count" : Str) = "tie_list"):=by decide +kernel
theorem n13 : ¬ (("house_count" : Str) = "out_lists"):=by decide +kernel
theorem n14 : ¬ (("house_count" : Str) = "distances"):=by decide +kernel
theorem n23 : ¬ (("tie_list" : Str) = "out_lists"):=by decide +kernel
theorem n24 : ¬ (("tie_list" : Str) = "distances"):=by decide +kernel
theorem n34 : ¬ (("out_lists" : Str) = "distances"):=by decide +kernel
def flds (n : Int) (tl ol ds : Addr) : List (Str × V):=putF "distances" (.ref ds) (putF "out_lists" (.ref ol) (putF "tie_list" (.ref tl) (putF "house_count" (.int n) [])))
theorem uO (n : Int) (tl ol ds : Addr) : (flds n tl ol ds).lookup ("house_count" : Str) = some (.int n):=by
 unfold flds
 rw [bL,if_neg n14,bL,if_neg n13,bL,if_neg n12,bL,if_pos rfl]
theorem nU (n : Int) (tl ol ds : Addr) : (flds n tl ol ds).lookup ("tie_list" : Str) = some (.ref tl):=by
 unfold flds
 rw [bL,if_neg n24,bL,if_neg n23,bL,if_pos rfl]
theorem iQ (n : Int) (tl ol ds : Addr) {m : Str} (h1 : ¬ m = "house_count") (h2 : ¬ m = "tie_list") (h3 : ¬ m = "out_lists") (h4 : ¬ m = "distances") : (flds n tl ol ds).lookup m = none:=by
 unfold flds
 rw [bL,if_neg h4,bL,if_neg h3,bL,if_neg h2,bL,if_neg h1]
 all_goals rfl
theorem aBs (n : Int) (tl ol ds : Addr) : (flds n tl ol ds).lookup ("out_lists" : Str) = some (.ref ol):=by
 unfold flds
 rw [bL,if_neg n34,bL,if_pos rfl]
def dU (H : Hp) (L : Addr→Prop) (l : Addr) (n : Nat) (r : Nat→List Nat) : Prop:=∃ bs : List Addr,H l = some (.lst (bs.map V.ref))∧(∀ b∈bs,L b)∧Holds H bs n (fun h=>.lst (NV (r h)))
theorem dU.keep {H H' : Hp} {L : Addr→Prop} {l : Addr} {n : Nat} {r : Nat→List Nat} (R : dU H L l n r) (hl : L l) (k : ∀ b o,L b→H b = some o→H' b = some o) : dU H' L l n r :=
 let ⟨bs,a,b,c⟩:=R
 ⟨bs,k _ _ hl a,b,c.mono fun j hj e=>k _ _ (b _ (by rw [List.getD_eq_getElem?_getD,List.getElem?_eq_getElem (by rw [c.1]; exact hj)]; exact List.getElem_mem _)) e⟩
theorem dU.row {H : Hp} {L : Addr→Prop} {l : Addr} {n : Nat} {r : Nat→List Nat} (R : dU H L l n r) {h : Nat} (hh : h < n) : ∃ (bs : List Addr) (b : Addr),H l = some (.lst (bs.map V.ref))∧(bs.map V.ref)[h]? = some (V.ref b)∧H b = some (.lst (NV (r h)))∧L b:=by
 obtain ⟨bs,a,b,c⟩:=R
 have hl : h < bs.length:=by rw [c.1]; exact hh
 refine ⟨bs,bs[h],a,by rw [List.getElem?_map,List.getElem?_eq_getElem hl]; rfl,?_,b _ (List.getElem_mem _)⟩
 have:=c.2 h hh
 rw [List.getD_eq_getElem?_getD,List.getElem?_eq_getElem hl] at this
 exact this
def TieL (H : Hp) (L : Addr→Prop) (tl : Addr) (ts : Ts) : Prop:=L tl∧∃ zs : Zs,H tl = some (.lst (zr zs))∧PO H zs∧(∀ z∈zs,L z.1)∧(zp zs).Perm ts∧Ord (zp zs)
theorem TieL.keep {H H' : Hp} {L : Addr→Prop} {tl : Addr} {ts : Ts} (h : TieL H L tl ts) (k : ∀ b o,L b→H b = some o→H' b = some o) : TieL H' L tl ts :=
 let ⟨a,zs,b,c,d,e⟩:=h; ⟨a,zs,k _ _ a b,fun z hz=>k _ _ (d z hz) (c z hz),d,e⟩
structure cF (C : Addr) (H : Hp) (L : Addr→Prop) (p : Addr) (n : Nat) (ts : Ts) : Prop where
 fine : Fine n ts
 ob : ∃ dx tl ol ds,H p = some (.ins C dx (flds n tl ol ds))∧L ol∧L ds∧dU H L ol n (outN n ts)∧dU H L ds n (fun h=>(List.range n).map (far ts h))∧TieL H L tl ts
theorem cF.keep {C : Addr} {H H' : Hp} {L : Addr→Prop} {p : Addr} {n : Nat} {ts : Ts} (N : cF C H L p n ts) (k : ∀ b o,L b→H b = some o→H' b = some o) (kp : ∀ o,H p = some o→H' p = some o) : cF C H' L p n ts :=
 let ⟨dx,tl,ol,ds,a,l1,l2,b,c,d⟩:=N.ob
 ⟨N.fine,dx,tl,ol,ds,kp _ a,l1,l2,b.keep l1 k,c.keep l2 k,d.keep k⟩
theorem cF.same {C : Addr} {H H' : Hp} {L : Addr→Prop} {p : Addr} {n : Nat} {ts : Ts} (N : cF C H L p n ts) (s : Same H H') : cF C H' L p n ts:=N.keep (fun b o _ e=>s b o e) (fun o e=>s _ o e)
structure NT (K : PySem.W.Frag) (mg : Str→Option Value) (C : Addr) : Prop where
 cl : Cls K C
 nH : eJ K C "house_count"
 nT : eJ K C "tie_list"
 nO : eJ K C "out_lists"
 nD : eJ K C "distances"
 mgC : mg "Net" = some (.ref C)
structure MCal (P : Program) (w : World) (K : PySem.W.Frag) (mg : Str→Option Value) (base : Heap) (CX : CXT) (k : Nat) (C : Addr) (x : Str) (ps : List Str) (sp : Sp) : Prop where
 ex : ∃ f fd,Meth K C x f∧eA K fd ps []∧FnOk P w K mg base CX k f fd ps sp
section
variable {P : Program} {w : World} {K : PySem.W.Frag} {mg : Str→Option Value} {base : Heap}
theorem aBt : aS ["self", "thing"] ["self", "thing"] (aH rJ):=⟨rfl,rfl,rfl,by decide +kernel,rfl,by decide +kernel,by decide +kernel⟩
theorem jY {i n : Nat} (h : i < n) : dS (some (i : Int)) 0 ((n : Int) - 1) = true:=by unfold dS; simp; lia
def lL (C : Addr) : Sp:=fun vs H Q _=>∃ (L : Addr→Prop) (p : Addr) (n : Nat) (ts : Ts) (i : Nat),vs = [.ref p,.int i]∧cF C H L p n ts∧i < n∧Q .non H
theorem zB {f C : Addr} {fd : FuncData} (F : Fun K "check_house" "Net.check_house" rJ f fd) (T : NT K mg C) (HH : Cal P w K mg base CX0 3 "is_house" ["many", "thing"] (iP K)) :
  FnOk P w K mg base CX0 4 f fd ["self", "thing"] (lL C):=by
 refine F.ok aBt (fun vs H Q E h=>?_) (fun cdv A outer s H vs Q E hr h=>?_)
 ·obtain ⟨L,p,n,ts,i,rfl,_⟩:=h
  rfl
 ·obtain ⟨L,p,n,ts,i,rfl,N,hi,k⟩:=h
  obtain ⟨dx,tl,ol,ds,h1,_⟩:=N.ob
  refine ⟨_,aJ (bV (cX (cP (aN HH hr aK (aA (fH (pv 0) rfl) (aA (pv 1) aB))))) cG bQ),?_⟩
  refine ⟨_,rfl,p,C,dx,_,_,rfl,h1,T.cl,T.nH,uO _ _ _ _,_,rfl,_,some (i : Int),n,rfl,.int _,_,rfl,?_⟩
  rw [jY hi]
  exact iteF k
theorem nchk (n : Int) (tl ol ds : Addr) : (flds n tl ol ds).lookup ("check_house" : Str) = none:=iQ n tl ol ds (by decide +kernel) (by decide +kernel) (by decide +kernel) (by decide +kernel)
theorem gW {xs : List Nat} {i : Nat} (h : i < xs.length) : (NV xs)[i]? = some (.int ((xs[i] : Nat) : Int)):=by rw [List.getElem?_map,List.getElem?_eq_getElem h]; rfl
theorem cK {xs : List Nat} : (NV xs).length = xs.length:=List.length_map _
theorem aCK : aS ["self", "house"] ["self", "house"] (aH sOut):=⟨rfl,rfl,rfl,by decide +kernel,rfl,by decide +kernel,by decide +kernel⟩
def jZ (C : Addr) : Sp:=fun vs H Q _=>∃ (L : Addr→Prop) (p : Addr) (n : Nat) (ts : Ts) (i : Nat),vs = [.ref p,.int i]∧cF C H L p n ts∧i < n∧∀ r H',Same H H'→H r = none→H' r = some (.lst (NV (outN n ts i)))→Q (.ref r) H'
theorem aBu {f C : Addr} {fd : FuncData} (F : Fun K "out" "Net.out" sOut f fd) (T : NT K mg C) (B : Bl mg) (M : MCal P w K mg base CX0 4 C "check_house" ["self", "thing"] (lL C)) :
  FnOk P w K mg base CX0 5 f fd ["self", "house"] (jZ C):=by
 obtain ⟨fM,fdM,mM,bM,GM⟩:=M.ex
 refine F.ok aCK (fun vs H Q E h=>?_) (fun cdv A outer s H vs Q E hr h=>?_)
 ·obtain ⟨L,p,n,ts,i,rfl,_⟩:=h
  rfl
 ·obtain ⟨L,p,n,ts,i,rfl,N,hi,k2⟩:=h
  obtain ⟨dx,tl,ol,ds,h1,_,_,R,_⟩:=N.ob
  refine ⟨_,aF (eW (kJ (pv 0) T.cl mM GM hr bM .nil aK (aA (pv 1) aB)))
   (aJ (aW (eX jM (by rfl) B.lst PyProof.Rows.boot_list (aA (bH bE (fH (pv 0) rfl) (pv 1) (fun _ _=>rfl)) aB)))),?_⟩
  refine ⟨_,rfl,p,dx,_,rfl,h1,nchk _ _ _ _,_,rfl,L,p,n,ts,i,rfl,N,hi,?_⟩
  obtain ⟨bs,b,r1,r2,r3,_⟩:=R.row hi
  exact ⟨_,rfl,p,C,dx,_,_,rfl,h1,T.cl,T.nO,aBs _ _ _ _,_,rfl,ol,_,_,_,rfl,rfl,SqL.of r1,bD r2,b,_,rfl,.inl (SqL.of r3),fun l hl=>k2 l _ (aE hl) hl aD⟩
end
end K12
namespace K12
open PySem L2 NetM
abbrev rK : Stmt:=top 18
abbrev sTie : Stmt:=top 19
abbrev sBal : Stmt:=top 20
section
variable {P : Program} {w : World} {K : PySem.W.Frag} {mg : Str→Option Value} {base : Heap}
abbrev sUnl : Stmt:=top 11
theorem aCL : aS ["many", "one", "other"] ["many", "one", "other"] (aH sUnl):=⟨rfl,rfl,rfl,by decide +kernel,rfl,by decide +kernel,by decide +kernel⟩
def wI : Sp:=fun vs H Q _=>∃ (n a b : Int),vs = [.int n,.int a,.int b]∧0 ≤ a∧a < n∧0 ≤ b∧b < n∧a ≠ b∧Q (.bl true) H
theorem aCc {f : Addr} {fd : FuncData} (F : Fun K "are_unlike_houses" "are_unlike_houses" sUnl f fd) (HH : Cal P w K mg base CX0 3 "is_house" ["many", "thing"] (iP K)) :
  FnOk P w K mg base CX0 4 f fd ["many", "one", "other"] wI:=by
 refine F.ok aCL (fun vs H Q E h=>?_) (fun cdv A outer s H vs Q E hr h=>?_)
 ·obtain ⟨n,a,b,rfl,_⟩:=h
  rfl
 ·obtain ⟨n,a,b,rfl,a1,a2,b1,b2,hne,k⟩:=h
  refine ⟨_,aJ (aW (eC (aN HH hr aK (aA (pv 0) (aA (pv 1) aB))) (eC (aN HH hr aK (aA (pv 0) (aA (pv 2) aB))) (eH (cW vH (pv 1) (pv 2) (aX _)))))),?_⟩
  refine ⟨_,rfl,_,rfl,_,_,n,rfl,.int a,_,rfl,?_⟩
  rw [if_pos (show dS (some a) 0 (n - 1) = true by unfold dS; simp; lia)]
  refine ⟨_,rfl,_,rfl,_,_,n,rfl,.int b,_,rfl,?_⟩
  rw [if_pos (show dS (some b) 0 (n - 1) = true by unfold dS; simp; lia)]
  refine ⟨_,rfl,_,rfl,rfl,?_⟩
  have e : (!decide (V.int a = V.int b)) = true:=by simp [hne]
  rw [e]
  exact k
theorem aCM : aS ["many", "thing"] ["many", "thing"] (aH sTie):=⟨rfl,rfl,rfl,by decide +kernel,rfl,by decide +kernel,by decide +kernel⟩
def wJ : Sp:=fun vs H Q _=>∃ (n : Int) (p : Addr) (a b : Int),vs = [.int n,.ref p]∧H p = some (.tup [.int a,.int b])∧0 ≤ a∧a < n∧0 ≤ b∧b < n∧a ≠ b∧Q (.bl true) H
theorem aCd {f : Addr} {fd : FuncData} (F : Fun K "is_tie" "is_tie" sTie f fd) (R : Cal P w K mg base CX0 1 "is_row" ["thing", "length"] (pR K)) (U : Cal P w K mg base CX0 4 "are_unlike_houses" ["many", "one", "other"] wI) :
  FnOk P w K mg base CX0 5 f fd ["many", "thing"] wJ:=by
 refine F.ok aCM (fun vs H Q E h=>?_) (fun cdv A outer s H vs Q E hr h=>?_)
 ·obtain ⟨n,p,a,b,rfl,_⟩:=h
  rfl
 ·obtain ⟨n,p,a,b,rfl,hp,a1,a2,b1,b2,hne,k⟩:=h
  refine ⟨_,aJ (aW (eC (aN R (hr.mono (by decide)) aK (aA (pv 1) (aA aG aB)))
   (eH (aN U hr aK (aA (pv 0) (aA (bH eK (pv 1) aG (fun _ _=>rfl)) (aA (bH eK (pv 1) aG (fun _ _=>rfl)) aB))))))),?_⟩
  refine ⟨_,rfl,_,_,_,rfl,.tup hp,true,rfl,?_⟩
  exact ⟨_,rfl,_,rfl,p,_,_,_,rfl,rfl,SqT.of hp,bD (j:=0) rfl,_,rfl,p,_,_,_,rfl,rfl,SqT.of hp,bD (j:=1) rfl,n,a,b,rfl,a1,a2,b1,b2,hne,k⟩
theorem uP : aS ["many", "ties", "tie"] ["many", "ties"] (aH rK):=⟨rfl,rfl,rfl,by decide +kernel,rfl,by decide +kernel,by decide +kernel⟩
theorem rL {K : PySem.W.Frag} : PySem.W.kitOne K (.type "list") (.type "list") = some true:=by kernel_rfl
structure cT (H : Hp) (l : Addr) (n : Nat) (zs : Zs) : Prop where
 fine : Fine n (zp zs)
 at_ : H l = some (.lst (zr zs))
 po : PO H zs
theorem cT.same {H H' : Hp} {l : Addr} {n : Nat} {zs : Zs} (h : cT H l n zs) (s : Same H H') : cT H' l n zs:=⟨h.fine,s _ _ h.at_,h.po.same s⟩
def fZ : Sp:=fun vs H Q _=>∃ (n : Nat) (l : Addr) (zs : Zs),vs = [.int n,.ref l]∧cT H l n zs∧∀ H',Same H H'→Q .non H'
theorem aAr {f : Addr} {fd : FuncData} (F : Fun K "check_ties" "check_ties" rK f fd) (B : Bl mg) (gF : ∃ t,mg "FEWEST_HOUSES" = some (.int 2 t)) (gM : ∃ t,mg "MOST_HOUSES" = some (.int 32 t))
  (W : Cal P w K mg base CX0 2 "is_whole_within" ["thing", "least", "most"] (gU K)) (T : Cal P w K mg base CX0 5 "is_tie" ["many", "thing"] wJ) :
  FnOk P w K mg base CX0 6 f fd ["many", "ties"] fZ:=by
 obtain ⟨tF,gF⟩:=gF
 obtain ⟨tM,gM⟩:=gM
 refine F.ok uP (fun vs H Q E h=>?_) (fun cdv A outer s H vs Q E hr h=>?_)
 ·obtain ⟨n,l,zs,rfl,_⟩:=h
  rfl
 ·refine ⟨_,aF (bV (cX (cP (aN W (hr.mono (by decide)) aK (aA (pv 0) (aA (iI (v:=.int 2) rfl gF ⟨_,rfl⟩) (aA (iI (v:=.int 32) rfl gM ⟨_,rfl⟩) aB)))))) cG bQ)
   (aF (bV (cX (cP (aO gI (by rfl) B.isi PyProof.Rows.boot_isinstance (aA (pv 1) (aA (iJ (v:=.ty "list") rfl B.lst PyProof.Rows.boot_list rfl) aB))))) cG bQ)
   (aF (gC PassesOwn.never rfl (bG (pv 1)) (aL (i:=2) uP.nd rfl (Or.inl rfl)) (aJ (bV (cX (cP (aN T hr aK (aA (pv 0) (aA (pv 2) aB))))) cG bQ)))
   (aJ (bV (aT vH (aO sU (by rfl) B.len PySem.boot_len (aA (eX (yD rfl (by have:=hr.un; show (A.deeper _).units + 8 < _; lia)) (by rfl) B.set PyProof.Rows.boot_set (aA (pv 1) aB)) aB)) (aO aR (by rfl) B.len PySem.boot_len (aA (pv 1) aB)) (aX _)) cG bQ)))),?_⟩
  obtain ⟨n,l,zs,rfl,tt,k⟩:=h
  obtain ⟨fi,hl,po⟩:=id tt
  have n1:=fi.n1
  have n2:=fi.n2
  refine ⟨_,rfl,_,_,2,32,rfl,.int n,_,rfl,?_⟩
  rw [show dS (some (n : Int)) 2 32 = true by unfold dS; simp; lia]
  refine iteF ?_
  refine ⟨_,rfl,_,_,_,.type "list",true,rfl,⟨rfl,rL⟩,.of (.lst hl),_,rfl,iteF ?_⟩
  refine ⟨_,rfl,l,rfl,⟨_,SqL.of hl⟩,lD (K:=K) (a:=l) (xs:=zr zs) (fun i σ H2=>H2 = H∧∃ v,σ = [some (.int n),some (.ref l),v]) ⟨rfl,none,rfl⟩ (fun i σ H2 _ ⟨e,_⟩=>by rw [e]; exact SqL.of hl) ?_ ?_⟩
  ·rintro i x σ H2 hx ⟨rfl,v,rfl⟩
   obtain ⟨z,hz,rfl⟩:=fL hx
   have hzm : z∈zs:=List.mem_of_getElem? hz
   have hzp : z.2∈zp zs:=List.mem_map.mpr ⟨z,hzm,rfl⟩
   have r:=fi.rg _ hzp
   exact ⟨_,rfl,_,rfl,n,_,_,_,rfl,po z hzm,r.1.1,r.1.2,r.2.1,r.2.2,fi.ne _ hzp,_,rfl,iteF ⟨rfl,_,rfl⟩⟩
  ·rintro σ H2 ⟨rfl,v,rfl⟩
   have hlen : (zp zs).length ≤ 256:=fi.len
   refine ⟨_,rfl,l,zs.map (·.1),zp zs,rfl,SqL.of (by rw [← kR]; exact hl),by rw [List.length_map,aP],fun i hi=>?_,fi.nd,fun y hy=>?_,by lia,fun D hD=>?_⟩
   ·rw [aP] at hi
    rw [rH hi,uM hi]
    exact SqT.of (po _ (List.getElem_mem hi))
   ·have r:=fi.rg _ hy
    lia
   ·have nl : l ≠ D:=aM hl hD
    refine ⟨D,_,rfl,aD,by lia,_,rfl,l,zr zs,rfl,.inl (SqL.of (by rw [aI nl]; exact hl)),rfl,_,rfl,?_⟩
    have ez : (!decide (V.int (((zp zs).length : Nat) : Int) = V.int (((zr zs).length : Nat) : Int))) = false:=by rw [aP,aZ]; simp
    rw [ez]
    exact iteF (k _ (aE hD))
end
end K12
namespace K12
open PySem L2 NetM
abbrev mK : Stmt:=top 21
section
variable {P : Program} {w : World} {K : PySem.W.Frag} {mg : Str→Option Value} {base : Heap}
theorem iB {zs : Zs} {l D : Addr} {H : Hp} {g : TG} {tt : TT} {te : TE} {fin : Hp→Prop} {σB : St} (S : St→Prop) (p q : Int × Int→Int) (h : Int) (hD : H D = none) (hl : H l = some (.lst (zr zs))) (po : PO H zs) (hn : zs.length ≤ 1000) (s0 : S σB)
  (hg : ∀ z σ H2 (Kt : V→St→Hp→Prop) (Kf : St→Hp→Prop),z∈zs→S σ→H2 z.1 = some (prT z.2)→(∀ σ2,S σ2→p z.2 = h→Kt (.int (q z.2)) σ2 H2)→(∀ σ2,S σ2→p z.2 ≠ h→Kf σ2 H2) →
   g (.ref z.1) σ H2 fun σ2 H2=>tt σ2 H2 fun b H3=>if b = true then te σ2 H3 fun v H4=>Kt v σ2 H4 else Kf σ2 H3)
  (hd : fin (upd H D (.lst (IV (((zp zs).filter fun y=>decide (p y = h)).map q))))) : eB (Itl K l) g tt te D fin σB (upd H D (.lst [])):=by
 have nl : l ≠ D:=aM hl hD
 have tk : ∀ {i : Nat} {z : Addr × (Int × Int)},zs[i]? = some z→(zp zs).take (i + 1) = (zp zs).take i ++ [z.2]:=fun {i z} hz=>by
  rw [List.take_add_one,show (zp zs)[i]? = some z.2 by unfold zp; rw [List.getElem?_map,hz]; rfl]; rfl
 refine cQ (xs:=zr zs) (fun i ys σ H2=>S σ∧ys = IV ((((zp zs).take i).filter fun y=>decide (p y = h)).map q)∧H2 = upd H D (.lst ys)) ⟨s0,by simp,rfl⟩ (fun i ys σ H2 _ ⟨_,_,e⟩=>by rw [e]; exact SqL.of (by rw [aI nl]; exact hl)) ?_ ?_
 ·rintro i x ys σ H2 Kt Kf hx ⟨hS,ey,rfl⟩ kt kf
  obtain ⟨z,hz,rfl⟩:=fL hx
  have hzm : z∈zs:=List.mem_of_getElem? hz
  have hp:=po z hzm
  have na : z.1 ≠ D:=aM hp hD
  have hi : i < zs.length:=(List.getElem?_eq_some_iff.mp hz).1
  refine hg z σ _ Kt Kf hzm hS (by rw [aI na]; exact hp) (fun σ2 s2 e=>?_) (fun σ2 s2 e=>?_)
  ·refine kt _ _ _ aD ?_ ⟨s2,?_,?_⟩
   ·rw [ey,List.length_map,List.length_map]
    exact Nat.lt_of_le_of_lt (List.length_filter_le _ _) (Nat.lt_of_le_of_lt (List.length_take_le _ _) (Nat.lt_of_lt_of_le (show i < 1000 by lia) (by decide)))
   ·rw [ey,tk hz,List.filter_append,List.map_append]
    have : decide (p z.2 = h) = true:=by simp [e]
    simp [List.filter_cons,this]
   ·rw [kG]
  ·refine kf _ _ ⟨s2,?_,rfl⟩
   have : decide (p z.2 = h) = false:=by simp [e]
   rw [ey,tk hz,List.filter_append]
   simp [List.filter_cons,this]
 ·rintro ys σ H2 ⟨_,ey,rfl⟩
  rw [aZ,← aP,List.take_length] at ey
  rw [ey]
  exact hd
theorem nb3 : (["one", "other", "house"] : List Str).Nodup:=by decide +kernel
theorem pU : aS ["many", "ties", "house", "leading_out", "leading_in"] ["many", "ties"] (aH sBal):=⟨rfl,rfl,rfl,by decide +kernel,rfl,by decide +kernel,by decide +kernel⟩
theorem aCe {f : Addr} {fd : FuncData} (F : Fun K "check_balance" "check_balance" sBal f fd) (B : Bl mg) (gM : ∃ t,mg "MOST_TIES_OUT" = some (.int 8 t)) :
  FnOk P w K mg base CX0 1 f fd ["many", "ties"] fZ:=by
 obtain ⟨tM,gM⟩:=gM
 refine F.ok pU (fun vs H Q E h=>?_) (fun cdv A outer s H vs Q E hr h=>?_)
 ·obtain ⟨n,l,zs,rfl,_⟩:=h
  rfl
 ·obtain ⟨n,l,zs,rfl,T,k⟩:=h
  have fi:=T.fine
  have n1:=fi.n1
  have n2:=fi.n2
  have hlen : zs.length ≤ 256:=by have:=fi.len; rw [aP] at this; exact this
  refine' ⟨_,aJ (gC PassesOwn.never rfl (bZ rfl B.range (aA (pv 0) aB)) (aL (i:=2) pU.nd rfl (Or.inr rfl))
   (aF (aV (i:=3) pU.nd rfl (Or.inl rfl) (aO aR (by rfl) B.len PySem.boot_len (aA ?c1 aB)))
   (aF (aV (i:=4) pU.nd rfl (Or.inl rfl) (aO aR (by rfl) B.len PySem.boot_len (aA ?c2 aB)))
   (aF (bV (aT vH (pv 3) (pv 4) (aX _)) cG bQ)
   (aJ (bV (aT pO (pv 3) (iI (v:=.int 8) rfl gM ⟨_,rfl⟩) (aX _)) cG bQ)))))),?_⟩
  case c1 =>
   refine' bJ (g:=gTup K 2 (cU (aQ 0) (cU (aQ 1) gNil))) (NB:=["one", "other", "house"]) (src:=[none,none,some 2]) (bB (by kernel_rfl)) rfl (bG (pv 1)) ?g ?t ?e
   case g=>exact fun cl C s₃ H₃ fp=>dF (n:=2) rfl (bC (aL (i:=0) nb3 rfl (Or.inl rfl) (Or.inr rfl)) (bC (aL (i:=1) nb3 rfl (Or.inl rfl) (Or.inr rfl)) cR))
   case t=>exact fun cl C s₃ H₃ fp=>bS (aT cI (pv 0) (pv 2) (aX _))
   case e=>exact fun cl C s₃ H₃ fp=>pv 0
  case c2 =>
   refine' bJ (g:=gTup K 2 (cU (aQ 0) (cU (aQ 1) gNil))) (NB:=["one", "other", "house"]) (src:=[none,none,some 2]) (bB (by kernel_rfl)) rfl (bG (pv 1)) ?g ?t ?e
   case g=>exact fun cl C s₃ H₃ fp=>dF (n:=2) rfl (bC (aL (i:=0) nb3 rfl (Or.inl rfl) (Or.inr rfl)) (bC (aL (i:=1) nb3 rfl (Or.inl rfl) (Or.inr rfl)) cR))
   case t=>exact fun cl C s₃ H₃ fp=>bS (aT cI (pv 1) (pv 2) (aX _))
   case e=>exact fun cl C s₃ H₃ fp=>pv 1
  refine ⟨_,rfl,n,rfl,by lia,by lia,hV (n:=n) (lo:=0) (fun i σ H2=>Same H H2∧∃ a b c,σ = [some (.int n),some (.ref l),a,b,c]) ⟨Same.refl _,none,none,none,rfl⟩ ?_ ?_⟩
  ·rintro i σ H2 hi ⟨sm,a,b,c,rfl⟩
   have T2:=T.same sm
   refine ⟨_,rfl,l,rfl,⟨_,SqL.of T2.at_⟩,fun D hD=>iB (fun σ=>∃ a b,σ = [a,b,some (.int (0 + (i : Int)))]) (·.1) (·.1) (0 + (i : Int)) hD T2.at_ T2.po (by lia) ⟨_,_,rfl⟩ ?_ ?_⟩
   ·rintro z σ H3 Kt Kf hj ⟨x,y,rfl⟩ ha kt kf
    refine ⟨z.1,_,rfl,SqT.of ha,rfl,_,_,rfl,_,_,rfl,rfl,?_⟩
    refine ⟨_,rfl,_,rfl,rfl,_,rfl,?_⟩
    refine ite2 (fun e=>?_) (fun e=>?_)
    ·exact ⟨_,rfl,kt _ ⟨_,_,rfl⟩ (by simpa using e)⟩
    ·exact kf _ ⟨_,_,rfl⟩ (by simpa using e)
   ·refine ⟨D,_,rfl,.inl (SqL.of aD),?_⟩
    have sm2:=bR (o:=.lst (IV (((zp zs).filter fun y=>decide (y.1 = 0 + (i : Int))).map (·.1)))) (sm.trans (Same.refl _)) (H:=H) (by cases z : H D with | none=>rfl | some o=>rw [sm _ _ z] at hD; cases hD)
    have T3:=T.same sm2
    refine ⟨_,rfl,l,rfl,⟨_,SqL.of T3.at_⟩,fun D' hD'=>iB (fun σ=>∃ a b,σ = [a,b,some (.int (0 + (i : Int)))]) (·.2) (·.2) (0 + (i : Int)) hD' T3.at_ T3.po (by lia) ⟨_,_,rfl⟩ ?_ ?_⟩
    ·rintro z σ H3 Kt Kf hj ⟨x,y,rfl⟩ ha kt kf
     refine ⟨z.1,_,rfl,SqT.of ha,rfl,_,_,rfl,_,_,rfl,rfl,?_⟩
     refine ⟨_,rfl,_,rfl,rfl,_,rfl,?_⟩
     refine ite2 (fun e=>?_) (fun e=>?_)
     ·exact ⟨_,rfl,kt _ ⟨_,_,rfl⟩ (by simpa using e)⟩
     ·exact kf _ ⟨_,_,rfl⟩ (by simpa using e)
    ·refine ⟨D',_,rfl,.inl (SqL.of aD),?_⟩
     rw [Int.zero_add] at *
     have q1 : (IV (((zp zs).filter fun y=>decide (y.1 = (i : Int))).map (·.1))).length = (IV (((zp zs).filter fun y=>decide (y.2 = (i : Int))).map (·.2))).length:=by
      rw [List.length_map,List.length_map,List.length_map,List.length_map]; exact fi.bal i
     have q2 : (IV (((zp zs).filter fun y=>decide (y.1 = (i : Int))).map (·.1))).length ≤ 8:=by
      rw [List.length_map,List.length_map]; exact fi.most i
     refine ⟨_,rfl,_,rfl,rfl,_,rfl,?_⟩
     rw [← q1]
     rw [show (!decide (V.int (((IV (((zp zs).filter fun y=>decide (y.1 = (i : Int))).map (·.1))).length : Nat) : Int) = V.int (((IV (((zp zs).filter fun y=>decide (y.1 = (i : Int))).map (·.1))).length : Nat) : Int))) = false by simp]
     refine iteF ?_
     refine ⟨_,rfl,_,_,rfl,rfl,_,rfl,?_⟩
     rw [show decide ((((IV (((zp zs).filter fun y=>decide (y.1 = (i : Int))).map (·.1))).length : Nat) : Int) > 8) = false by rw [decide_eq_false_iff_not]; lia]
     exact iteF ⟨sm2.trans (aE hD'),_,_,_,rfl⟩
  ·rintro σ H2 ⟨sm,a,b,c,rfl⟩
   exact k H2 sm
end
end K12
namespace K12
open PySem L2 NetM
def lamE : Expr:=match (cB mK).getD 1 (.Pass ⟨0,0,0,0⟩) with
 | .Return (some (.Call _ _ (k :: _) _)) _=>k.value
 | _=>.Name "x" ⟨0,0,0,0⟩
def aBv : Arguments:=match lamE with
 | .Lambda a _ _ _=>a
 | _=>{ posonlyargs:=[],args:=[],vararg:=none,kwonlyargs:=[],kw_defaults:=[],kwarg:=none,defaults:=[] }
def aBw : Expr:=match lamE with
 | .Lambda _ b _ _=>b
 | e=>e
def aCN : Scope:=match lamE with
 | .Lambda _ _ s _=>s
 | _=>{ kind:=.function,names:=[],isGenerator:=false,isCoroutine:=false }
def aCf : Pos:=match lamE with
 | .Lambda _ _ _ p=>p
 | _=>⟨0,0,0,0⟩
def aAR : Str:=("houses_out" : Str) ++ ".<locals>." ++ "<lambda>"
abbrev Tab (Pt : Addr) (H : Hp) : Prop:=vY aCf aAR Pt H
def fU (Pt : Addr) (H H' : Hp) : Prop:=∀ b o,H b = some o→b ≠ Pt→H' b = some o
theorem fU.of {Pt : Addr} {H H' : Hp} (a : Same H H') : fU Pt H H':=fun c o h _=>a c o h
theorem Tab.not {Pt : Addr} {H : Hp} (t : Tab Pt H) {b : Addr} {o : HO} (h : H b = some o) (n : ∀ ps,o ≠ .tbl ps) : b ≠ Pt:=by
 rintro rfl
 rcases t with z | ⟨c,z,_⟩ <;> · rw [h] at z; exact n _ (Option.some.inj z)
theorem Tab.same {Pt : Addr} {H H' : Hp} (t : Tab Pt H) (e : Same H H') : Tab Pt H':=by
 rcases t with z | ⟨c,z,y⟩
 ·exact .inl (e _ _ z)
 ·exact .inr ⟨c,e _ _ z,e _ _ y⟩
theorem aBx {n a b h : Int} (hn : 0 < n) (a0 : 0 ≤ a) (a1 : a < n) (b0 : 0 ≤ b) (b1 : b < n) (e : (a - h) % n = (b - h) % n) : a = b:=by
 have h1:=Int.emod_emod_of_dvd (a - h) (Int.dvd_refl n)
 have q : (a - b) % n = 0:=by
  have : a - b = (a - h) - (b - h):=by lia
  rw [this,Int.sub_emod,e,Int.sub_self,Int.zero_emod]
 obtain ⟨c,hc⟩:=Int.dvd_of_emod_eq_zero q
 have c0 : c = 0:=by
  rcases Int.lt_trichotomy c 0 with z | z | z
  ·have : n * c ≤ n * (-1):=Int.mul_le_mul_of_nonneg_left (by lia) (by lia)
   lia
  ·exact z
  ·have : n * 1 ≤ n * c:=Int.mul_le_mul_of_nonneg_left (by lia) (by lia)
   lia
 rw [c0] at hc
 lia
theorem pM {ts : Ts} {h : Int} (nd : ts.Nodup) : ((ts.filter fun y=>decide (y.1 = h)).map (·.2)).Nodup:=by
 refine L2.jT (nd.filter _) fun x hx y hy e=>?_
 have a:=(List.mem_filter.mp hx).2
 have b:=(List.mem_filter.mp hy).2
 simp at a b
 exact Prod.ext (a.trans b.symm) e
theorem zC {n : Nat} {ts : Ts} {h : Nat} (F : Fine n ts) (hh : h < n) {out : List Int} (ko : KOut (h : Int) (n : Int) ((ts.filter fun y=>decide (y.1 = (h : Int))).map (·.2)) out) : out.map V.int = NV (outN n ts h):=by
 obtain ⟨ps,hp,rfl,hs⟩:=ko
 have hout : (ps.map (·.2)).Perm ((ts.filter fun y=>decide (y.1 = (h : Int))).map (·.2)):=by
  have:=hp.map (·.2)
  rw [List.map_map] at this
  refine this.trans (List.Perm.of_eq ?_)
  conv=>rhs; rw [← List.map_id ((ts.filter fun y=>decide (y.1 = (h : Int))).map (·.2))]
  rfl
 have mem : ∀ z,z∈ps.map (·.2)↔((h : Int),z)∈ts:=fun z=>by
  rw [hout.mem_iff,List.mem_map]
  constructor
  ·rintro ⟨y,hy,rfl⟩
   obtain ⟨y1,y2⟩:=List.mem_filter.mp hy
   have : y.1 = (h : Int):=by simpa using y2
   rw [← this]; exact y1
  ·intro hz
   exact ⟨_,List.mem_filter.mpr ⟨hz,by simp⟩,rfl⟩
 have nd : (ps.map (·.2)).Nodup:=hout.nodup_iff.mpr (pM F.nd)
 have key : ∀ q∈ps,q.1 = (q.2 - (h : Int)) % (n : Int):=fun q hq=>by
  obtain ⟨z,_,e⟩:=List.mem_map.mp (hp.mem_iff.mp hq)
  rw [← e]
 have hn : (0 : Int) < n:=by have:=F.n1; lia
 have sorted : (ps.map (·.2)).Pairwise fun x y=>(x - (h : Int)) % (n : Int) < (y - (h : Int)) % (n : Int):=by
  refine List.pairwise_map.mpr ?_
  have nd2:=List.pairwise_map.mp nd
  refine (hs.and nd2).imp_of_mem fun {x y} hx hy hxy=>?_
  have l1:=hxy.1
  rw [key x hx,key y hy] at l1
  have ax:=F.rg _ ((mem x.2).mp (List.mem_map.mpr ⟨x,hx,rfl⟩))
  have ay:=F.rg _ ((mem y.2).mp (List.mem_map.mpr ⟨y,hy,rfl⟩))
  have ne : (x.2 - (h : Int)) % (n : Int) ≠ (y.2 - (h : Int)) % (n : Int):=fun z=>hxy.2 (aBx hn ax.2.1 ax.2.2 ay.2.1 ay.2.2 z)
  lia
 have e : ps.map (·.2) = (outN n ts h).map fun (o : Nat)=>(o : Int):=by
  refine iF (k:=fun z=>(z - (h : Int)) % (n : Int)) sorted ?_ fun z=>?_
  ·refine List.pairwise_map.mpr ?_
   exact lA hh
  ·rw [mem,List.mem_map]
   constructor
   ·intro hz
    have r:=F.rg _ hz
    refine ⟨z.toNat,(dP F hh).mpr ?_,by lia⟩
    show (((h : Nat) : Int),((z.toNat : Nat) : Int))∈ts
    rw [show ((z.toNat : Nat) : Int) = z by lia]; exact hz
   ·rintro ⟨o,ho,rfl⟩
    exact (dP F hh).mp ho
 rw [e,List.map_map]
 rfl
section
variable {P : Program} {w : World} {K : PySem.W.Frag} {mg : Str→Option Value} {base : Heap}
theorem zD : aS ["many", "ties", "house", "others"] ["many", "ties", "house"] (aH mK):=⟨rfl,rfl,rfl,by decide +kernel,rfl,by decide +kernel,by decide +kernel⟩
def mL (Pt : Addr) : Sp:=fun vs H Q _=>∃ (n : Nat) (l : Addr) (h : Nat) (zs : Zs),vs = [.int n,.ref l,.int h]∧h < n∧cT H l n zs∧Tab Pt H ∧
 ∀ (r : Addr) (H' : Hp),Tab Pt H'→fU Pt H H'→H r = none→H' r = some (.lst (NV (outN n (zp zs) h)))→Q (.ref r) H'
theorem aBy {f c Pt : Addr} {fd : FuncData} (F : FunC K "houses_out" "houses_out" mK f fd c) (B : Bl mg) (kb : K.In base) (hb : BmOk mg base) (hc : PySem.W.codeHdIn K c Pt = true) :
  FnOk P w K mg base CX0 1 f fd ["many", "ties", "house"] (mL Pt):=by
 refine F.ok zD (fun vs H Q E h=>?_) (fun A outer s H vs Q E hr h=>?_)
 ·obtain ⟨n,l,h,zs,rfl,_⟩:=h
  rfl
 ·obtain ⟨n,l,h,zs,rfl,hh,T,tb,k⟩:=h
  have fi:=T.fine
  have n1:=fi.n1
  have hlen : zs.length ≤ 256:=by have:=fi.len; rw [aP] at this; exact this
  have LS : LamS (cxOf CX0 P w K mg base ["many", "ties", "house", "others"] "houses_out" (aH mK) f (.ref c) A outer s H E).nox aAR aBv aBw aCN "other" "house" "many" 2 0 :=
   ⟨⟨_,_,_,_,_,rfl⟩,fun _ _ _ _ _=>rfl,rfl,rfl,rfl,rfl,rfl,rfl,rfl,by decide +kernel,by decide +kernel,by decide +kernel,rfl,rfl,rfl,by decide,⟨by decide,by decide⟩,⟨by decide,by decide⟩⟩
  refine' ⟨_,aF (cN (i:=3) (g:=gTup K 2 (cU (aQ 0) (cU (aQ 1) gNil))) (NB:=["one", "other", "house"]) (src:=[none,none,some 2]) (bB (by kernel_rfl)) rfl (bG (pv 1)) ?g ?t ?e zD.nd rfl rfl rfl)
   (aJ (aW (yJ (vZ LS hr) rfl B.sorted PyProof.Rows.boot_sorted (aA (pv 3) aB) (aA1 (aB8 (NB:=["other", "house", "many"]) (src:=[none,some 2,some 0]) (aBd kb hb hc) (bB (by kernel_rfl))) aB2)))),?_⟩
  case g=>exact fun cl C s₃ H₃ fp=>dF (n:=2) rfl (bC (aL (i:=0) nb3 rfl (Or.inl rfl) (Or.inr rfl)) (bC (aL (i:=1) nb3 rfl (Or.inl rfl) (Or.inr rfl)) cR))
  case t=>exact fun cl C s₃ H₃ fp=>bS (aT cI (pv 0) (pv 2) (aX _))
  case e=>exact fun cl C s₃ H₃ fp=>pv 1
  refine ⟨_,rfl,l,rfl,⟨_,SqL.of T.at_⟩,fun D hD=>iB (fun σ=>∃ a b,σ = [a,b,some (.int (h : Int))]) (·.1) (·.2) (h : Int) hD T.at_ T.po (by lia) ⟨_,_,rfl⟩ ?_ ?_⟩
  ·rintro z σ H3 Kt Kf hj ⟨x,y,rfl⟩ ha kt kf
   refine ⟨z.1,_,rfl,SqT.of ha,rfl,_,_,rfl,_,_,rfl,rfl,?_⟩
   refine ⟨_,rfl,_,rfl,rfl,_,rfl,?_⟩
   refine ite2 (fun e=>?_) (fun e=>?_)
   ·exact ⟨_,rfl,kt _ ⟨_,_,rfl⟩ (by simpa using e)⟩
   ·exact kf _ ⟨_,_,rfl⟩ (by simpa using e)
  ·generalize hos : ((zp zs).filter fun y=>decide (y.1 = (h : Int))).map (·.2) = os
   have hol : os.length ≤ 8:=by rw [← hos,List.length_map]; exact fi.most h
   have sm : Same H (upd H D (.lst (IV os))):=aE hD
   refine ⟨_,rfl,tb.same sm,fun f' c' H2 t2' old hc' hf'=>?_⟩
   have t2 : Tab Pt H2:=t2'
   have hD2 : H2 D = some (.lst (IV os)):=old _ _ aD ((tb.same sm).not aD (by intro ps z; cases z))
   refine ⟨D,f',c',os,h,n,rfl,rfl,SqL.of hD2,(by lia),hf',hc',rfl,rfl,by lia,fun r out hr' ko=>?_⟩
   rw [← hos] at ko
   rw [zC fi hh ko]
   have sm2 : Same H2 (upd H2 r (.lst (NV (outN n (zp zs) h)))):=aE hr'
   refine k r _ (t2.same sm2) (fun b o e hb=>sm2 _ _ (old b o (sm _ _ e) hb)) ?_ aD
   cases z : H r with
   | none=>rfl
   | some o =>
    by_cases hP : r = Pt
    ·rcases t2 with q | ⟨_,q,_⟩ <;> · rw [← hP,hr'] at q; cases q
    ·rw [old r o (sm _ _ z) hP] at hr'; cases hr'
end
end K12
namespace K12
open PySem L2 NetM
abbrev wK : Stmt:=top 22
abbrev rM : Stmt:=top 23
def rowV (n : Nat) (R : List Nat) (f : Nat→Nat) : List V:=(List.range n).map fun x=>if x∈R then V.int ((f x : Nat) : Int) else .non
theorem gX {n : Nat} {R : List Nat} {f : Nat→Nat} : (rowV n R f).length = n:=by unfold rowV; rw [List.length_map,List.length_range]
theorem gY {n : Nat} {R : List Nat} {f : Nat→Nat} {x : Nat} (h : x < n) : (rowV n R f)[x]? = some (if x∈R then V.int ((f x : Nat) : Int) else .non):=by
 unfold rowV
 rw [List.getElem?_map,List.getElem?_range h]
 rfl
theorem wL {n s : Nat} (hs : s < n) : (List.replicate n V.non).set s (V.int 0) = rowV n [s] (fun _=>0):=by
 apply List.ext_getElem?
 intro x
 by_cases hx : x < n
 ·rw [gY hx]
  by_cases e : x = s
  ·subst e
   rw [List.getElem?_set_self (by rw [List.length_replicate]; exact hx),if_pos (by simp)]
   rfl
  ·rw [List.getElem?_set_ne (fun z=>e z.symm),List.getElem?_replicate,if_pos hx,if_neg (by simp [e])]
 ·rw [List.getElem?_eq_none (by rw [List.length_set,List.length_replicate]; lia),List.getElem?_eq_none (by rw [gX]; lia)]
theorem aAs {n v k : Nat} {R : List Nat} {f : Nat→Nat} (hv : v < n) : (rowV n R f).set v (V.int ((k : Nat) : Int)) = rowV n (R ++ [v]) (put f v k):=by
 apply List.ext_getElem?
 intro x
 by_cases hx : x < n
 ·rw [gY hx]
  by_cases e : x = v
  ·subst e
   rw [List.getElem?_set_self (by rw [gX]; exact hx),if_pos (by simp),gN]
  ·rw [List.getElem?_set_ne (fun z=>e z.symm),gY hx,dR e]
   by_cases h : x∈R
   ·rw [if_pos h,if_pos (List.mem_append_left _ h)]
   ·rw [if_neg h,if_neg (fun z=>(List.mem_append.mp z).elim h fun z=>e (by simpa using z))]
 ·rw [List.getElem?_eq_none (by rw [List.length_set,gX]; lia),List.getElem?_eq_none (by rw [gX]; lia)]
def aCO (σ : St) : Nat:=match σ[4]? with
 | some (some (V.int z))=>z.toNat
 | _=>0
theorem nbO : (["others"] : List Str).Nodup:=by decide +kernel
def kA (H : Hp) (ol : Addr) (n : Nat) (ts : Ts) : Prop:=∃ bs : List Addr,H ol = some (.lst (bs.map V.ref))∧Holds H bs n (fun h=>.lst (NV (outN n ts h)))
theorem kA.same {H H' : Hp} {ol : Addr} {n : Nat} {ts : Ts} (x : kA H ol n ts) (e : Same H H') : kA H' ol n ts:=let ⟨bs,a,b⟩:=x; ⟨bs,e _ _ a,b.mono fun _ _ z=>e _ _ z⟩
theorem aAS {as : List Addr} {i : Nat} {x : V} (h : (as.map V.ref)[i]? = some x) : i < as.length∧x = .ref (as.getD i 0):=by
 rw [List.getElem?_map] at h
 cases e : as[i]? with
 | none=>rw [e] at h; cases h
 | some a =>
  rw [e] at h
  refine ⟨(List.getElem?_eq_some_iff.mp e).1,?_⟩
  rw [List.getD_eq_getElem?_getD,e]
  exact (Option.some.inj h).symm
section
variable {P : Program} {w : World} {K : PySem.W.Frag} {mg : Str→Option Value} {base : Heap}
theorem gZ : aS ["out_lists", "start", "distances", "reached", "at", "house", "other"] ["out_lists", "start"] (aH wK):=⟨rfl,rfl,rfl,by decide +kernel,rfl,by decide +kernel,by decide +kernel⟩
def mN : Sp:=fun vs H Q _=>∃ (ol : Addr) (n s : Nat) (ts : Ts),vs = [.ref ol,.int s]∧Fine n ts∧s < n∧kA H ol n ts ∧
 ∀ (r : Addr) (H' : Hp),Same H H'→H r = none→H' r = some (.lst (NV ((List.range n).map (far ts s))))→Q (.ref r) H'
theorem aBz {f : Addr} {fd : FuncData} (F : Fun K "distances_from" "distances_from" wK f fd) (B : Bl mg) : FnOk P w K mg base CX0 1 f fd ["out_lists", "start"] mN:=by
 refine F.ok gZ (fun vs H Q E h=>?_) (fun cdv A outer s H vs Q E hr h=>?_)
 ·obtain ⟨ol,n,s,ts,rfl,_⟩:=h
  rfl
 ·obtain ⟨ol,n,st,ts,rfl,fi,hs,O,k⟩:=h
  have n1:=fi.n1
  have n2:=fi.n2
  refine' ⟨_,aF (cN (i:=2) (g:=aQ 0) (NB:=["others"]) (src:=[none]) (bB (by kernel_rfl)) rfl (bG (pv 0)) ?g ?t ?e gZ.nd rfl rfl rfl)
   (aF (eI aG (lQ (pv 2) (pv 1) iV))
   (aF (aV (i:=3) gZ.nd rfl (Or.inl rfl) (cC (aA (pv 1) aB)))
   (aF (aV (i:=4) gZ.nd rfl (Or.inl rfl) aG)
   (aF (qA PassesOwn.never (aT kH (pv 4) (aO aR (by rfl) B.len PySem.boot_len (aA (pv 3) aB)) (aX _))
    (aF (aV (i:=5) gZ.nd rfl (Or.inl rfl) (bH bE (pv 3) (pv 4) (fun _ _=>rfl)))
    (aF (gC PassesOwn.never rfl (bG (bH bE (pv 0) (pv 5) (fun _ _=>rfl))) (aL (i:=6) gZ.nd rfl (Or.inl rfl))
     (aJ (bV (aT aB0 (bH bE (pv 2) (pv 6) (fun _ _=>rfl)) pY (aX _))
      (aF (eI (bA dA (bH bE (pv 2) (pv 5) (fun _ _=>rfl)) aG) (lQ (pv 2) (pv 6) iV))
      (aJ (eW (lW PySem.F.plainAttrs_list PySem.F.slot_list_append PySem.F.type_list_append hW (pv 3) (aA (pv 6) aB))))) bQ)))
    (aJ (aBX (i:=4) gZ.nd rfl (Or.inl rfl) aG aBY)))))
   (aJ (aW (pv 2))))))),?_⟩
  case g=>exact fun cl C s₃ H₃ fp=>aL (i:=0) nbO rfl (Or.inl rfl) (Or.inr rfl)
  case t=>exact fun cl C s₃ H₃ fp=>cE
  case e=>exact fun cl C s₃ H₃ fp=>pY
  obtain ⟨bs,hol,hbl,hbs⟩:=id O
  refine ⟨_,rfl,ol,rfl,⟨_,SqL.of hol⟩,fun D hD=>?_⟩
  have nol : ol ≠ D:=aM hol hD
  refine cQ (xs:=bs.map V.ref) (fun i ys σ H2=>(∃ a,σ = [a])∧ys = List.replicate i V.non∧H2 = upd H D (.lst ys)) ⟨⟨_,rfl⟩,rfl,rfl⟩ (fun i ys σ H2 _ ⟨_,_,e⟩=>by rw [e]; exact SqL.of (by rw [aI nol]; exact hol)) ?_ ?_
  ·rintro i x ys σ H2 Kt Kf hx ⟨⟨a,rfl⟩,rfl,rfl⟩ kt kf
   have hi:=(aAS hx).1
   refine kt _ _ _ aD ?_ ⟨⟨_,rfl⟩,?_,by rw [kG]⟩
   ·rw [List.length_replicate]
    exact Nat.lt_of_lt_of_le hi (by rw [hbl]; exact Nat.le_trans n2 (by decide))
   ·rw [List.replicate_succ']
  ·rintro ys σ H2 ⟨_,rfl,rfl⟩
   rw [List.length_map,hbl]
   refine ⟨_,rfl,_,rfl,D,_,st,st,rfl,rfl,aD,by rw [List.length_replicate]; exact iL hs,?_⟩
   rw [kG,wL hs]
   refine ⟨_,rfl,by show 1 ≤ sizeLine; decide,fun R hR=>?_⟩
   have nDR : D ≠ R:=aM (H:=upd H D (.lst (rowV n [st] (fun _=>0)))) aD hR
   have hR0 : H R = none:=by rw [aI nDR.symm] at hR; exact hR
   refine qC (fun σ H2=>∃ (i : Nat) (Rs : List Nat) (f : Nat→Nat),i ≤ Rs.length∧Bfs n ts st i Rs f∧(∃ a b,σ = [some (.ref ol),some (.int st),some (.ref D),some (.ref R),some (.int (i : Int)),a,b])∧Same H H2∧H2 D = some (.lst (rowV n Rs f))∧H2 R = some (.lst (NV Rs)))
    (fun σ _=>n - aCO σ) ⟨0,[st],fun _=>0,Nat.zero_le _,Bfs.start hs,⟨none,none,rfl⟩,bR (aE hD) hR0,?_,aD⟩ ?_ ?_
   ·rw [aI nDR,aD]
   ·rintro σ H2 ⟨i,Rs,f,hi,Bf,⟨a,b,rfl⟩,sm,hD2,hR2⟩
    have hRn : Rs.length ≤ n:=dG Bf.nd Bf.lt
    refine ⟨_,rfl,_,rfl,R,_,rfl,.inl (SqL.of hR2),_,_,rfl,rfl,_,rfl,?_⟩
    rw [cK]
    by_cases hin : i < Rs.length
    ·rw [show decide ((i : Int) < ((Rs.length : Nat) : Int)) = true by simp; lia]
     refine iteT ?_
     have hu : Rs[i]? = some Rs[i]:=List.getElem?_eq_getElem hin
     generalize Rs[i] = u at hu
     have hun : u < n:=Bf.lt u (List.mem_of_getElem? hu)
     have huR : (NV Rs)[i]? = some (.int (u : Int)):=by rw [List.getElem?_map,hu]; rfl
     refine ⟨_,rfl,_,rfl,R,_,_,_,rfl,rfl,SqL.of hR2,bD huR,?_⟩
     have hb1 : (bs.map V.ref)[u]? = some (.ref (bs.getD u 0)):=by
      rw [List.getElem?_map,List.getD_eq_getElem?_getD,List.getElem?_eq_getElem (by rw [hbl]; exact hun)]; rfl
     have hb2:=sm _ _ (hbs _ hun)
     refine ⟨_,rfl,_,rfl,ol,_,_,_,rfl,rfl,SqL.of (sm _ _ hol),bD hb1,_,rfl,⟨_,SqL.of hb2⟩,?_⟩
     have nbD : bs.getD u 0 ≠ D:=aM (hbs _ hun) hD
     have nbR : bs.getD u 0 ≠ R:=aM (hbs _ hun) hR0
     refine lD (K:=K) (xs:=NV (outN n ts u)) (fun j σ H3=>∃ (Rs' : List Nat) (f' : Nat→Nat),Bfs n ts st i Rs' f'∧Rs'[i]? = some u∧(∀ v∈(outN n ts u).take j,v∈Rs'∧f' v ≤ f' u + 1) ∧
      (∃ b,σ = [some (.ref ol),some (.int st),some (.ref D),some (.ref R),some (.int (i : Int)),some (.int (u : Int)),b])∧Same H H3∧H3 D = some (.lst (rowV n Rs' f'))∧H3 R = some (.lst (NV Rs')))
      ⟨Rs,f,Bf,hu,fun v hv=>by simp at hv,⟨_,rfl⟩,sm,hD2,hR2⟩ (fun j σ H3 _ ⟨_,_,_,_,_,_,sm3,_⟩=>SqL.of (sm3 _ _ (hbs _ hun))) ?_ ?_
     ·rintro j x σ H3 hx ⟨Rs',f',Bf',hu',dn,⟨b',rfl⟩,sm3,hD3,hR3⟩
      rw [List.getElem?_map] at hx
      cases hv : (outN n ts u)[j]? with
      | none=>rw [hv] at hx; cases hx
      | some v =>
       rw [hv] at hx
       obtain rfl : V.int ((v : Nat) : Int) = x:=Option.some.inj hx
       have hvm : v∈outN n ts u:=List.mem_of_getElem? hv
       have hvn : v < n:=aBm fi hun hvm
       have tuv : T ts u v:=(dP fi hun).mp hvm
       have tk : (outN n ts u).take (j + 1) = (outN n ts u).take j ++ [v]:=by rw [List.take_add_one,hv]; rfl
       have hun' : u∈Rs':=List.mem_of_getElem? hu'
       refine ⟨_,rfl,_,rfl,D,_,_,_,rfl,rfl,SqL.of hD3,bD (gY hvn),rfl,_,rfl,?_⟩
       by_cases hvR : v∈Rs'
       ·rw [if_pos hvR]
        refine iteF ⟨Rs',f',Bf',hu',fun x hx=>?_,⟨_,rfl⟩,sm3,hD3,hR3⟩
        rw [tk] at hx
        rcases List.mem_append.mp hx with z | z
        ·exact dn x z
        ·simp at z; subst z; exact ⟨hvR,Bf'.bd u hu' _ hvR⟩
       ·rw [if_neg hvR]
        refine iteT ?_
        have hg2 : (rowV n Rs' f')[u]? = some (.int ((f' u : Nat) : Int)):=by rw [gY hun,if_pos hun']
        refine ⟨_,rfl,_,rfl,D,_,_,_,rfl,rfl,SqL.of hD3,bD hg2,_,_,rfl,rfl,_,rfl,_,rfl,D,_,_,_,rfl,rfl,hD3,by rw [gX]; exact iL hvn,?_⟩
        have e1 : (rowV n Rs' f').set v (.int (((f' u : Nat) : Int) + 1)) = rowV n (Rs' ++ [v]) (put f' v (f' u + 1)):=by
         rw [show ((f' u : Nat) : Int) + 1 = ((f' u + 1 : Nat) : Int) by lia,aAs hvn]
        rw [e1]
        have hR4 : (upd H3 D (.lst (rowV n (Rs' ++ [v]) (put f' v (f' u + 1))))) R = some (.lst (NV Rs')):=by rw [aI nDR.symm]; exact hR3
        have hlen' : Rs'.length ≤ n:=dG Bf'.nd Bf'.lt
        refine ⟨_,rfl,.inl ⟨rfl,_,SqL.of hR4⟩,_,rfl,R,_,_,rfl,rfl,hR4,by rw [cK]; exact Nat.lt_of_lt_of_le (show Rs'.length < 33 by lia) (by decide),?_⟩
        have hi' : i < Rs'.length:=(List.getElem?_eq_some_iff.mp hu').1
        have nuv : u ≠ v:=fun z=>hvR (z ▸ hun')
        refine ⟨Rs' ++ [v],put f' v (f' u + 1),Bf'.add hu' hvn tuv hvR,by rw [List.getElem?_append_left hi']; exact hu',fun x hx=>?_,⟨_,rfl⟩,bR (bR sm3 hD) hR0,?_,?_⟩
        ·rw [dR nuv]
         rw [tk] at hx
         rcases List.mem_append.mp hx with z | z
         ·obtain ⟨q1,q2⟩:=dn x z
          exact ⟨List.mem_append_left _ q1,by rw [dR (fun (z : x = v)=>hvR (z ▸ q1))]; exact q2⟩
         ·simp at z; subst z
          exact ⟨by simp,by rw [gN]; exact Nat.le_refl _⟩
        ·rw [aI nDR,aD]
        ·rw [aD]; show _ = some (HO.lst (NV (Rs' ++ [v]))); rw [show NV (Rs' ++ [v]) = NV Rs' ++ [.int (v : Int)] by unfold NV; rw [List.map_append]; rfl]
     ·rintro σ H3 ⟨Rs',f',Bf',hu',dn,⟨b',rfl⟩,sm3,hD3,hR3⟩
      rw [cK,List.take_length] at dn
      have hi' : i < Rs'.length:=(List.getElem?_eq_some_iff.mp hu').1
      have hlen' : Rs'.length ≤ n:=dG Bf'.nd Bf'.lt
      refine ⟨_,rfl,_,_,rfl,rfl,⟨⟨i + 1,Rs',f',hi',Bf'.next hu' (fun v t=>dn v ((dP fi hun).mpr t)),⟨_,_,rfl⟩,sm3,hD3,hR3⟩,?_⟩⟩
      show n - ((i : Int) + 1).toNat < n - (i : Int).toNat
      lia
    ·rw [show decide ((i : Int) < ((Rs.length : Nat) : Int)) = false by rw [decide_eq_false_iff_not]; lia]
     have e : rowV n Rs f = NV ((List.range n).map (far ts st)):=by
      unfold rowV NV
      rw [List.map_map]
      refine List.map_congr_left fun x hx=>?_
      obtain ⟨q1,q2⟩:=Bf.done fi (by lia) (List.mem_range.mp hx)
      rw [if_pos q1,q2]; rfl
     rw [e] at hD2
     refine iteF ⟨_,rfl,k D H2 sm hD hD2⟩
   ·rintro σ H2 Q1 Q2 imp ⟨v,e1,v2,e2,p,ys,e3,e4,i1,i2,e5,e6,kk,e7,q⟩
    exact ⟨v,e1,v2,e2,p,ys,e3,e4,i1,i2,e5,e6,kk,e7,imp _ _ q⟩
end
end K12
namespace K12
open PySem L2 NetM
theorem aCP : (["row"] : List Str).Nodup:=by decide +kernel
section
variable {P : Program} {w : World} {K : PySem.W.Frag} {mg : Str→Option Value} {base : Heap}
theorem aBA : aS ["distances"] ["distances"] (aH rM):=⟨rfl,rfl,rfl,by decide +kernel,rfl,by decide +kernel,by decide +kernel⟩
def nV : Sp:=fun vs H Q _=>∃ (l : Addr) (ds : List Addr) (n : Nat) (o : Nat→List V),vs = [.ref l]∧H l = some (.lst (ds.map V.ref))∧n ≤ 32∧Holds H ds n (fun j=>.lst (o j))∧(∀ j,j < n→∀ x∈o j,∃ i,x = .int i)∧∀ H',Same H H'→Q .non H'
theorem aAt {f : Addr} {fd : FuncData} (F : Fun K "check_reached" "check_reached" rM f fd) (B : Bl mg) : FnOk P w K mg base CX0 1 f fd ["distances"] nV:=by
 refine F.ok aBA (fun vs H Q E h=>?_) (fun cdv A outer s H vs Q E hr h=>?_)
 ·obtain ⟨l,ds,n,o,rfl,_⟩:=h
  rfl
 ·obtain ⟨l,ds,n,o,rfl,hl,n2,hh,hx,k⟩:=h
  refine' ⟨_,aJ (bV (cP (aO (yG rfl) (by rfl) B.any PyProof.Rows.boot_any (aA ?c aB))) cG bQ),?_⟩
  case c =>
   refine' bJ (g:=aQ 0) (te:=tOp (rIn K false) (tC .non) (tVar 0)) (NB:=["row"]) (src:=[none]) (bB (by kernel_rfl)) rfl (bG (pv 0)) ?g ?t ?e
   case g=>exact fun cl C s₃ H₃ fp=>aL (i:=0) aCP rfl (Or.inl rfl) (Or.inr rfl)
   case t=>exact fun cl C s₃ H₃ fp=>cE
   case e=>exact fun cl C s₃ H₃ fp=>cW jL pY (pv 0) rfl
  refine ⟨_,rfl,l,rfl,⟨_,SqL.of hl⟩,fun D hD=>?_⟩
  have nl : l ≠ D:=aM hl hD
  refine cQ (xs:=ds.map V.ref) (fun i ys σ H2=>(∃ a,σ = [a])∧ys = (List.replicate i false).map V.bl∧H2 = upd H D (.lst ys)) ⟨⟨_,rfl⟩,rfl,rfl⟩ (fun i ys σ H2 _ ⟨_,_,e⟩=>by rw [e]; exact SqL.of (by rw [aI nl]; exact hl)) ?_ ?_
  ·rintro i x ys σ H2 Kt Kf hxi ⟨⟨a,rfl⟩,rfl,rfl⟩ kt kf
   obtain ⟨hi,rfl⟩:=aAS hxi
   rw [hh.1] at hi
   have hd:=hh.2 i hi
   have nd : ds.getD i 0 ≠ D:=aM hd hD
   have q1 : (o i).all dD = true:=List.all_eq_true.mpr fun x hx'=>by obtain ⟨z,rfl⟩:=hx i hi x hx'; rfl
   have q2 : inV .non (o i) = false:=by
    unfold inV
    rw [List.any_eq_false]
    intro x hx'
    obtain ⟨z,rfl⟩:=hx i hi x hx'
    exact fun z=>by cases z
   refine ⟨_,rfl,_,_,rfl,.inl (SqL.of (by rw [aI nd]; exact hd)),rfl,q1,?_⟩
   refine kt _ _ _ aD ?_ ⟨⟨_,rfl⟩,?_,by rw [kG]⟩
   ·rw [List.length_map,List.length_replicate]
    exact Nat.lt_of_lt_of_le hi (Nat.le_trans n2 (by decide))
   ·rw [List.replicate_succ',List.map_append,q2]; rfl
  ·rintro ys σ H2 ⟨_,rfl,rfl⟩
   refine ⟨D,_,rfl,SqL.of aD,_,rfl,?_⟩
   have e : (List.replicate (ds.map V.ref).length false).any id = false:=by
    rw [List.any_eq_false]; intro x hx'; rw [(List.mem_replicate.mp hx').2]; decide
   rw [e]
   exact iteF (k _ (aE hD))
end
end K12
namespace K12
open PySem L2 NetM
theorem nb2 : (["one", "other"] : List Str).Nodup:=by decide +kernel
theorem aCQ : (["house", "many", "ties"] : List Str).Nodup:=by decide +kernel
theorem nbHS : (["house", "self"] : List Str).Nodup:=by decide +kernel
def fV (p Pt : Addr) (H H' : Hp) : Prop:=∀ b o,H b = some o→b ≠ p→b ≠ Pt→H' b = some o
theorem cT.mono {p Pt : Addr} {H H' : Hp} {l : Addr} {n : Nat} {zs : Zs} {C dx : Addr} {fs : List (Str × V)} (h : cT H l n zs) (e : fV p Pt H H') (hp : H p = some (.ins C dx fs)) (tb : Tab Pt H) : cT H' l n zs :=
 ⟨h.fine,e _ _ h.at_ (cY h.at_ hp (by intro z; cases z)) (tb.not h.at_ (by intro ps z; cases z)),fun z hz=>e _ _ (h.po z hz) (cY (h.po z hz) hp (by intro z; cases z)) (tb.not (h.po z hz) (by intro ps z; cases z))⟩
theorem Tab.mono {p Pt C dx : Addr} {fs : List (Str × V)} {H H' : Hp} (t : Tab Pt H) (e : ∀ b o,H b = some o→b ≠ p→H' b = some o) (hp : H p = some (.ins C dx fs)) : Tab Pt H':=by
 rcases t with z | ⟨c,z,y⟩
 ·exact .inl (e _ _ z (cY z hp (by intro q; cases q)))
 ·exact .inr ⟨c,e _ _ z (cY z hp (by intro q; cases q)),e _ _ y (cY y hp (by intro q; cases q))⟩
theorem Tab.full {Pt : Addr} {H : Hp} (t : Tab Pt H) : H Pt ≠ none:=by
 rcases t with z | ⟨c,z,y⟩ <;> rw [z] <;> intro q <;> cases q
theorem fV.free {p Pt r : Addr} {H H' : Hp} (s : fV p Pt H H') (hp : H' p ≠ none) (tb : Tab Pt H') (h : H' r = none) : H r = none:=by
 cases z : H r with
 | none=>rfl
 | some o =>
  by_cases e1 : r = p
  ·subst e1; exact absurd h hp
  ·by_cases e2 : r = Pt
   ·subst e2; exact absurd h tb.full
   ·rw [s r o z e1 e2] at h; cases h
theorem aCR {σ : St} {H : Hp} {k : List V→Hp→Prop} (h : k [] H) : tNil σ H k:=h
theorem gA {H : Hp} {p : Addr} {o : HO} (h : H p = some o) : H p ≠ none:=by rw [h]; intro z; cases z
section
variable {P : Program} {w : World} {K : PySem.W.Frag} {mg : Str→Option Value} {base : Heap}
theorem aCg : aS ["self", "many", "ties"] ["self", "many", "ties"] (aH pT):=⟨rfl,rfl,rfl,by decide +kernel,rfl,by decide +kernel,by decide +kernel⟩
def kB (C Pt : Addr) : Sp:=fun vs H Q E=>∃ (p dx : Addr) (n : Nat) (l : Addr) (zs : Zs),vs = [.ref p,.int n,.ref l]∧H p = some (.ins C dx [])∧cT H l n zs∧Tab Pt H ∧
  ∀ H',cF C H' (fun a=>H a = none) p n (zp zs)→Tab Pt H'→fV p Pt H H'→Q .non H'
theorem aBB {f C Pt : Addr} {fd : FuncData} (F : Fun K "__init__" "Net.__init__" pT f fd) (T : NT K mg C) (B : Bl mg) (CT : Cal P w K mg base CX0 6 "check_ties" ["many", "ties"] fZ) (CB : Cal P w K mg base CX0 1 "check_balance" ["many", "ties"] fZ)
  (HO' : Cal P w K mg base CX0 1 "houses_out" ["many", "ties", "house"] (mL Pt)) (DF : Cal P w K mg base CX0 1 "distances_from" ["out_lists", "start"] mN) (CR : Cal P w K mg base CX0 1 "check_reached" ["distances"] nV) :
  FnOk P w K mg base CX0 7 f fd ["self", "many", "ties"] (kB C Pt):=by
 refine F.ok aCg (fun vs H Q E h=>?_) (fun cdv A outer s H vs Q E hr h=>?_)
 ·obtain ⟨p,dx,n,l,zs,rfl,_⟩:=h
  rfl
 ·have hr1 : Room 1 _:=hr.mono (by decide)
  refine' ⟨_,aF (eW (aN CT hr aK (aA (pv 1) (aA (pv 2) aB))))
   (aF (eW (aN CB hr1 aK (aA (pv 1) (aA (pv 2) aB))))
   (aF (lT (pv 0) (pv 1) rfl)
   (aF (lT (pv 0) (aO mH (by rfl) B.sorted PyProof.Rows.boot_sorted (aA ?c1 aB)) rfl)
   (aF (lT (pv 0) ?c2 rfl)
   (aF (lT (pv 0) ?c3 rfl)
   (aJ (eW (aN CR hr1 aK (aA (fH (pv 0) rfl) aB))))))))),?_⟩
  case c1 =>
   refine' bJ (g:=gTup K 2 (cU (aQ 0) (cU (aQ 1) gNil))) (te:=tTup (bK (tVar 0) (bK (tVar 1) tNil))) (NB:=["one", "other"]) (src:=[none,none]) (bB (by kernel_rfl)) rfl (bG (pv 2)) ?g ?t ?e
   case g=>exact fun cl C s₃ H₃ fp=>dF (n:=2) rfl (bC (aL (i:=0) nb2 rfl (Or.inl rfl) (Or.inr rfl)) (bC (aL (i:=1) nb2 rfl (Or.inl rfl) (Or.inr rfl)) cR))
   case t=>exact fun cl C s₃ H₃ fp=>cE
   case e=>exact fun cl C s₃ H₃ fp=>bF (aA (pv 0) (aA (pv 1) aB))
  case c2 =>
   refine' bJ (g:=aQ 0) (te:=lU (mL Pt) [] E0 (bK (tVar 1) (bK (tVar 2) (bK (tVar 0) tNil)))) (NB:=["house", "many", "ties"]) (src:=[none,some 1,some 2]) (bB (by kernel_rfl)) rfl (bZ rfl B.range (aA (pv 1) aB)) ?g ?t ?e
   case g=>exact fun cl C s₃ H₃ fp=>aL (i:=0) aCQ rfl (Or.inl rfl) (Or.inr rfl)
   case t=>exact fun cl C s₃ H₃ fp=>cE
   case e=>exact fun cl C s₃ H₃ fp=>aN HO' hr1 aK (aA (pv 1) (aA (pv 2) (aA (pv 0) aB)))
  case c3 =>
   refine' bJ (g:=aQ 0) (te:=lU mN [] E0 (bK (tFld K (tVar 1) "out_lists") (bK (tVar 0) tNil))) (NB:=["house", "self"]) (src:=[none,some 0]) (bB (by kernel_rfl)) rfl (bZ rfl B.range (aA (pv 1) aB)) ?g ?t ?e
   case g=>exact fun cl C s₃ H₃ fp=>aL (i:=0) nbHS rfl (Or.inl rfl) (Or.inr rfl)
   case t=>exact fun cl C s₃ H₃ fp=>cE
   case e=>exact fun cl C s₃ H₃ fp=>aN DF hr1 aK (aA (fH (pv 1) rfl) (aA (pv 0) aB))
  obtain ⟨p,dx,n,l,zs,rfl,hp,TT,tb,k⟩:=h
  have fi:=TT.fine
  have n1:=fi.n1
  have n2:=fi.n2
  have hlen : zs.length ≤ 256:=by have:=fi.len; rw [aP] at this; exact this
  refine ⟨_,rfl,_,rfl,n,l,zs,rfl,TT,fun H1 s1=>?_⟩
  refine ⟨_,rfl,_,rfl,n,l,zs,rfl,TT.same s1,fun H2 s2=>?_⟩
  have s12 : Same H H2:=s1.trans s2
  refine ⟨_,rfl,_,rfl,p,C,dx,[],rfl,s12 _ _ hp,T.cl,T.nH,(by show 0 < 1000; decide),?_⟩
  let G1 : Hp:=upd H2 p (.ins C dx (putF "house_count" (.int n) []))
  have d1 : fV p Pt H G1:=fun b o e h1 _=>by show upd _ _ _ _ = _; rw [aI h1]; exact s12 _ _ e
  have g1p : G1 p = some (.ins C dx (putF "house_count" (.int n) [])):=aD
  have TT1 : cT G1 l n zs:=TT.mono d1 hp tb
  have tb1 : Tab Pt G1:=tb.mono (fun b o e h1=>by show upd _ _ _ _ = _; rw [aI h1]; exact s12 _ _ e) hp
  refine ⟨_,rfl,l,rfl,⟨_,SqL.of TT1.at_⟩,fun D hD=>?_⟩
  refine aAq (fun y=>y) (fun σ=>∃ a b,σ = [a,b]) TT1.at_ TT1.po hD (by lia) ⟨_,_,rfl⟩ ?_ ?_
  ·rintro z σ H3 R Kf hz ⟨a,b,rfl⟩ ha kk
   refine ⟨_,_,rfl,SqT.of ha,rfl,_,_,rfl,_,_,rfl,rfl,?_⟩
   exact ⟨_,rfl,_,rfl,by show 2 ≤ sizeLine; decide,fun t ht=>kk _ _ ⟨_,_,rfl⟩ ht⟩
  ·intro zs2 H3 sm hD3 po3 ez fr2
   rw [List.map_id'] at ez
   have hl2 : zs2.length = zs.length:=by rw [← aP,ez,aP]
   refine aCR ?_
   refine uN hD3 po3 (by lia) (fun u hu=>by have:=(fi.rg u (ez ▸ hu)).2; lia) fun tl zs3 htl pm ord=>?_
   have htlN : H tl = none:=d1.free (gA g1p) tb1 (sm.free htl)
   have fr3 : ∀ z∈zs3,H z.1 = none:=fun z hz=>d1.free (gA g1p) tb1 (fr2 z (pm.mem_iff.mp hz))
   have e3p : H3 p = some (.ins C dx (putF "house_count" (.int n) [])):=sm _ _ g1p
   have nptl : p ≠ tl:=aM e3p htl
   refine ⟨_,rfl,p,C,dx,_,rfl,by rw [aI nptl]; exact e3p,T.cl,T.nT,by show 1 < 1000; decide,?_⟩
   let G2 : Hp:=upd (upd H3 tl (.lst (zr zs3))) p (.ins C dx (putF "tie_list" (.ref tl) (putF "house_count" (.int n) [])))
   have q2 : ∀ b o,H3 b = some o→b ≠ p→G2 b = some o:=fun b o e h1=>by
    show upd _ _ _ _ = _
    rw [aI h1,aI (aM e htl)]; exact e
   have d2 : fV p Pt H G2:=fun b o e h1 h2=>q2 _ _ (sm _ _ (d1 _ _ e h1 h2)) h1
   have g2t : G2 tl = some (.lst (zr zs3)):=by show upd _ _ _ _ = _; rw [aI nptl.symm,aD]
   have g2o : PO G2 zs3:=fun z hz=>q2 _ _ (po3 z (pm.mem_iff.mp hz)) (cY (po3 z (pm.mem_iff.mp hz)) e3p (by intro z; cases z))
   have g2p : G2 p = some (.ins C dx (putF "tie_list" (.ref tl) (putF "house_count" (.int n) []))):=aD
   have TT2 : cT G2 l n zs:=TT.mono d2 hp tb
   have tb2 : Tab Pt G2:=tb1.mono (fun b o e h1=>q2 _ _ (sm _ _ e) h1) g1p
   refine ⟨_,rfl,n,rfl,by lia,by lia,fun D2 hD2=>?_⟩
   refine dM (n:=n) (lo:=0) (fun i ys σ H4=>(∃ a,σ = [a,some (.int n),some (.ref l)])∧∃ bs : List Addr,ys = bs.map V.ref∧(∀ b∈bs,H b = none)∧Holds H4 bs i (fun h=>.lst (NV (outN n (zp zs) h)))∧fU Pt G2 H4∧Tab Pt H4∧H4 D2 = some (.lst ys)∧∀ b∈bs,b ≠ D2)
    ⟨⟨_,rfl⟩,[],rfl,(fun _ h=>nomatch h),Holds.nil,fU.of (aE hD2),tb2.same (aE hD2),aD,(fun _ h=>nomatch h)⟩ ?_ ?_
   ·rintro i ys σ H4 Kt Kf hi ⟨⟨a,rfl⟩,bs,rfl,hbN,hb,sm4,tb4,hD4,hbD⟩ kt kf
    have TT4 : cT H4 l n zs:=TT2.mono (p:=p) (fun b o e _ h2=>sm4 _ _ e h2) g2p tb2
    have e4p:=sm4 _ _ g2p (tb2.not g2p (by intro ps z; cases z))
    refine ⟨_,rfl,_,rfl,_,rfl,n,l,i,zs,by rw [Int.zero_add]; rfl,hi,TT4,tb4,fun r H5 t5 st5 hr4 hr5=>?_⟩
    have hrN : H r = none:=fV.free (fun b o e h1 h2=>sm4 _ _ (d2 _ _ e h1 h2) h2) (gA e4p) tb4 hr4
    have e5D : H5 D2 = some (.lst (bs.map V.ref)):=st5 _ _ hD4 (tb4.not hD4 (by intro ps z; cases z))
    have nrD : r ≠ D2:=by rintro rfl; rw [hD4] at hr4; cases hr4
    have keepD : ∀ b o ys',H5 b = some o→b ≠ D2→(upd H5 D2 ys') b = some o:=fun b o ys' e h=>by rw [aI h]; exact e
    refine kt _ _ _ e5D (by rw [List.length_map,hb.1]; exact Nat.lt_of_lt_of_le hi (Nat.le_trans n2 (by decide))) ⟨⟨_,rfl⟩,bs ++ [r],by rw [List.map_append]; rfl,?_,?_,?_,?_,aD,?_⟩
    ·intro b hb'
     rcases List.mem_append.mp hb' with z | z
     ·exact hbN b z
     ·rw [List.mem_singleton.mp z]; exact hrN
    ·refine Holds.snoc (hb.mono fun j hj e=>?_) (keepD _ _ _ hr5 nrD)
     refine keepD _ _ _ (st5 _ _ e (tb4.not e (by intro ps z; cases z))) (hbD _ ?_)
     rw [List.getD_eq_getElem?_getD,List.getElem?_eq_getElem (by rw [hb.1]; exact hj)]; exact List.getElem_mem _
    ·intro b o e h
     exact keepD _ _ _ (st5 _ _ (sm4 _ _ e h) h) (aM e hD2)
    ·rcases t5 with z | ⟨c,z,y⟩
     ·exact .inl (keepD _ _ _ z (cY z e5D (by intro q; cases q)))
     ·exact .inr ⟨c,keepD _ _ _ z (cY z e5D (by intro q; cases q)),keepD _ _ _ y (cY y e5D (by intro q; cases q))⟩
    ·intro b hb'
     rcases List.mem_append.mp hb' with z | z
     ·exact hbD b z
     ·rw [List.mem_singleton.mp z]; exact nrD
   ·rintro ys σ H4 ⟨_,bs,rfl,hbN,hb,sm4,tb4,hD4,hbD⟩
    have e4p : H4 p = some (.ins C dx (putF "tie_list" (.ref tl) (putF "house_count" (.int n) []))):=sm4 _ _ g2p (tb2.not g2p (by intro ps z; cases z))
    have hD2N : H D2 = none:=d2.free (gA g2p) tb2 hD2
    refine ⟨_,rfl,p,C,dx,_,rfl,e4p,T.cl,T.nO,by have h1:=dB "tie_list" (V.ref tl) (putF "house_count" (V.int n) []); have h2:=dB "house_count" (V.int n) []; simp at h2; lia,?_⟩
    let G3 : Hp:=upd H4 p (.ins C dx (putF "out_lists" (.ref D2) (putF "tie_list" (.ref tl) (putF "house_count" (.int n) []))))
    have q3 : ∀ b o,H4 b = some o→b ≠ p→G3 b = some o:=fun b o e h1=>by show upd _ _ _ _ = _; rw [aI h1]; exact e
    have g3p : G3 p = some (.ins C dx (putF "out_lists" (.ref D2) (putF "tie_list" (.ref tl) (putF "house_count" (.int n) [])))):=aD
    have d3 : fV p Pt H G3:=fun b o e h1 h2=>q3 _ _ (sm4 _ _ (d2 _ _ e h1 h2) h2) h1
    have tb3 : Tab Pt G3:=tb4.mono q3 e4p
    have hb3 : Holds G3 bs n (fun h=>.lst (NV (outN n (zp zs) h))):=hb.mono fun j hj e=>q3 _ _ e (cY e e4p (by intro z; cases z))
    have g3D : G3 D2 = some (.lst (bs.map V.ref)):=q3 _ _ hD4 (cY hD4 e4p (by intro z; cases z))
    have O3 : kA G3 D2 n (zp zs):=⟨bs,g3D,hb3⟩
    refine ⟨_,rfl,n,rfl,by lia,by lia,fun D3 hD3'=>?_⟩
    refine dM (n:=n) (lo:=0) (fun i ys σ H6=>(∃ a,σ = [a,some (.ref p)])∧∃ ds : List Addr,ys = ds.map V.ref∧(∀ b∈ds,H b = none)∧Holds H6 ds i (fun s=>.lst (NV ((List.range n).map (far (zp zs) s))))∧Same G3 H6∧H6 D3 = some (.lst ys)∧∀ b∈ds,b ≠ D3)
     ⟨⟨_,rfl⟩,[],rfl,(fun _ h=>nomatch h),Holds.nil,aE hD3',aD,(fun _ h=>nomatch h)⟩ ?_ ?_
    ·rintro i ys σ H6 Kt Kf hi ⟨⟨a,rfl⟩,ds,rfl,hdN,hd,sm6,hD6,hdD⟩ kt kf
     refine ⟨_,rfl,p,C,dx,_,_,rfl,sm6 _ _ g3p,T.cl,T.nO,by rw [bL,if_pos rfl],_,rfl,D2,n,i,zp zs,by rw [Int.zero_add]; rfl,fi,hi,O3.same sm6,fun r H7 st7 hr6 hr7=>?_⟩
     have e7D : H7 D3 = some (.lst (ds.map V.ref)):=st7 _ _ hD6
     have nrD : r ≠ D3:=by rintro rfl; rw [hD6] at hr6; cases hr6
     have hrN : H r = none:=fV.free (fun b o e h1 h2=>sm6 _ _ (d3 _ _ e h1 h2)) (gA (sm6 _ _ g3p)) (tb3.same sm6) hr6
     have keepD : ∀ b o ys',H7 b = some o→b ≠ D3→(upd H7 D3 ys') b = some o:=fun b o ys' e h=>by rw [aI h]; exact e
     refine kt _ _ _ e7D (by rw [List.length_map,hd.1]; exact Nat.lt_of_lt_of_le hi (Nat.le_trans n2 (by decide))) ⟨⟨_,rfl⟩,ds ++ [r],by rw [List.map_append]; rfl,?_,?_,?_,aD,?_⟩
     ·intro b hb'
      rcases List.mem_append.mp hb' with z | z
      ·exact hdN b z
      ·rw [List.mem_singleton.mp z]; exact hrN
     ·refine Holds.snoc (hd.mono fun j hj e=>?_) (keepD _ _ _ hr7 nrD)
      refine keepD _ _ _ (st7 _ _ e) (hdD _ ?_)
      rw [List.getD_eq_getElem?_getD,List.getElem?_eq_getElem (by rw [hd.1]; exact hj)]; exact List.getElem_mem _
     ·intro b o e
      exact keepD _ _ _ (st7 _ _ (sm6 _ _ e)) (aM e hD3')
     ·intro b hb'
      rcases List.mem_append.mp hb' with z | z
      ·exact hdD b z
      ·rw [List.mem_singleton.mp z]; exact nrD
    ·rintro ys σ H6 ⟨_,ds,rfl,hdN,hd,sm6,hD6,hdD⟩
     have e6p:=sm6 _ _ g3p
     refine ⟨_,rfl,p,C,dx,_,rfl,e6p,T.cl,T.nD,by have h1:=dB "tie_list" (V.ref tl) (putF "house_count" (V.int n) []); have h2:=dB "house_count" (V.int n) []; have h3:=dB "out_lists" (V.ref D2) (putF "tie_list" (V.ref tl) (putF "house_count" (V.int n) [])); simp at h2; lia,?_⟩
     have q4 : ∀ b o u,H6 b = some o→b ≠ p→(upd H6 p u) b = some o:=fun b o u e h1=>by rw [aI h1]; exact e
     refine ⟨_,rfl,p,C,dx,_,_,rfl,aD,T.cl,T.nD,by rw [bL,if_pos rfl],D3,ds,n,fun s=>NV ((List.range n).map (far (zp zs) s)),rfl,q4 _ _ _ hD6 (cY hD6 e6p (by intro z; cases z)),n2,hd.mono fun j hj e=>q4 _ _ _ e (cY e e6p (by intro z; cases z)),fun j hj x hx=>?_,fun H8 s8=>?_⟩
     ·obtain ⟨y,hy,rfl⟩:=List.mem_map.mp hx
      exact ⟨_,rfl⟩
     ·have up : ∀ b o,G3 b = some o→b ≠ p→H8 b = some o:=fun b o e h1=>s8 _ _ (q4 _ _ _ (sm6 _ _ e) h1)
      have hD3N : H D3 = none:=d3.free (gA g3p) tb3 hD3'
      have upT : ∀ b o,G2 b = some o→b ≠ p→b ≠ Pt→H8 b = some o:=fun b o e h1 h2=>up _ _ (q3 _ _ (sm4 _ _ e h2) h1) h1
      refine k H8 ⟨fi,dx,tl,D2,D3,s8 _ _ aD,hD2N,hD3N,⟨bs,up _ _ g3D (cY g3D g3p (by intro z; cases z)),hbN,hb3.mono fun j hj e=>up _ _ e (cY e g3p (by intro z; cases z))⟩,
       ⟨ds,s8 _ _ (q4 _ _ _ hD6 (cY hD6 e6p (by intro z; cases z))),hdN,hd.mono fun j hj e=>s8 _ _ (q4 _ _ _ e (cY e e6p (by intro z; cases z)))⟩,
       ⟨htlN,zs3,upT _ _ g2t nptl.symm (tb2.not g2t (by intro ps z; cases z)),fun z hz=>upT _ _ (g2o z hz) (cY (g2o z hz) g2p (by intro z; cases z)) (tb2.not (g2o z hz) (by intro ps z; cases z)),fr3,((show (zp zs3).Perm (zp zs2) from pm.map _).trans (List.Perm.of_eq ez)),ord⟩⟩ ?_ fun b o e h1 h2=>up _ _ (d3 _ _ e h1 h2) h1
      exact tb3.mono up g3p
end
end K12
namespace K12
open PySem L2 NetM
theorem iR {xs : List Nat} {x : Nat} : NV xs ++ [.int (x : Int)] = NV (xs ++ [x]):=by unfold NV; rw [List.map_append]; rfl
theorem wM {xs : List Nat} {i : Nat} {x : V} (h : (NV xs)[i]? = some x) : ∃ y,xs[i]? = some y∧x = .int (y : Int):=by
 unfold NV at h
 rw [List.getElem?_map] at h
 cases e : xs[i]? with
 | none=>rw [e] at h; cases h
 | some z=>rw [e] at h; exact ⟨z,rfl,(Option.some.inj h).symm⟩
end K12
namespace L2
open PySem PySem.Spec PyProof.Rows
section
variable {X : Cx}
def EqD (X : Cx) (H : Hp) (d : Nat) (x y : V) : Prop:=∀ (pins : List (Addr × Obj)) (s : Shared) (σ : St) (A : Around) (u v : Value),Inv X pins σ H s→A.units + d < cLine→RelV x u→RelV y v→SeqAt.EqAt A s u v true
theorem uQ {H : Hp} {i : Int} : EqD X H 0 (.int i) (.int i):=by
 intro pins s σ A u v I hu rx ry
 have h:=lV (A:=A) (s:=s) rx ry rfl rfl
 rw [show eqV (.int i) (.int i) = true by show decide (i = i) = true; simp] at h
 exact h
theorem pE {pins : List (Addr × Obj)} {s : Shared} {σ : St} {H : Hp} {A : Around} {d : Nat} {xs ys : List V} {us vs : List Value} (I : Inv X pins σ H s) (hu : A.units + d < cLine) (rx : Vals xs us) (ry : Vals ys vs)
  (he : ∀ i,i < xs.length→i < ys.length→EqD X H d (xs.getD i .non) (ys.getD i .non)) : ∀ j (h1 : j < us.toArray.size) (h2 : j < vs.toArray.size),SeqAt.EqAt A s us.toArray[j] vs.toArray[j] true:=by
 intro j h1 h2
 have j1 : j < xs.length:=by rw [rx.length]; simpa using h1
 have j2 : j < ys.length:=by rw [ry.length]; simpa using h2
 have e1 : xs[j]? = some (xs.getD j .non):=by rw [List.getD_eq_getElem?_getD,List.getElem?_eq_getElem j1]; rfl
 have e2 : ys[j]? = some (ys.getD j .non):=by rw [List.getD_eq_getElem?_getD,List.getElem?_eq_getElem j2]; rfl
 obtain ⟨u,hu1,ru⟩:=rx.get e1
 obtain ⟨v,hv1,rv⟩:=ry.get e2
 have eu : us.toArray[j] = u:=by
  have : us[j]? = some us.toArray[j]:=by simp at h1 ⊢
  rw [hu1] at this; exact (Option.some.inj this).symm
 have ev : vs.toArray[j] = v:=by
  have : vs[j]? = some vs.toArray[j]:=by simp at h2 ⊢
  rw [hv1] at this; exact (Option.some.inj this).symm
 rw [eu,ev]
 exact he j j1 j2 pins s σ A u v I hu ru rv
theorem rN {n : Nat} : (List.range n).all (fun _=>true) = true:=List.all_eq_true.mpr fun _ _=>rfl
theorem aBC {H : Hp} {d : Nat} {a b : Addr} {xs ys : List V} (ha : SqT X.K H a xs) (hb : SqT X.K H b ys) (hl : xs.length = ys.length) (he : ∀ i,i < xs.length→i < ys.length→EqD X H d (xs.getD i .non) (ys.getD i .non)) : EqD X H (d + 1) (.ref a) (.ref b):=by
 intro pins s σ A u v I hu rx ry
 obtain rfl : u = Value.ref a:=rx
 obtain rfl : v = Value.ref b:=ry
 by_cases hab : a = b
 ·subst hab; exact SeqAt.EqAt.same _
 obtain ⟨us,r1,p1,_⟩:=I.tuple ha
 obtain ⟨vs,r2,p2,_⟩:=I.tuple hb
 refine SeqAt.EqAt.of_refs hab ?_
 have h:=SeqAt.RcAt.tuples (A:=A) (s:=s) (l:=a) (b:=b) (e:=fun _=>true) (show s.heap.IsTuple a us.toArray from p1) (show s.heap.IsTuple b vs.toArray from p2) (by lia) (pE I (by show A.units + 1 + d < cLine; lia) r1 r2 he)
 rw [rN] at h
 have e : (us.toArray.size == vs.toArray.size) = true:=by simp only [List.size_toArray]; rw [← r1.length,← r2.length,hl]; simp
 rw [e] at h
 exact h
def aCS (X : Cx) (neg : Bool) (d : Nat) : R2:=fun x y H Q=>∃ p q xs ys,x = .ref p∧y = .ref q∧SqL X.K H p xs∧SqL X.K H q ys∧xs.length = ys.length∧(∀ i,i < xs.length→i < ys.length→EqD X H d (xs.getD i .non) (ys.getD i .non))∧Q (.bl (!neg)) H
theorem aBD {d : Nat} (hu : X.A.units + (d + 1) < cLine) : OpR X (compareOp .NotEq) (aCS X true d):=by
 intro pins s σ H x y v u Q I rx ry h
 obtain ⟨p,q,xs,ys,rfl,rfl,hp,hq,hl,he,k⟩:=h
 obtain rfl : v = Value.ref p:=rx
 obtain rfl : u = Value.ref q:=ry
 obtain ⟨us,r1,p1,_⟩:=I.list hp
 obtain ⟨vs,r2,p2,_⟩:=I.list hq
 refine SeqAt.RcNeAt.lists (e:=fun _=>true) p1.isList p2.isList (by simp only [List.size_toArray]; rw [← r1.length,← r2.length]; exact hl) (by lia) (pE I (by show X.A.units + 1 + d < cLine; lia) r1 r2 he) _ _ _ _ ⟨.bl _,H,I,rfl,?_⟩
 rw [rN]
 exact k
end
end L2
namespace K12
open PySem L2 NetM
abbrev sTwo : Stmt:=fY (top 17) 7
theorem aAT : (["one", "other", "self"] : List Str).Nodup:=by decide +kernel
section
variable {P : Program} {w : World} {K : PySem.W.Frag} {mg : Str→Option Value} {base : Heap}
theorem aCh : aS ["self"] ["self"] (aH wG):=⟨rfl,rfl,rfl,by decide +kernel,rfl,by decide +kernel,by decide +kernel⟩
def iS (C : Addr) : Sp:=fun vs H Q _=>∃ (L : Addr→Prop) (p : Addr) (n : Nat) (ts : Ts),vs = [.ref p]∧cF C H L p n ts∧Q (.int n) H
theorem aBE {f C : Addr} {fd : FuncData} (F : Fun K "many" "Net.many" wG f fd) (T : NT K mg C) : FnOk P w K mg base CX0 1 f fd ["self"] (iS C):=by
 refine F.ok aCh (fun vs H Q E h=>?_) (fun cdv A outer s H vs Q E hr h=>?_)
 ·obtain ⟨L,p,n,ts,rfl,_⟩:=h
  rfl
 ·obtain ⟨L,p,n,ts,rfl,N,k⟩:=h
  obtain ⟨dx,tl,ol,ds,h1,_⟩:=N.ob
  refine ⟨_,aJ (aW (fH (pv 0) rfl)),?_⟩
  exact ⟨_,rfl,p,C,dx,_,_,rfl,h1,T.cl,T.nH,uO _ _ _ _,k⟩
theorem aCi : aS ["self"] ["self"] (aH wH):=⟨rfl,rfl,rfl,by decide +kernel,rfl,by decide +kernel,by decide +kernel⟩
def kC (C : Addr) : Sp:=fun vs H Q _=>∃ (L : Addr→Prop) (p : Addr) (n : Nat) (ts : Ts),vs = [.ref p]∧cF C H L p n ts∧∀ (r : Addr) (zs : Zs) (H' : Hp),Same H H'→H r = none→H' r = some (.lst (zr zs))→PO H zs→(zp zs).Perm ts→Ord (zp zs)→Q (.ref r) H'
theorem aBF {f C : Addr} {fd : FuncData} (F : Fun K "ties" "Net.ties" wH f fd) (T : NT K mg C) (B : Bl mg) : FnOk P w K mg base CX0 1 f fd ["self"] (kC C):=by
 refine F.ok aCi (fun vs H Q E h=>?_) (fun cdv A outer s H vs Q E hr h=>?_)
 ·obtain ⟨L,p,n,ts,rfl,_⟩:=h
  rfl
 ·obtain ⟨L,p,n,ts,rfl,N,k⟩:=h
  obtain ⟨dx,tl,ol,ds,h1,_,_,_,_,_,zs,z1,z2,_,z3,z4⟩:=N.ob
  refine ⟨_,aJ (aW (eX jM (by rfl) B.lst PyProof.Rows.boot_list (aA (fH (pv 0) rfl) aB))),?_⟩
  exact ⟨_,rfl,p,C,dx,_,_,rfl,h1,T.cl,T.nT,nU _ _ _ _,tl,_,rfl,.inl (SqL.of z1),fun l hl=>k l zs _ (aE hl) hl aD z2 z3 z4⟩
theorem aCT : aS ["self"] ["self"] (aH sTwo):=⟨rfl,rfl,rfl,by decide +kernel,rfl,by decide +kernel,by decide +kernel⟩
def pV (C : Addr) : Sp:=fun vs H Q _=>∃ (L : Addr→Prop) (p : Addr) (n : Nat) (ts : Ts),vs = [.ref p]∧cF C H L p n ts∧∀ (b : Bool) (H' : Hp),Same H H'→(b = true↔∀ u∈ts,swp u∈ts)→Q (.bl b) H'
theorem aCj {f C : Addr} {fd : FuncData} (F : Fun K "is_two_way" "Net.is_two_way" sTwo f fd) (T : NT K mg C) (B : Bl mg) : FnOk P w K mg base CX0 1 f fd ["self"] (pV C):=by
 refine F.ok aCT (fun vs H Q E h=>?_) (fun cdv A outer s H vs Q E hr h=>?_)
 ·obtain ⟨L,p,n,ts,rfl,_⟩:=h
  rfl
 ·obtain ⟨L,p,n,ts,rfl,N,k⟩:=h
  obtain ⟨dx,tl,ol,ds,h1,_,_,_,_,_,zs,z1,z2,_,z3,z4⟩:=N.ob
  have hu : (A.deeper (PyProof.Rows.envOfC "Net.is_two_way" (aH sTwo) s.heap.objs.size f cdv)).units + 2 < cLine:=by have:=hr.un; lia
  refine' ⟨_,aJ (aW (aO (oZ rfl) (by rfl) B.all PyProof.Rows.boot_all (aA ?c aB))),?_⟩
  case c =>
   refine' bJ (g:=gTup K 2 (cU (aQ 0) (cU (aQ 1) gNil))) (te:=tOp (rInP K false) (tTup (bK (tVar 1) (bK (tVar 0) tNil))) (tFld K (tVar 2) "tie_list")) (NB:=["one", "other", "self"]) (src:=[none,none,some 0]) (bB (by kernel_rfl)) rfl (bG (fH (pv 0) rfl)) ?g ?t ?e
   case g=>exact fun cl C s₃ H₃ fp=>dF (n:=2) rfl (bC (aL (i:=0) aAT rfl (Or.inl rfl) (Or.inr rfl)) (bC (aL (i:=1) aAT rfl (Or.inl rfl) (Or.inr rfl)) cR))
   case t=>exact fun cl C s₃ H₃ fp=>cE
   case e=>exact fun cl C s₃ H₃ fp=>cW (rA hu) (bF (aA (pv 1) (aA (pv 0) aB))) (fH (pv 2) rfl) rfl
  have hz : zs.length ≤ 256:=by have:=z3.length_eq; rw [aP] at this; have:=N.fine.len; lia
  refine ⟨_,rfl,p,C,dx,_,_,rfl,h1,T.cl,T.nT,nU _ _ _ _,tl,rfl,⟨_,SqL.of z1⟩,fun D hD=>?_⟩
  refine cQ (xs:=zr zs) (fun i ys σ H2=>(∃ a b,σ = [a,b,some (.ref p)])∧Same H H2∧H2 D = some (.lst ys)∧ys = (((zp zs).take i).map fun u=>decide (swp u∈zp zs)).map V.bl) ⟨⟨_,_,rfl⟩,aE hD,aD,rfl⟩ (fun i ys σ H2 _ z=>SqL.of (z.2.1 _ _ z1)) ?_ ?_
  ·rintro i x ys σ H2 Kt Kf hx ⟨⟨a,b,rfl⟩,sm,hD2,rfl⟩ kt kf
   obtain ⟨z,hz',rfl⟩:=fL hx
   have hi : i < zs.length:=(List.getElem?_eq_some_iff.mp hz').1
   have ha:=sm _ _ (z2 z (List.mem_of_getElem? hz'))
   refine ⟨_,_,rfl,SqT.of ha,rfl,_,_,rfl,_,_,rfl,rfl,?_⟩
   refine ⟨_,rfl,_,rfl,by show 2 ≤ sizeLine; decide,fun t ht=>?_⟩
   have st:=aE (o:=.tup [.int z.2.2,.int z.2.1]) ht
   refine ⟨_,rfl,p,C,dx,_,_,rfl,st _ _ (sm _ _ h1),T.cl,T.nT,nU _ _ _ _,fN (u:=swp z.2) aD (st _ _ (sm _ _ z1)) ((z2.same sm).same st) ?_⟩
   rw [if_neg Bool.false_ne_true]
   refine kt _ _ _ (st _ _ hD2) (by rw [List.length_map,List.length_map]; refine Nat.lt_of_le_of_lt (List.length_take_le _ _) (Nat.lt_of_lt_of_le (show i < 257 by lia) (by decide))) ⟨⟨_,_,rfl⟩,bR (sm.trans st) hD,aD,?_⟩
   have e2 : (zp zs)[i]? = some z.2:=by unfold zp; rw [List.getElem?_map,hz']; rfl
   rw [List.take_add_one,e2,Option.toList_some,List.map_append,List.map_append]; rfl
  ·rintro ys σ H2 ⟨_,sm,hD2,rfl⟩
   rw [aZ,← aP,List.take_length] at hD2
   refine ⟨D,_,rfl,SqL.of hD2,k _ _ sm ?_⟩
   rw [List.all_map,List.all_eq_true]
   constructor
   ·intro h u hu
    have:=h u (z3.mem_iff.mpr hu)
    exact z3.mem_iff.mp (of_decide_eq_true this)
   ·intro h u hu
    exact decide_eq_true (z3.mem_iff.mpr (h u (z3.mem_iff.mp hu)))
end
end K12
namespace K12
open PySem L2 NetM
abbrev wN : Stmt:=top 28
abbrev nW : Stmt:=top 29
theorem dU.weak {H : Hp} {L L' : Addr→Prop} {l : Addr} {n : Nat} {r : Nat→List Nat} (R : dU H L l n r) (h : ∀ a,L a→L' a) : dU H L' l n r:=let ⟨bs,a,b,c⟩:=R; ⟨bs,a,fun x hx=>h _ (b x hx),c⟩
theorem cF.weak {C : Addr} {H : Hp} {L L' : Addr→Prop} {p : Addr} {n : Nat} {ts : Ts} (N : cF C H L p n ts) (h : ∀ a,L a→L' a) : cF C H L' p n ts :=
 let ⟨dx,tl,ol,ds,a,l1,l2,b,c,d1,zs,d2,d3,d4,d5⟩:=N.ob
 ⟨N.fine,dx,tl,ol,ds,a,h _ l1,h _ l2,b.weak h,c.weak h,h _ d1,zs,d2,d3,fun z hz=>h _ (d4 z hz),d5⟩
def mP (H : Hp) (D : Addr) (ts : Ts) (H2 : Hp) : Prop:=Same H H2∧∃ zs : Zs,H2 D = some (.lst (zr zs))∧PO H2 zs∧zp zs = ts
theorem mP.add {H H2 : Hp} {D t : Addr} {ts : Ts} {u : Int × Int} {zs : Zs} (hD : H D = none) (sm : Same H H2) (h1 : H2 D = some (.lst (zr zs))) (po : PO H2 zs) (ez : zp zs = ts) (ht : H2 t = none) : mP H D (ts ++ [u]) (upd (upd H2 t (prT u)) D (.lst (zr zs ++ [.ref t]))):=by
 have nD : D ≠ t:=aM h1 ht
 refine ⟨bR (sm.trans (aE ht)) hD,zs ++ [(t,u)],by rw [aD,cA]; rfl,?_,?_⟩
 ·refine PO.putL (xs:=zr zs) ?_ (by rw [aI nD]; exact h1)
  exact (po.putN ht).append (PO.one aD)
 ·rw [cH,ez]; rfl
theorem aCU {A B : Prop} {b : Bool} (hb : b = true) (h : A) : if b = true then A else B:=by rw [if_pos hb]; exact h
theorem aCV {A B : Prop} {b : Bool} (hb : b = false) (h : B) : if b = true then A else B:=by rw [if_neg (by rw [hb]; decide)]; exact h
theorem nbHM : (["house", "many"] : List Str).Nodup:=by decide +kernel
section
variable {P : Program} {w : World} {K : PySem.W.Frag} {mg : Str→Option Value} {base : Heap}
abbrev NewN (C Pt : Addr) (H : Hp) (n : Nat) (ts : Ts) (Q : VK) : Prop:=∀ (p : Addr) (H' : Hp),H p = none→cF C H' (fun a=>H a = none) p n ts→Tab Pt H'→fU Pt H H'→Q (.ref p) H'
theorem hE : aS ["many", "pairs", "ties", "pair", "one", "other"] ["many", "pairs"] (aH nW):=⟨rfl,rfl,rfl,by decide +kernel,rfl,by decide +kernel,by decide +kernel⟩
def jB (C Pt : Addr) : Sp:=fun vs H Q _=>∃ (n : Nat) (l : Addr) (zs : Zs),vs = [.int n,.ref l]∧H l = some (.lst (zr zs))∧PO H zs∧Fine n (dbl (zp zs))∧Tab Pt H∧NewN C Pt H n (dbl (zp zs)) Q
theorem zE {f C Pt fI : Addr} {fd fdI : FuncData} (F : Fun K "pairs_net" "pairs_net" nW f fd) (B : Bl mg) (T : NT K mg C) (M : Mk K C fI) (bI : eA K fdI ["self", "many", "ties"] []) (GI : FnOk P w K mg base CX0 7 fI fdI ["self", "many", "ties"] (kB C Pt)) (R : Cal P w K mg base CX0 1 "is_row" ["thing", "length"] (pR K)) :
  FnOk P w K mg base CX0 9 f fd ["many", "pairs"] (jB C Pt):=by
 refine F.ok hE (fun vs H Q E h=>?_) (fun cdv A outer s H vs Q E hr h=>?_)
 ·obtain ⟨n,l,zs,rfl,_⟩:=h
  rfl
 ·obtain ⟨n,l,zs,rfl,hl,po,fi,tb,k⟩:=h
  have h1 : Room 1 _:=hr.mono (by decide)
  refine ⟨_,aF (bV (cX (cP (aO gI (by rfl) B.isi PyProof.Rows.boot_isinstance (aA (pv 1) (aA (iJ (v:=.ty "list") rfl B.lst PyProof.Rows.boot_list rfl) aB))))) cG bQ)
   (aF (aV (i:=2) hE.nd rfl (Or.inl rfl) (cC aB))
   (aF (gC PassesOwn.never rfl (bG (pv 1)) (aL (i:=3) hE.nd rfl (Or.inl rfl))
    (aF (bV (cX (cP (aN R h1 aK (aA (pv 3) (aA aG aB))))) cG bQ)
    (aF (eI (pv 3) (dF (n:=2) rfl (bC (aL (i:=4) hE.nd rfl (Or.inl rfl)) (bC (aL (i:=5) hE.nd rfl (Or.inl rfl)) cR))))
    (aF (eW (lW PySem.F.plainAttrs_list PySem.F.slot_list_append PySem.F.type_list_append hW (pv 2) (aA (bF (aA (pv 4) (aA (pv 5) aB))) aB)))
    (aJ (eW (lW PySem.F.plainAttrs_list PySem.F.slot_list_append PySem.F.type_list_append hW (pv 2) (aA (bF (aA (pv 5) (aA (pv 4) aB))) aB))))))))
   (aJ (aW (nA M GI hr rfl T.mgC bI .nil aK (aA (pv 0) (aA (pv 2) aB))))))),?_⟩
  have hlen : 2 * zs.length ≤ 256:=by have:=fi.len; rw [iO,aP] at this; exact this
  refine ⟨_,rfl,_,_,_,.type "list",true,rfl,⟨rfl,rL⟩,.of (.lst hl),_,rfl,iteF ?_⟩
  refine ⟨by show 0 ≤ sizeLine; decide,fun D hD=>?_⟩
  refine ⟨_,rfl,l,rfl,⟨_,SqL.of (aE hD _ _ hl)⟩,lD (K:=K) (xs:=zr zs) (fun i σ H2=>(∃ x3 x4 x5,σ = [some (.int n),some (.ref l),some (.ref D),x3,x4,x5])∧mP H D (dbl ((zp zs).take i)) H2) ⟨⟨_,_,_,rfl⟩,aE hD,[],aD,PO.nil,rfl⟩ (fun i σ H2 _ z=>SqL.of (z.2.1 _ _ hl)) ?_ ?_⟩
  ·rintro i x σ H2 hx ⟨⟨x3,x4,x5,rfl⟩,sm2,ys,hy,po2,ey⟩
   obtain ⟨z,hz,rfl⟩:=fL hx
   have hi : i < zs.length:=(List.getElem?_eq_some_iff.mp hz).1
   have ha:=sm2 _ _ (po z (List.mem_of_getElem? hz))
   have ylen : ys.length ≤ 256:=by rw [← aP,ey,iO,List.length_take,aP]; lia
   refine ⟨_,rfl,_,_,_,rfl,.tup ha,_,rfl,iteF ?_⟩
   refine ⟨_,rfl,_,_,rfl,SqT.of ha,rfl,_,_,rfl,_,_,rfl,rfl,?_⟩
   refine ⟨_,rfl,.inl ⟨rfl,_,SqL.of hy⟩,_,rfl,_,rfl,by show 2 ≤ sizeLine; decide,fun t ht=>?_⟩
   refine ⟨D,_,_,rfl,rfl,aE ht _ _ hy,by rw [aZ]; exact Nat.lt_of_le_of_lt ylen (by decide),?_⟩
   obtain ⟨sm3,ys3,hy3,po3,ey3⟩:=mP.add (u:=z.2) hD sm2 hy po2 ey ht
   have ey3l : ys3.length = ys.length + 1:=by rw [← aP,ey3,← ey,List.length_append,aP]; rfl
   generalize upd (upd H2 t _) D _ = H3 at *
   refine ⟨_,rfl,.inl ⟨rfl,_,SqL.of hy3⟩,_,rfl,_,rfl,by show 2 ≤ sizeLine; decide,fun t2 ht2=>?_⟩
   refine ⟨D,_,_,rfl,rfl,aE ht2 _ _ hy3,by rw [aZ,ey3l]; exact Nat.lt_of_le_of_lt (Nat.succ_le_succ ylen) (by decide),⟨_,_,_,rfl⟩,?_⟩
   have P4:=mP.add (u:=swp z.2) hD sm3 hy3 po3 ey3 ht2
   have e2 : (zp zs)[i]? = some z.2:=by unfold zp; rw [List.getElem?_map,hz]; rfl
   rw [List.take_add_one,e2,Option.toList_some,dQ]
   rw [List.append_assoc] at P4
   exact P4
  ·rintro σ H2 ⟨⟨x3,x4,x5,rfl⟩,sm2,ys,hy,po2,ey⟩
   rw [aZ,← aP,List.take_length] at ey
   refine ⟨_,rfl,_,rfl,fun px dx nx ndx nex=>?_⟩
   have sN : Same H2 (upd (upd H2 dx (.own px)) px (.ins C dx [])):=(aE (o:=.own px) ndx).trans (aE (D:=px) (o:=.ins C dx []) (by rw [aI nex.symm]; exact nx))
   have gpx : (upd (upd H2 dx (.own px)) px (.ins C dx [])) px = some (.ins C dx []):=aD
   have sM:=sm2.trans sN
   generalize upd (upd H2 dx (.own px)) px (.ins C dx []) = HM at *
   have TM : cT HM D n ys:=⟨by rw [ey]; exact fi,sN _ _ hy,po2.same sN⟩
   refine ⟨px,dx,n,D,ys,rfl,gpx,TM,tb.same sM,fun H7 N7 t7 s7=>⟨rfl,?_⟩⟩
   have npx : H px = none:=sm2.free nx
   rw [ey] at N7
   exact k px H7 npx (N7.weak fun a ha=>sM.free ha) t7 fun b o e h=>s7 _ _ (sM _ _ e) (aM e npx) h
theorem aCk : aS ["many"] ["many"] (aH wN):=⟨rfl,rfl,rfl,by decide +kernel,rfl,by decide +kernel,by decide +kernel⟩
def rO (C Pt : Addr) : Sp:=fun vs H Q _=>∃ n : Nat,vs = [.int n]∧3 ≤ n∧n ≤ 32∧Tab Pt H∧NewN C Pt H n (dbl ((eT n).map ci2)) Q
theorem NewN.same {C Pt : Addr} {H H1 : Hp} {n : Nat} {ts : Ts} {Q : VK} (k : NewN C Pt H n ts Q) (s : Same H H1) : NewN C Pt H1 n ts Q:=fun p H' hp N t st=>k p H' (s.free hp) (N.weak fun a ha=>s.free ha) t fun b o e h=>st _ _ (s _ _ e) h
theorem aBG {f C Pt : Addr} {fd : FuncData} (F : Fun K "ring_net" "ring_net" wN f fd) (B : Bl mg) (gS : ∃ t,mg "SMALLEST_RING" = some (.int 3 t)) (gM : ∃ t,mg "MOST_HOUSES" = some (.int 32 t))
  (W : Cal P w K mg base CX0 2 "is_whole_within" ["thing", "least", "most"] (gU K)) (PN : Cal P w K mg base CX0 9 "pairs_net" ["many", "pairs"] (jB C Pt)) :
  FnOk P w K mg base CX0 10 f fd ["many"] (rO C Pt):=by
 obtain ⟨tS,gS⟩:=gS
 obtain ⟨tM,gM⟩:=gM
 refine F.ok aCk (fun vs H Q E h=>?_) (fun cdv A outer s H vs Q E hr h=>?_)
 ·obtain ⟨n,rfl,_⟩:=h
  rfl
 ·obtain ⟨n,rfl,n1,n2,tb,k2⟩:=h
  refine' ⟨_,aF (bV (cX (cP (aN W (hr.mono (by decide)) aK (aA (pv 0) (aA (iI (v:=.int 3) rfl gS ⟨_,rfl⟩) (aA (iI (v:=.int 32) rfl gM ⟨_,rfl⟩) aB)))))) cG bQ)
   (aJ (aW (aN PN hr aK (aA (pv 0) (aA ?c aB))))),?_⟩
  case c =>
   refine' bJ (g:=aQ 0) (te:=tTup (bK (tVar 0) (bK (tOp (rI (fun _ j=>0 < j) fun i j=>.int (i % j)) (tOp (rI0 fun i j=>.int (i + j)) (tVar 0) (tC (.int 1))) (tVar 1)) tNil))) (NB:=["house", "many"]) (src:=[none,some 0]) (bB (by kernel_rfl)) rfl (bZ rfl B.range (aA (pv 0) aB)) ?g ?t ?e
   case g=>exact fun cl C s₃ H₃ fp=>aL (i:=0) nbHM rfl (Or.inl rfl) (Or.inr rfl)
   case t=>exact fun cl C s₃ H₃ fp=>cE
   case e=>exact fun cl C s₃ H₃ fp=>bF (aA (pv 0) (aA (bA eZ (bA dA (pv 0) aG) (pv 1)) aB))
  refine ⟨_,rfl,_,some (n : Int),3,32,rfl,.int _,_,rfl,?_⟩
  rw [show dS (some (n : Int)) 3 32 = true by unfold dS; simp; lia]
  refine iteF ?_
  refine ⟨_,rfl,_,rfl,n,rfl,by lia,by lia,fun D hD=>?_⟩
  refine jA (lo:=0) (n:=n) (fun i=>((i : Int),((i : Int) + 1) % (n : Int))) (fun σ=>∃ a,σ = [a,some (.int n)]) hD (by lia) ⟨_,rfl⟩ ?_ ?_
  ·rintro i σ H2 R Kf hi ⟨a,rfl⟩ sm kk
   refine ⟨_,rfl,_,rfl,_,_,rfl,rfl,_,rfl,_,_,rfl,rfl,(by show (0 : Int) < (n : Int); lia),by show 2 ≤ sizeLine; decide,fun t ht=>?_⟩
   rw [Int.zero_add]
   exact kk _ t ⟨_,rfl⟩ ht
  ·intro zs H2 sm hD2 po ez _
   have ez' : zp zs = (eT n).map ci2:=by
    rw [ez]; unfold eT; rw [List.map_map]; rfl
   refine ⟨n,D,zs,rfl,hD2,po,by rw [ez']; exact mJ n1 n2,tb.same sm,?_⟩
   rw [ez']
   exact k2.same sm
end
end K12
namespace L2
open PySem PySem.Spec PyProof.Rows
section
variable {X : Cx}
def aCW (X : Cx) (H : Hp) (p : Addr) (d : PyData) : Prop:=(∀ pins σ s,Inv X pins σ H s→∃ as,Reads s.heap (.ref p) d as∧(d.hasDict = true→sysModules ∉ as))∧d.showable = true∧d.depth ≤ 4∧d.shown.length ≤ sizeLine
def aAU (X : Cx) (H : Hp) (x : V) (d : PyData) : Prop:=(∃ p,x = .ref p∧aCW X H p d)∨(x = .non∧d = .none)∨(∃ b,x = .bl b∧d = .bool b)∨(∃ i,x = .int i∧d = .int i∧i.natAbs.log2 < 1920)∨(∃ y,x = .str y∧d = .str y∧(reprText y).length ≤ sizeLine)
theorem mQ (hg : X.A.guards = some []) (hu : X.A.units + 8 < cLine) : cV X (.builtin "repr") (fun xs H Q=>∃ (x : V) (d : PyData),xs = [x]∧aAU X H x d∧Q (.str d.shown) H):=by
 intro pins s σ H xs us Q I r h
 obtain ⟨x,d,rfl,hx,q⟩:=h
 obtain ⟨u,rfl,ru⟩:=r.one
 rcases hx with ⟨p,rfl,hr,h1,h3,h4⟩ | ⟨rfl,rfl⟩ | ⟨b,rfl,rfl⟩ | ⟨i,rfl,rfl,hi⟩ | ⟨y,rfl,rfl,hy⟩
 ·obtain rfl : u = Value.ref p:=ru
  obtain ⟨as,rd,hs⟩:=hr pins σ s I
  exact repr_of_reads' rd h1 hs hg (by lia) (fun b o e=>e) (fun h' u tk hk=>⟨.str d.shown,H,I.kept (t':=tk) hk,⟨u,rfl⟩,q⟩) h4
 ·obtain rfl : u = Value.none:=ru
  exact PySem.P.repr_of_none ⟨.str _,H,I.tok _,⟨_,rfl⟩,q⟩
 ·obtain rfl : u = Value.bool b:=ru
  refine PySem.P.repr_of_bool ⟨.str _,H,I.tok _,⟨_,rfl⟩,?_⟩
  cases b <;> exact q
 ·obtain ⟨t,rfl⟩ : ∃ t,u = Value.int i t:=ru
  exact PySem.P.repr_of_int hi ⟨.str _,H,I.tok _,⟨_,rfl⟩,q⟩
 ·obtain ⟨t,rfl⟩ : ∃ t,u = Value.str y t:=ru
  exact PySem.P.repr_of_str ⟨.str _,H,I.tok _,⟨_,rfl⟩,q⟩ hy
end
end L2
namespace NetM
abbrev deg (ts : Ts) (h : Int) : Nat:=(ts.filter fun t=>decide (t.1 = h)).length
theorem nX {ts us : Ts} {h : Int} : deg (ts ++ us) h = deg ts h + deg us h:=by unfold deg; rw [List.filter_append,List.length_append]
theorem nY {a b h : Int} : deg [(a,b),(b,a)] h = (if a = h then 1 else 0) + (if b = h then 1 else 0):=by
 unfold deg
 by_cases c1 : a = h <;> by_cases c2 : b = h <;> simp [c1,c2]
theorem aBH {a b : Int} : dbl [(a,b)] = [(a,b),(b,a)]:=rfl
theorem uR {n : Nat} {a b : Nat} (ha : a < n) (hb : b < n) (hab : a ≠ b) : Pre n [(ci a,ci b),(ci b,ci a)]:=by
 have ne : ci a ≠ ci b:=fun e=>hab (Int.ofNat.inj e)
 refine ⟨?_,?_,?_,?_,?_⟩
 ·rw [List.nodup_cons]
  refine ⟨fun h=>?_,by simp⟩
  have:=List.mem_singleton.mp h
  exact ne (congrArg Prod.fst this)
 ·intro t ht
  rcases List.mem_cons.mp ht with rfl | ht
  ·exact ⟨⟨by lia,by lia⟩,⟨by lia,by lia⟩⟩
  ·rw [List.mem_singleton.mp ht]; exact ⟨⟨by lia,by lia⟩,⟨by lia,by lia⟩⟩
 ·intro t ht
  rcases List.mem_cons.mp ht with rfl | ht
  ·exact ne
  ·rw [List.mem_singleton.mp ht]; exact fun e=>ne e.symm
 ·intro h
  by_cases c1 : ci a = h <;> by_cases c2 : ci b = h <;> simp [c1,c2]
 ·intro h
  have:=nY (a:=ci a) (b:=ci b) (h:=h)
  show deg [(ci a,ci b),(ci b,ci a)] h ≤ 8
  rw [this]
  split <;> split <;> lia
theorem Fine.pair {n : Nat} {ps : Ts} {a b : Nat} (F : Fine n (dbl ps)) (ha : a < n) (hb : b < n) (hab : a ≠ b) (h1 : (ci a,ci b) ∉ ps) (h2 : (ci b,ci a) ∉ ps) (d1 : deg (dbl ps) (ci a) ≤ 7) (d2 : deg (dbl ps) (ci b) ≤ 7) : Fine n (dbl (ps ++ [(ci a,ci b)])):=by
 rw [dQ,aBH]
 have ne : ci a ≠ ci b:=fun e=>hab (Int.ofNat.inj e)
 refine F.app (kQ F.pre (uR ha hb hab) (fun t ht=>?_) fun h=>?_)
 ·rcases List.mem_cons.mp ht with rfl | ht
  ·exact fun z=>(dY.mp z).elim h1 h2
  ·rw [List.mem_singleton.mp ht]
   exact fun z=>(dY.mp z).elim h2 h1
 ·show deg (dbl ps) h + deg [(ci a,ci b),(ci b,ci a)] h ≤ 8
  rw [nY]
  have m:=F.most h
  by_cases c1 : ci a = h
  ·subst c1
   rw [if_pos rfl,if_neg (fun e=>ne e.symm)]; lia
  ·by_cases c2 : ci b = h
   ·subst c2
    rw [if_neg c1,if_pos rfl]; lia
   ·rw [if_neg c1,if_neg c2]; exact m
end NetM
namespace NetM
def Sym (ts : Ts) : Prop:=∀ u∈ts,swp u∈ts
theorem pF {l : Ts} (nd : l.Nodup) : (l.map swp).Nodup:=List.pairwise_map.mpr (nd.imp fun {x y} h e=>h (Prod.ext (congrArg Prod.snd e) (congrArg Prod.fst e)))
theorem rP {ts : Ts} (nd : ts.Nodup) (s : Sym ts) (c : Int × Int→Bool) : (ts.filter fun u=>c (swp u)).Perm ((ts.filter c).map swp):=by
 refine (List.perm_ext_iff_of_nodup (nd.filter _) (pF (nd.filter _))).mpr fun u=>?_
 rw [List.mem_filter,List.mem_map]
 constructor
 ·rintro ⟨a,b⟩
  exact ⟨swp u,List.mem_filter.mpr ⟨s u a,b⟩,rfl⟩
 ·rintro ⟨v,hv,rfl⟩
  obtain ⟨a,b⟩:=List.mem_filter.mp hv
  exact ⟨s v a,b⟩
theorem nZ {ts : Ts} (nd : ts.Nodup) (s : Sym ts) (h : Int) : (ts.filter fun t=>decide (t.1 = h)).length = (ts.filter fun t=>decide (t.2 = h)).length:=by
 have:=(rP nd s fun t=>decide (t.1 = h)).length_eq
 rw [List.length_map] at this
 exact this.symm
theorem aAu {n : Nat} {ts : Ts} (F : Fine n ts) (s : Sym ts) : ts.length = 2 * (ts.filter fun t=>decide (t.1 < t.2)).length:=by
 have h1:=List.length_eq_countP_add_countP (l:=ts) fun t=>decide (t.1 < t.2)
 have h2:=(rP F.nd s fun t=>decide (t.1 < t.2)).length_eq
 rw [List.length_map] at h2
 rw [List.countP_eq_length_filter,List.countP_eq_length_filter] at h1
 have h3 : ts.filter (fun a=>decide ¬ decide (a.1 < a.2) = true) = ts.filter fun u=>decide ((swp u).1 < (swp u).2):=List.filter_congr fun u hu=>by
  have:=F.ne u hu
  show _ = decide (u.2 < u.1)
  simp only [decide_eq_true_eq,decide_eq_decide]
  lia
 rw [h3,h2] at h1
 lia
theorem aAv {n : Nat} {ts : Ts} {h : Nat} (F : Fine n ts) (hh : h < n) : (outN n ts h).length = deg ts (ci h):=by
 have p : ((outN n ts h).map fun (o : Nat)=>(ci h,ci o)).Perm (ts.filter fun t=>decide (t.1 = ci h)):=by
  refine (List.perm_ext_iff_of_nodup (List.pairwise_map.mpr ((wE hh).imp fun {x y} q e=>q (Int.ofNat.inj (congrArg Prod.snd e)))) (F.nd.filter _)).mpr fun u=>?_
  rw [List.mem_map,List.mem_filter]
  constructor
  ·rintro ⟨o,ho,rfl⟩
   exact ⟨(dP F hh).mp ho,decide_eq_true rfl⟩
  ·rintro ⟨a,b⟩
   have r:=F.rg u a
   refine ⟨u.2.toNat,(dP F hh).mpr ?_,?_⟩
   ·show (ci h,ci u.2.toNat)∈ts
    rw [show (ci h,ci u.2.toNat) = u from Prod.ext (of_decide_eq_true b).symm (show ((u.2.toNat : Nat) : Int) = u.2 by lia)]
    exact a
   ·exact Prod.ext (of_decide_eq_true b).symm (show ((u.2.toNat : Nat) : Int) = u.2 by lia)
 unfold deg
 rw [← p.length_eq,List.length_map]
def Kd (n : Nat) (ts : Ts) (a b : Bool) : Prop:=(a = true↔Sym ts∧ts.length = 2 * (n - 1))∧(b = true↔Sym ts∧∀ h,h < n→deg ts (ci h) = 2)
theorem Sym.perm {ts us : Ts} (p : us.Perm ts) (s : Sym ts) : Sym us:=fun u hu=>p.mem_iff.mpr (s u (p.mem_iff.mp hu))
theorem aAw {ts us : Ts} {h : Int} (p : us.Perm ts) : deg us h = deg ts h:=(p.filter _).length_eq
theorem Kd.perm {n : Nat} {ts us : Ts} {a b : Bool} (p : us.Perm ts) (k : Kd n ts a b) : Kd n us a b:=by
 have e : Sym us↔Sym ts:=⟨fun s=>s.perm p.symm,fun s=>s.perm p⟩
 refine ⟨by rw [e,p.length_eq]; exact k.1,?_⟩
 rw [e]
 refine k.2.trans (and_congr_right fun _=>forall_congr' fun h=>forall_congr' fun _=>?_)
 rw [aAw p]
theorem Kd.uniq {n : Nat} {ts : Ts} {a b a' b' : Bool} (k : Kd n ts a b) (k' : Kd n ts a' b') : a = a'∧b = b':=⟨Bool.eq_iff_iff.mpr (k.1.trans k'.1.symm),Bool.eq_iff_iff.mpr (k.2.trans k'.2.symm)⟩
theorem gB {ps : Ts} : Sym (dbl ps):=fun u hu=>dY.mpr ((dY.mp hu).elim (fun h=>.inr h) fun h=>.inl h)
theorem oA {n : Nat} {ts : Ts} {h : Nat} (F : Fine n ts) (hh : h < n) : 1 ≤ deg ts (ci h):=by
 have n1:=F.n1
 obtain ⟨b,hb,ne⟩ : ∃ b,b < n∧b ≠ h:=if c : h = 0 then ⟨1,by lia,by lia⟩ else ⟨0,by lia,by lia⟩
 obtain ⟨k,w⟩:=F.con h b hh hb
 cases k with
 | zero=>exact absurd w fun e=>ne e.symm
 | succ k =>
  obtain ⟨c,t,_⟩:=w.uncons
  exact List.length_pos_of_mem (List.mem_filter.mpr ⟨t,decide_eq_true rfl⟩)
def dsum (f : Nat→Nat) : Nat→Nat
 | 0=>0
 | n + 1=>dsum f n + f n
theorem jC {f g : Nat→Nat} : ∀ {n : Nat},(∀ h,h < n→f h = g h)→dsum f n = dsum g n
 | 0,_=>rfl
 | n + 1,h=>by unfold dsum; rw [jC fun k hk=>h k (by lia),h n (by lia)]
theorem uS {f g : Nat→Nat} : ∀ {n : Nat},(∀ h,h < n→f h ≤ g h)→dsum f n ≤ dsum g n
 | 0,_=>Nat.le_refl _
 | n + 1,h=>Nat.add_le_add (uS fun k hk=>h k (by lia)) (h n (by lia))
theorem rQ {f g : Nat→Nat} : ∀ {n : Nat},dsum (fun h=>f h + g h) n = dsum f n + dsum g n
 | 0=>rfl
 | n + 1=>by unfold dsum; rw [rQ]; lia
theorem rR {t : Nat} : ∀ {n : Nat},dsum (fun h=>if t = h then 1 else 0) n = if t < n then 1 else 0
 | 0=>rfl
 | n + 1=>by
  unfold dsum; rw [rR]
  by_cases c : t = n
  ·subst c; rw [if_neg (by lia),if_pos rfl,if_pos (by lia)]
  ·rw [if_neg c,Nat.add_zero]
   by_cases d : t < n
   ·rw [if_pos d,if_pos (by lia)]
   ·rw [if_neg d,if_neg (by lia)]
theorem oB {n : Nat} : ∀ {ts : Ts},(∀ t∈ts,0 ≤ t.1∧t.1 < n)→dsum (fun h=>deg ts (ci h)) n = ts.length
 | [],_=>by
  have : ∀ n,dsum (fun h=>deg [] (ci h)) n = 0:=fun n=>by induction n with
   | zero=>rfl
   | succ n ih=>unfold dsum; rw [ih]; rfl
  exact this n
 | t :: ts,h=>by
  have e : ∀ x,x < n→deg (t :: ts) (ci x) = (if t.1.toNat = x then 1 else 0) + deg ts (ci x):=fun x _=>by
   have r:=h t List.mem_cons_self
   rw [show t :: ts = [t] ++ ts from rfl,nX]
   congr 1
   unfold deg
   by_cases c : t.1 = ci x
   ·rw [if_pos (by rw [c]; rfl)]; simp [c]
   ·rw [if_neg (fun z=>c (by show t.1 = ((x : Nat) : Int); lia))]; simp [c]
  rw [jC e,rQ,rR,oB fun u hu=>h u (List.mem_cons_of_mem _ hu),if_pos (by have:=h t List.mem_cons_self; lia),List.length_cons]
  lia
theorem kD {f : Nat→Nat} : ∀ {n : Nat},dsum (fun h=>if f h = 1 then 1 else 2) n + ((List.range n).filter fun h=>decide (f h = 1)).length = 2 * n
 | 0=>rfl
 | n + 1=>by
  have ih:=kD (f:=f) (n:=n)
  rw [List.range_succ,List.filter_append,List.length_append]
  unfold dsum
  by_cases c : f n = 1
  ·rw [if_pos c]; simp [c]; lia
  ·rw [if_neg c]; simp [c]; lia
theorem wO {n : Nat} {ts : Ts} (F : Fine n ts) (hl : ts.length + 2 = 2 * n) : 2 ≤ ((List.range n).filter fun h=>decide (deg ts (ci h) = 1)).length:=by
 have a:=oB fun t ht=>(F.rg t ht).1
 have b:=kD (f:=fun h=>deg ts (ci h)) (n:=n)
 have c : dsum (fun h=>if deg ts (ci h) = 1 then 1 else 2) n ≤ dsum (fun h=>deg ts (ci h)) n:=uS fun h hh=>by
  have:=oA F hh
  split <;> lia
 lia
theorem rS {ts : Ts} {a b x : Nat} (h : deg ts (ci a) = 1) (hb : T ts a b) (hx : T ts a x) : x = b:=by
 unfold deg at h
 obtain ⟨y,hy⟩:=List.length_eq_one_iff.mp h
 have m1 : (ci a,ci b)∈ts.filter fun t=>decide (t.1 = ci a):=List.mem_filter.mpr ⟨hb,decide_eq_true rfl⟩
 have m2 : (ci a,ci x)∈ts.filter fun t=>decide (t.1 = ci a):=List.mem_filter.mpr ⟨hx,decide_eq_true rfl⟩
 rw [hy] at m1 m2
 have:=(List.mem_singleton.mp m2).trans (List.mem_singleton.mp m1).symm
 exact Int.ofNat.inj (congrArg Prod.snd this)
theorem wP {n : Nat} {ts : Ts} {a b : Nat} (F : Fine n ts) (s : Sym ts) (n3 : 3 ≤ n) (ha : a < n) (hb : b < n) (da : deg ts (ci a) = 1) (db : deg ts (ci b) = 1) : (ci a,ci b) ∉ ts:=by
 intro t
 have t2 : T ts b a:=s _ t
 have cl : ∀ k x,Walk ts k a x→x = a∨x = b:=by
  intro k
  induction k with
  | zero=>intro x w; exact .inl w.symm
  | succ k ih =>
   rintro x ⟨c,w,tc⟩
   rcases ih c w with rfl | rfl
   ·exact .inr (rS da t tc)
   ·exact .inl (rS db t2 tc)
 obtain ⟨c,hc,c1,c2⟩ : ∃ c,c < n∧c ≠ a∧c ≠ b:=by
  by_cases h0 : 0 ≠ a∧0 ≠ b
  ·exact ⟨0,by lia,h0.1,h0.2⟩
  ·by_cases h1 : 1 ≠ a∧1 ≠ b
   ·exact ⟨1,by lia,h1.1,h1.2⟩
   ·exact ⟨2,by lia,by lia,by lia⟩
 obtain ⟨k,w⟩:=F.con a c ha hc
 exact (cl k c w).elim c1 c2
theorem Walk.rev {ts : Ts} (s : Sym ts) : ∀ {k a b : Nat},Walk ts k a b→Walk ts k b a
 | 0,_,_,e=>e.symm
 | k + 1,a,b,⟨c,w,t⟩=>Walk.cons (show T ts b c from s _ t) (w.rev s)
end NetM
namespace NetM
theorem pG {h : Int} (p : Int × Int→Bool) : ∀ {ts : Ts},deg ts h = deg (ts.filter fun t=>!p t) h + deg (ts.filter p) h
 | []=>rfl
 | t :: ts=>by
  have ih:=pG (h:=h) p (ts:=ts)
  unfold deg at ih ⊢
  simp only [List.filter_filter] at ih ⊢
  by_cases c : p t <;> by_cases e : t.1 = h <;> simp [List.filter_cons,c,e] <;> lia
def cJ (a b c d : Int) : Ts:=[(a,b),(b,a),(c,d),(d,c)]
def freT (a b c d : Int) : Ts:=[(a,d),(d,a),(c,b),(b,c)]
def fW (ts : Ts) (a b c d : Int) : Ts:=(ts.filter fun t=>!decide (t∈cJ a b c d)) ++ freT a b c d
theorem aAx {a b c d : Int} : Sym (cJ a b c d):=fun u hu=>by
 simp only [cJ,List.mem_cons,List.mem_nil_iff,or_false] at hu ⊢
 rcases hu with rfl | rfl | rfl | rfl <;> simp [swp]
theorem aBI {a b c d : Int} : Sym (freT a b c d):=fun u hu=>by
 simp only [freT,List.mem_cons,List.mem_nil_iff,or_false] at hu ⊢
 rcases hu with rfl | rfl | rfl | rfl <;> simp [swp]
theorem rT {ts : Ts} {a b c d : Int} (s : Sym ts) : Sym (fW ts a b c d):=fun u hu=>by
 rcases List.mem_append.mp hu with z | z
 ·obtain ⟨z1,z2⟩:=List.mem_filter.mp z
  refine List.mem_append_left _ (List.mem_filter.mpr ⟨s u z1,?_⟩)
  simp only [Bool.not_eq_true',decide_eq_false_iff_not] at z2 ⊢
  exact fun q=>z2 (aAx _ q)
 ·exact List.mem_append_right _ (aBI u z)
theorem aAy {n : Nat} {ts : Ts} {a b c d : Int} (F : Fine n ts) (s : Sym ts) (h1 : (a,b)∈ts) (h2 : (c,d)∈ts) (dis : [a,b,c,d].Nodup) (fr : ∀ t∈freT a b c d,t ∉ ts) : Pre n (fW ts a b c d):=by
 simp only [List.nodup_cons,List.mem_cons,List.mem_nil_iff,or_false,not_or,List.nodup_nil,and_true,not_false_eq_true] at dis
 obtain ⟨⟨ab,ac,ad⟩,⟨bc,bd⟩,cd⟩:=dis
 have r1:=F.rg _ h1
 have r2:=F.rg _ h2
 have g : ∀ t∈cJ a b c d,t∈ts:=fun t ht=>by
  simp only [cJ,List.mem_cons,List.mem_nil_iff,or_false] at ht
  rcases ht with rfl | rfl | rfl | rfl
  ·exact h1
  ·exact s _ h1
  ·exact h2
  ·exact s _ h2
 have sy:=rT (a:=a) (b:=b) (c:=c) (d:=d) s
 have nd : (fW ts a b c d).Nodup:=by
  refine List.nodup_append.mpr ⟨F.nd.filter _,?_,fun x hx y hy e=>fr y hy (e ▸ (List.mem_filter.mp hx).1)⟩
  simp only [freT,List.nodup_cons,List.mem_cons,List.mem_nil_iff,or_false,not_or,List.nodup_nil,and_true,not_false_eq_true,Prod.mk.injEq,not_and]
  refine ⟨⟨fun e=>absurd e ad,fun e=>absurd e ac,fun e=>absurd e ab⟩,⟨fun e=>absurd e.symm cd,fun e=>absurd e.symm bd⟩,fun e=>absurd e.symm bc⟩
 refine ⟨nd,fun t ht=>?_,fun t ht=>?_,nZ nd sy,fun h=>?_⟩
 ·rcases List.mem_append.mp ht with z | z
  ·exact F.rg t (List.mem_filter.mp z).1
  ·simp only [freT,List.mem_cons,List.mem_nil_iff,or_false] at z
   rcases z with rfl | rfl | rfl | rfl
   ·exact ⟨r1.1,r2.2⟩
   ·exact ⟨r2.2,r1.1⟩
   ·exact ⟨r2.1,r1.2⟩
   ·exact ⟨r1.2,r2.1⟩
 ·rcases List.mem_append.mp ht with z | z
  ·exact F.ne t (List.mem_filter.mp z).1
  ·simp only [freT,List.mem_cons,List.mem_nil_iff,or_false] at z
   rcases z with rfl | rfl | rfl | rfl
   ·exact ad
   ·exact fun e=>ad e.symm
   ·exact fun e=>bc e.symm
   ·exact bc
 ·have sp:=pG (h:=h) (fun t=>decide (t∈cJ a b c d)) (ts:=ts)
  have m:=F.most h
  show deg (fW ts a b c d) h ≤ 8
  unfold fW
  rw [nX]
  have one : ∀ t∈cJ a b c d,t.1 = h→1 ≤ deg (ts.filter fun t=>decide (t∈cJ a b c d)) h:=fun t ht e=>List.length_pos_of_mem (List.mem_filter.mpr ⟨List.mem_filter.mpr ⟨g t ht,decide_eq_true ht⟩,decide_eq_true e⟩)
  have le : deg (freT a b c d) h ≤ deg (ts.filter fun t=>decide (t∈cJ a b c d)) h:=by
   by_cases ea : a = h
   ·have:=one (a,b) (by simp [cJ]) ea
    refine Nat.le_trans ?_ this
    subst ea
    have q1 : ¬ d = a:=fun z=>ad z.symm
    have q2 : ¬ c = a:=fun z=>ac z.symm
    have q3 : ¬ b = a:=fun z=>ab z.symm
    simp [deg,freT,q1,q2,q3]
   ·by_cases eb : b = h
    ·have:=one (b,a) (by simp [cJ]) eb
     refine Nat.le_trans ?_ this
     subst eb
     have q1 : ¬ d = b:=fun z=>bd z.symm
     have q2 : ¬ c = b:=fun z=>bc z.symm
     simp [deg,freT,q1,q2,ea]
    ·by_cases ec : c = h
     ·have:=one (c,d) (by simp [cJ]) ec
      refine Nat.le_trans ?_ this
      subst ec
      have q1 : ¬ d = c:=fun z=>cd z.symm
      simp [deg,freT,q1,ea,eb]
     ·by_cases ed : d = h
      ·have:=one (d,c) (by simp [cJ]) ed
       refine Nat.le_trans ?_ this
       simp [deg,freT,ea,eb,ec,ed]
      ·simp [deg,freT,ea,eb,ec,ed]
  have m' : deg ts h ≤ 8:=m
  lia
theorem zF {n : Nat} {ts : Ts} {a b c d : Int} (F : Fine n ts) (s : Sym ts) (p : Pre n (fW ts a b c d)) (con : ∀ x,x < n→∃ k,Walk (fW ts a b c d) k 0 x) : Fine n (fW ts a b c d) :=
 ⟨F.n1,F.n2,p.nd,p.rg,p.ne,p.bal,p.most,fun x y hx hy=>let ⟨_,w⟩:=con x hx; let ⟨_,v⟩:=con y hy; ⟨_,(w.rev (rT s)).trans v⟩⟩
theorem mR {c : Int × Int→Bool} : ∀ {ps : Ts},(∀ u∈ps,c (swp u) = c u)→(dbl ps).filter c = dbl (ps.filter c)
 | [],_=>rfl
 | u :: ps,h=>by
  have ih:=mR fun v hv=>h v (List.mem_cons_of_mem _ hv)
  have hu:=h u List.mem_cons_self
  show ([u,swp u] ++ dbl ps).filter c = _
  rw [List.filter_append,ih]
  by_cases e : c u
  ·have : [u,swp u].filter c = [u,swp u]:=by simp [List.filter_cons,hu,e]
   rw [this,List.filter_cons,if_pos e]; rfl
  ·have : [u,swp u].filter c = []:=by simp [List.filter_cons,hu,e]
   rw [this,List.filter_cons,if_neg e]; rfl
def fE (n h : Nat) : List (Nat × Nat):=(eT n).filter fun q=>!Nat.beq q.1 h
theorem zG : (List.range 33).all (fun n=>Nat.blt n 3 || (List.range n).all fun h=>Nat.beq (fE n h).length (n - 1)) = true:=by decide +kernel
theorem zH : (List.range 33).all (fun n=>Nat.blt n 3 || (List.range n).all fun h=>Nat.beq (cntB h (eT n)) 2) = true:=by decide +kernel
theorem aBJ {n : Nat} (h1 : 3 ≤ n) (h2 : n ≤ 32) : Kd n (dbl ((eT n).map ci2)) false true:=by
 refine ⟨⟨fun z=>(nomatch z),fun z=>?_⟩,fun _=>⟨gB,fun h hh=>?_⟩,fun _=>rfl⟩
 ·have:=z.2
  rw [iO,List.length_map] at this
  unfold eT at this
  rw [List.length_map,List.length_range] at this
  lia
 ·have:=List.all_eq_true.mp zH n (List.mem_range.mpr (by lia))
  rw [Bool.or_eq_true] at this
  rcases this with z | z
  ·have:=gQ z; lia
  ·have:=List.all_eq_true.mp z h (List.mem_range.mpr hh)
   exact nQ.trans (Nat.eq_of_beq_eq_true this)
theorem aBK {n : Nat} : dsum (fun _=>2) n = 2 * n:=by
 induction n with
 | zero=>rfl
 | succ n ih=>unfold dsum; rw [ih]; lia
theorem uT {n : Nat} {ts : Ts} (F : Fine n ts) (s : Sym ts) (hl : ts.length + 2 = 2 * n) : Kd n ts true false:=by
 refine ⟨⟨fun _=>⟨s,by lia⟩,fun _=>rfl⟩,⟨fun z=>(nomatch z),fun z=>?_⟩⟩
 have:=oB fun t ht=>(F.rg t ht).1
 rw [jC (g:=fun _=>2) z.2,aBK] at this
 lia
theorem rV {n k : Nat} (hk : k < n) : (k + 1) % n = if k + 1 = n then 0 else k + 1:=by
 split
 ·rename_i e; rw [e,Nat.mod_self]
 ·exact Nat.mod_eq_of_lt (by lia)
theorem uU {n h : Nat} (h1 : 3 ≤ n) (hh : h < n) : (dbl ((eT n).map ci2)).filter (fun t=>!decide (t∈[(ci h,ci ((h + 1) % n)),(ci ((h + 1) % n),ci h)])) = dbl ((fE n h).map ci2):=by
 rw [mR]
 ·unfold fE
  congr 1
  rw [List.filter_map]
  congr 1
  refine List.filter_congr fun q hq=>?_
  obtain ⟨k,hk,rfl⟩:=List.mem_map.mp hq
  have hk:=List.mem_range.mp hk
  show (!decide ((ci k,ci ((k + 1) % n))∈_)) = !Nat.beq k h
  congr 1
  rw [Bool.eq_iff_iff,decide_eq_true_eq,Nat.beq_eq]
  have n1:=rV hk
  have n2:=rV hh
  constructor
  ·intro z
   rcases List.mem_cons.mp z with z | z
   ·exact Int.ofNat.inj (congrArg Prod.fst z)
   ·have z:=List.mem_singleton.mp z
    have a:=Int.ofNat.inj (congrArg Prod.fst z)
    have b:=Int.ofNat.inj (congrArg Prod.snd z)
    rw [n1] at b
    rw [n2] at a
    split at a <;> split at b <;> lia
  ·rintro rfl; exact List.mem_cons_self
 ·intro u _
  show (!decide (swp u∈_)) = !decide (u∈_)
  congr 1
  rw [Bool.eq_iff_iff,decide_eq_true_eq,decide_eq_true_eq]
  obtain ⟨x,y⟩:=u
  simp only [swp,List.mem_cons,List.mem_nil_iff,or_false,Prod.mk.injEq]
  constructor <;> rintro (⟨a,b⟩ | ⟨a,b⟩)
  ·exact .inr ⟨b,a⟩
  ·exact .inl ⟨b,a⟩
  ·exact .inr ⟨b,a⟩
  ·exact .inl ⟨b,a⟩
theorem zI {n h : Nat} (h1 : 3 ≤ n) (h2 : n ≤ 32) (hh : h < n) : Fine n (dbl ((fE n h).map ci2))∧(dbl ((fE n h).map ci2)).length + 2 = 2 * n:=by
 refine ⟨?_,?_⟩
 ·have F:=mJ h1 h2
  have e:=uU h1 hh
  have nd : (dbl ((fE n h).map ci2)).Nodup:=by rw [← e]; exact F.nd.filter _
  have sub : ∀ t∈dbl ((fE n h).map ci2),t∈dbl ((eT n).map ci2):=fun t ht=>by rw [← e] at ht; exact (List.mem_filter.mp ht).1
  have sy : Sym (dbl ((fE n h).map ci2)):=gB
  have ed : ∀ k,k < n→k ≠ h→T (dbl ((fE n h).map ci2)) k ((k + 1) % n):=fun k hk c=>by
   refine dY.mpr (.inl (List.mem_map.mpr ⟨(k,(k + 1) % n),List.mem_filter.mpr ⟨List.mem_map.mpr ⟨k,List.mem_range.mpr hk,rfl⟩,?_⟩,rfl⟩))
   show (!Nat.beq k h) = true
   rw [Bool.not_eq_true',← Bool.not_eq_true]
   exact fun z=>c (Nat.eq_of_beq_eq_true z)
  have wk : ∀ i,i < n→∃ k,Walk (dbl ((fE n h).map ci2)) k (if h + 1 < n then h + 1 else h + 1 - n) (if h + 1 + i < n then h + 1 + i else h + 1 + i - n):=by
   intro i
   induction i with
   | zero=>intro _; exact ⟨0,rfl⟩
   | succ i ih =>
    intro hi
    obtain ⟨k,w⟩:=ih (by lia)
    refine ⟨k + 1,_,w,?_⟩
    have:=ed (if h + 1 + i < n then h + 1 + i else h + 1 + i - n) (by split <;> lia) (by split <;> lia)
    rw [rV (by split <;> lia)] at this
    have e2 : (if (if h + 1 + i < n then h + 1 + i else h + 1 + i - n) + 1 = n then 0 else (if h + 1 + i < n then h + 1 + i else h + 1 + i - n) + 1) = (if h + 1 + (i + 1) < n then h + 1 + (i + 1) else h + 1 + (i + 1) - n):=by
     split <;> split <;> split <;> lia
    rw [e2] at this
    exact this
  have all : ∀ x,x < n→∃ k,Walk (dbl ((fE n h).map ci2)) k (if h + 1 < n then h + 1 else h + 1 - n) x:=fun x hx=>by
   obtain ⟨k,w⟩:=wk (if h < x then x - (h + 1) else x + n - (h + 1)) (by split <;> lia)
   rw [show (if h + 1 + (if h < x then x - (h + 1) else x + n - (h + 1)) < n then h + 1 + (if h < x then x - (h + 1) else x + n - (h + 1)) else h + 1 + (if h < x then x - (h + 1) else x + n - (h + 1)) - n) = x by split <;> split <;> lia] at w
   exact ⟨k,w⟩
  refine ⟨F.n1,F.n2,nd,fun t ht=>F.rg t (sub t ht),fun t ht=>F.ne t (sub t ht),nZ nd sy,fun x=>?_,fun x y hx hy=>?_⟩
  ·rw [← e]
   exact Nat.le_trans (List.filter_sublist.filter _).length_le (F.most x)
  ·obtain ⟨k,w⟩:=all x hx
   obtain ⟨j,v⟩:=all y hy
   exact ⟨_,(w.rev sy).trans v⟩
 ·have:=List.all_eq_true.mp zG n (List.mem_range.mpr (by lia))
  rw [Bool.or_eq_true] at this
  rcases this with z | z
  ·have:=gQ z; lia
  ·have:=List.all_eq_true.mp z h (List.mem_range.mpr hh)
   rw [iO,List.length_map,Nat.eq_of_beq_eq_true this]
   lia
theorem uV : ∀ {ps : Ts},(∀ u∈ps,u.1 ≠ u.2)→(dbl ((dbl ps).filter fun t=>decide (t.1 < t.2))).Perm (dbl ps)
 | [],_=>List.Perm.refl _
 | u :: ps,h=>by
  have ih:=uV fun v hv=>h v (List.mem_cons_of_mem _ hv)
  have hu:=h u List.mem_cons_self
  show (dbl (([u,swp u] ++ dbl ps).filter _)).Perm ([u,swp u] ++ dbl ps)
  rw [List.filter_append,dQ]
  refine List.Perm.append ?_ ih
  obtain ⟨a,b⟩:=u
  by_cases c : a < b
  ·have c2 : ¬ b < a:=by lia
   have : [(a,b),swp (a,b)].filter (fun t=>decide (t.1 < t.2)) = [(a,b)]:=by simp [List.filter_cons,swp,c,c2]
   rw [this]; exact List.Perm.refl _
  ·have hab : a ≠ b:=hu
   have c2 : b < a:=by lia
   have : [(a,b),swp (a,b)].filter (fun t=>decide (t.1 < t.2)) = [(b,a)]:=by simp [List.filter_cons,swp,c,c2]
   rw [this]; exact List.Perm.swap _ _ _
def jD (xs : List Nat) : Ts:=cyc xs ++ ((cyc xs).filter fun t=>!decide (swp t∈cyc xs)).map swp
theorem wQ {n : Nat} {xs : List Nat} (n1 : 2 ≤ n) (n2 : n ≤ 32) (pm : xs.Perm (List.range n)) : Fine n (jD xs)∧Sym (jD xs):=by
 have F:=pD n1 n2 pm
 have sy : Sym (jD xs):=fun u hu=>by
  rcases List.mem_append.mp hu with z | z
  ·by_cases c : swp u∈cyc xs
   ·exact List.mem_append_left _ c
   ·exact List.mem_append_right _ (List.mem_map.mpr ⟨u,List.mem_filter.mpr ⟨z,by simp [c]⟩,rfl⟩)
  ·obtain ⟨v,hv,rfl⟩:=List.mem_map.mp z
   exact List.mem_append_left _ (List.mem_filter.mp hv).1
 refine ⟨?_,sy⟩
 have nd : (jD xs).Nodup:=List.nodup_append.mpr ⟨F.nd,pF (F.nd.filter _),fun x hx y hy e=>by
  obtain ⟨v,hv,rfl⟩:=List.mem_map.mp hy
  have:=(List.mem_filter.mp hv).2
  simp only [Bool.not_eq_true',decide_eq_false_iff_not] at this
  exact this (e ▸ hx)⟩
 have ndx : xs.Nodup:=pm.nodup_iff.mpr List.nodup_range
 have hl : xs.length = n:=by rw [pm.length_eq,List.length_range]
 have lt : ∀ x∈xs,x < n:=fun x hx=>List.mem_range.mp (pm.mem_iff.mp hx)
 obtain ⟨P,one⟩:=nN ndx lt (by lia)
 refine F.app ⟨nd,fun t ht=>?_,fun t ht=>?_,nZ nd sy,fun h=>?_⟩
 ·rcases List.mem_append.mp ht with z | z
  ·exact F.rg t z
  ·obtain ⟨v,hv,rfl⟩:=List.mem_map.mp z
   have:=F.rg v (List.mem_filter.mp hv).1
   exact ⟨this.2,this.1⟩
 ·rcases List.mem_append.mp ht with z | z
  ·exact F.ne t z
  ·obtain ⟨v,hv,rfl⟩:=List.mem_map.mp z
   exact fun e=>F.ne v (List.mem_filter.mp hv).1 e.symm
 ·show deg (jD xs) h ≤ 8
  unfold jD
  rw [nX]
  have o1 : deg (cyc xs) h ≤ 1:=one h
  have o2 : deg (((cyc xs).filter fun t=>!decide (swp t∈cyc xs)).map swp) h ≤ 1:=by
   unfold deg
   rw [List.filter_map,List.length_map]
   have b:=P.bal h
   have o:=one h
   rw [b] at o
   exact Nat.le_trans (List.filter_sublist.filter _).length_le o
  lia
end NetM
namespace L2
open PySem PySem.Spec PyProof.Rows
theorem zJ {X : Cx} (hc : X.calm = true) : cV X (.type "set") (fun xs H Q=>∃ (l : Addr) (ns : List Int),xs = [.ref l]∧SqL X.K H l (ns.map V.int)∧ns.length ≤ 100∧∀ D S,H D = none→Q (.ref D) (upd H D (.set S (firstMet (fun i=>ns.getD i 0) ns.length).length))):=by
 intro pins s σ H xs us Q I r h
 obtain ⟨l,ns,rfl,hl,h64,q⟩:=h
 obtain ⟨u1,rfl,r1⟩:=r.one
 obtain rfl : u1 = Value.ref l:=r1
 obtain ⟨its,rv,pl,_⟩:=I.list hl
 have ia:=vN rv
 have il : its.length = ns.length:=ia.length
 refine call_set_list (I.ok.hd hc) pl.isList (by simpa using ia) (by rw [List.size_toArray,il]; exact Nat.lt_of_le_of_lt (show ns.length + 1 ≤ 101 by lia) (by decide)) fun h' tk S' k=>?_
 have e2 : its.toArray.size = ns.length:=by rw [List.size_toArray,il]
 rw [e2] at S'
 exact ⟨.ref s.heap.objs.size,_,I.laidN (t':=tk) (o:=.set _ _) (fun b u e=>k b u (Heap.lt_size e) e) (Heap.get?_none_of_le (Nat.le_refl _)) S',rfl,q _ _ I.fresh⟩
theorem zK {X : Cx} : cV X (.builtin "len") (fun xs H Q=>∃ D S n,xs = [.ref D]∧H D = some (.set S n)∧n ≤ 4000∧Q (.int n) H):=by
 intro pins s σ H xs us Q I r h
 obtain ⟨D,S,n,rfl,e,hn,q⟩:=h
 obtain ⟨u1,rfl,r1⟩:=r.one
 obtain rfl : u1 = Value.ref D:=r1
 obtain ⟨o,es,ep,t,q1,hex,hd,_,_,_,hf,hz⟩:=(show s.heap.SetOf (intKind X.prog X.w) D S n from I.hok D _ e)
 exact call_len_set q1 hex hd hf (by rw [hz]; lia) ⟨.int n,H,I.tok _,⟨_,by rw [hz]⟩,q⟩
theorem zL {X : Cx} (hc : X.calm = true) : cV X (.builtin "max") (fun xs H Q=>∃ (a : Addr) (x y : Int),xs = [.ref a]∧SqT X.K H a [.int x,.int y]∧Q (.int (max x y)) H):=by
 intro pins s σ H xs us Q I r h
 obtain ⟨a,x,y,rfl,ha,q⟩:=h
 obtain ⟨u1,rfl,r1⟩:=r.one
 obtain rfl : u1 = Value.ref a:=r1
 obtain ⟨its,rv,pl,_⟩:=I.tuple ha
 obtain ⟨ps,rfl,e⟩:=lJ (ns:=[x,y]) rv
 match ps,e with
 | [(x',t1),(y',t2)],e =>
  obtain ⟨rfl,rfl⟩ : x' = x∧y' = y:=by simpa using e
  have hT : s.heap.IsTuple a (intItems #[(x',t1),(y',t2)]):=by
   have h : s.heap.IsTuple a ([(x',t1),(y',t2)].map fun p=>Value.int p.1 p.2).toArray:=pl
   simpa [intItems] using h
  obtain ⟨oa,ea,_⟩:=id hT
  have al : a < s.heap.objs.size:=Heap.lt_size ea
  refine call_max_walk (wpAny_pyIter_tuple hT ⟨_,[_,a],[_],_,_,_,_,rfl,Walks.tuple (A:=X.A.in1) (I.ok.hd hc) _ a (Nat.ne_of_lt al) (intItems #[(x',t1),(y',t2)]),⟨⟨_,Heap.get?_push_size _ rfl,rfl,rfl⟩,hT.push _⟩,fun c hc=>?_,by simp [intItems],CmpOf.ints_gt (numAt #[(x',t1),(y',t2)]) (fun _ _=>intItems_at),fun v h' tk hP hk=>?_⟩)
  ·show c < (s.heap.push _).objs.size
   rw [Heap.size_push]
   rcases List.mem_cons.mp hc with rfl | hc
   ·exact Nat.lt_succ_self _
   ·rw [List.mem_singleton.mp hc]; exact Nat.lt_succ_of_lt al
  ·obtain ⟨t,rfl⟩:=intItems_at hP
   refine ⟨.int _,H,I.kept (t':=tk) fun b o e=>hk b o (fun z=>?_) (Heap.get?_push_of_some _ e),⟨t,rfl⟩,?_⟩
   ·have:=Heap.lt_size e
    rw [List.mem_singleton.mp z] at this
    exact Nat.lt_irrefl _ this
   ·have e : numAt #[(x',t1),(y',t2)] (argBest (fun i j=>decide (numAt #[(x',t1),(y',t2)] i > numAt #[(x',t1),(y',t2)] j)) ((intItems #[(x',t1),(y',t2)]).size - 1)) = max x' y':=by
     have z : (intItems #[(x',t1),(y',t2)]).size - 1 = 1:=by simp [intItems]
     have n0 : numAt #[(x',t1),(y',t2)] 0 = x':=rfl
     have n1 : numAt #[(x',t1),(y',t2)] 1 = y':=rfl
     rw [z]
     simp only [argBest,n0,n1,decide_eq_true_eq]
     split
     ·rw [n1]; lia
     ·rw [n0]; lia
    rw [e]; exact q
end L2
namespace L2
open PySem PySem.Spec PyProof.Rows
section
variable {prog : Program} {w : World} {A : Around} {s : Shared} {E : Value→Shared→Prop}
theorem kW {sl : Addr} {u : Tok} {Q : Int × Int × Nat→Shared→Prop} (hs : s.heap.IsSliceOf sl .none .none (.int (-1) u)) (h : Q ((1 : Int),(-1 : Int),2) s) : wpAny (model prog w) A (Builtin.Slice.sliceApplied (.ref sl) (pure (2 : Int))) Q E s:=by
 obtain ⟨os,hos,hcs,hds⟩:=id hs
 unfold Builtin.Slice.sliceApplied Builtin.Slice.sliceFields
 refine wpAny_bind (wpAny_bind (wpAny_field hos hds (x:=.none) rfl (wpAny_bind (wpAny_field hos hds (x:=.none) rfl (wpAny_bind (wpAny_field hos hds (x:=.int (-1) u) rfl (wpAny_pure ?_)))))))
 refine wpAny_bind (slicePart_int ?_)
 show wpAny _ _ (if ((-1 : Int) == 0) = true then _ else _) _ _ s
 rw [if_neg (by decide)]
 refine wpAny_bind (slicePart_none (wpAny_bind (slicePart_none (wpAny_bind (wpAny_pure ?_)))))
 exact wpAny_pure h
theorem rW {t sl : Addr} {x y : Value} {u : Tok} {Q : Value→Shared→Prop} (ht : IsTup s.heap t #[x,y]) (hs : s.heap.IsSliceOf sl .none .none (.int (-1) u))
  (h : Q (.ref s.heap.objs.size) { s with heap:=s.heap.push { cls:=.type "tuple",data:=.seq #[y,x] } }) : wpAny (model prog w) A (getItem (.ref t) (.ref sl)) Q E s:=by
 obtain ⟨os,hos,hcs,hds⟩:=id hs
 have hTs : s.TypeIs (.ref sl) "slice" := ⟨os,hos,hcs⟩
 unfold getItem
 try with_reducible refine wpAny_holding ?_
 first | refine wpAny_bind (wpAny_pure ?_) | skip
 refine wpAny_bind (wpAny_sequenceKey ht.typeIs (by decide) ?_)
 refine wpAny_bind (wpAny_callSpecial?_slot (name:=Str.ofString "__getitem__") ht.typeIs slot_tuple_getitem (wpAny_call_entry slot_tuple_getitem ht.typeIs entry_tuple_getitem ?_ (args_tuple_getitem _ _)))
 refine wpAny_bind (m:=Builtin.Tuple.tupleItemsOf (.ref t)) (tupleItemsOf_ ht ?_)
 refine wpAny_bind (wpAny_typeOf hTs ?_)
 rw [if_pos (by decide)]
 refine wpAny_bind (kW hs ?_)
 show wpAny _ _ (if ((1 : Int) == 0 && (-1 : Int) == 1 && (2 : Nat) == 2) = true then _ else _) _ _ s
 rw [if_neg (by decide)]
 have ht2 : sizeOk (.seq #[y,x]):=by show 2 ≤ sizeLine; decide
 first
  | exact wpAny_bind (m:=Builtin.Tuple.tupleExact #[y,x]) (wpAny_newObj_type (wpAny_pure ⟨_,rfl,wpAny_pure h⟩) ht2)
  | exact wpAny_bind (m:=Builtin.Tuple.tupleExact #[y,x]) (wpAny_newObj_type (wpAny_bind (wpAny_pure (wpAny_pure ⟨_,rfl,wpAny_pure h⟩))) ht2)
  | exact wpAny_bind (wpAny_bind (m:=Builtin.Tuple.tupleExact #[y,x]) (wpAny_newObj_type (wpAny_pure (wpAny_pure ⟨_,rfl,wpAny_pure h⟩)) ht2))
end
section
variable {X : Cx} {e se : Expr} {te : TE} {p2 pos : Pos}
def aAV (K : PySem.W.Frag) (te : TE) (ts : TO) : TE:=fun σ H Q=>te σ H fun x H1=>ts σ H1 fun k H2=>k = some (-1)∧∃ (a : Addr) (u v : V),x = .ref a∧SqT K H2 a [u,v]∧∀ p,H2 p = none→Q (.ref p) (upd H2 p (.tup [v,u]))
theorem uW {ts : TO} (he : PE X e te) (hs : PO X (some se) ts) : PE X (.Subscript e (.Slice none none (some se) p2) pos) (aAV X.K te ts):=by
 intro pins s σ H Q I h
 refine Subscript_ (thn (he pins s σ H _ I h) fun v s1 ⟨x,H1,I1,r1,q1⟩=>?_)
 refine wpAny_Slice (thn (nB pins s1 σ H1 (fun l H2=>l = none∧H2 = H1) I1 ⟨rfl,rfl⟩) fun vl s2 ⟨l,H2,I2,pl,e1,e2⟩=>?_)
 subst e1 e2
 refine thn (nB pins s2 σ H2 (fun l H3=>l = none∧H3 = H2) I2 ⟨rfl,rfl⟩) fun vu s3 ⟨l3,H3,I3,pu,e3,e4⟩=>?_
 subst e3 e4
 refine thn (hs pins s3 σ H3 _ I3 q1) fun vk s4 ⟨k,H4,I4,pk,e5,q⟩=>?_
 subst e5
 obtain ⟨a,u,v',rfl,hx,q⟩:=q
 cases r1
 cases pl
 cases pu
 cases pk with
 | int _ tk =>
 have I5 : Inv X pins σ H4 { s4 with heap:=s4.heap.push { cls:=.type "slice",data:=.fields #[.none,.none,.int (-1) tk] } }:=I4.kept (t':=s4.toks) fun b ob q=>Heap.get?_push_of_some _ q
 obtain ⟨its,r,ht,hz⟩:=I5.tuple hx
 obtain ⟨w1,w2,rfl,r1,r2⟩:=r.two
 show wpAny (model X.prog X.w) X.A (subscriptTail e (.Slice none none (some se) p2) (.ref a) (.ref s4.heap.objs.size)) (EP X pins σ Q) X.xe { s4 with heap:=s4.heap.push { cls:=.type "slice",data:=.fields #[.none,.none,.int (-1) tk] } }
 refine tail_any (ops:=[.ref a,.ref s4.heap.objs.size]) ht.typeIs slot_tuple_getitem.lookup ?_ (by with_unfolding_all rfl)
 refine rW ht (Heap.IsSliceOf.new ..) ?_
 exact ⟨.ref (s4.heap.push { cls:=.type "slice",data:=.fields #[.none,.none,.int (-1) tk] }).objs.size,_,I5.laid (t':=s4.toks) (o:=.tup [v',u]) (fun b ob q=>Heap.get?_push_of_some _ q) (Nat.le_refl _) ⟨by show 2 ≤ sizeLine; decide,[w2,w1],.cons r2 (.cons r1 .nil),iG.new _ _⟩,rfl,q _ (I5.hok.fresh (Nat.le_refl _))⟩
theorem aCl {X : Cx} : OpR X (compareOp .Is) (fun x y H Q=>∃ c d : Bool,x = .bl c∧y = .bl d∧Q (.bl (c == d)) H):=by
 intro pins s σ H x y v u Q I rx ry h
 obtain ⟨c,d,rfl,rfl,q⟩:=h
 cases rx
 cases ry
 exact is_bool ⟨.bl _,H,I,rfl,q⟩
theorem zM {H : Hp} {p : Addr} {a b : Bool} (h : H p = some (.tup [.bl a,.bl b])) : aAU X H (.ref p) (.tuple [.bool a,.bool b]):=by
 refine .inl ⟨p,rfl,fun pins σ s I=>?_,?_,?_,?_⟩
 ·obtain ⟨its,r,⟨o,ho,hc,k,hdat⟩,_⟩:=I.tuple (SqT.of h)
  obtain ⟨w1,w2,rfl,r1,r2⟩:=r.two
  obtain rfl : w1 = Value.bool a:=r1
  obtain rfl : w2 = Value.bool b:=r2
  exact ⟨_,.tuple ho hc hdat (.cons (.bool a) (.cons (.bool b) .nil)),fun z=>by cases a <;> cases b <;> cases z⟩
 ·cases a <;> cases b <;> decide +kernel
 ·cases a <;> cases b <;> decide +kernel
 ·cases a <;> cases b <;> decide +kernel
end
end L2
namespace K12
open PySem L2 NetM
abbrev sPot : Stmt:=top 33
abbrev rX : Stmt:=top 34
abbrev wR : Stmt:=top 35
def aY (H : Hp) (p : Addr) : Prop:=∃ a b : Int,H p = some (.lst [.int a,.int b])∧0 ≤ a∧0 ≤ b∧b < 2147483647
theorem aY.same {H H' : Hp} {p : Addr} (h : aY H p) (s : Same H H') : aY H' p:=let ⟨a,b,e,r⟩:=h; ⟨a,b,s _ _ e,r⟩
theorem aY.full {H : Hp} {p : Addr} (h : aY H p) : H p ≠ none:=by obtain ⟨a,b,e,_⟩:=h; rw [e]; intro z; cases z
theorem aY.ne {H : Hp} {p q : Addr} (h : aY H p) (e : H q = none) : q ≠ p:=by rintro rfl; exact h.full e
theorem aY.put {H : Hp} {p q : Addr} {o : HO} (h : aY H p) (n : p ≠ q) : aY (upd H q o) p:=let ⟨a,b,e,r⟩:=h; ⟨a,b,by rw [aI n]; exact e,r⟩
theorem aY.neT {H : Hp} {p q : Addr} {xs : List V} (h : aY H p) (e : H q = some (.tup xs)) : q ≠ p:=by rintro rfl; obtain ⟨a,b,z,_⟩:=h; rw [e] at z; cases z
theorem PO.sameE {H H' : Hp} {p : Addr} {zs : Zs} (h : PO H zs) (s : aU p H H') (hp : aY H p) : PO H' zs:=fun z hz=>s _ _ (h z hz) (hp.neT (h z hz))
theorem jH {α β : Type} (f : α→β) : ∀ (l : List α) (i : Nat),(l.map f).eraseIdx i = (l.eraseIdx i).map f
 | [],_=>rfl
 | _ :: _,0=>rfl
 | a :: l,i + 1=>by rw [List.map_cons,List.eraseIdx_cons_succ,List.eraseIdx_cons_succ,List.map_cons,jH f l i]
theorem jI {α : Type} : ∀ {l : List α} {i : Nat} (h : i < l.length),(l[i] :: l.eraseIdx i).Perm l
 | a :: l,0,_=>List.Perm.refl _
 | a :: l,i + 1,h=>by
  rw [List.eraseIdx_cons_succ]
  have:=jI (l:=l) (i:=i) (by simpa using h)
  exact (List.Perm.swap _ _ _).trans (this.cons a)
theorem nbS : (["_law_k", "_law_left", "_law_pot_here"] : List Str).Nodup:=by decide +kernel
section
variable {P : Program} {w : World} {K : PySem.W.Frag} {mg : Str→Option Value} {base : Heap}
theorem wS : aS ["_law_script", "_law_k", "_law_cell"] ["_law_script", "_law_k"] (aH sPot):=⟨rfl,rfl,rfl,by decide +kernel,rfl,by decide +kernel,by decide +kernel⟩
def wT (K : PySem.W.Frag) : Sp:=fun vs H Q _=>∃ (a : Addr) (ns : List Int) (k : Nat),vs = [.ref a,.int k]∧SqL K H a (ns.map V.int)∧k < 64∧∀ (r : Addr) (H' : Hp),Same H H'→H r = none→aY H' r→Q (.ref r) H'
theorem zN {x : Int} (h0 : 0 ≤ x) (h1 : x < 2 ^ 63) : x.natAbs < 2 ^ 64:=by lia
theorem aCm {f : Addr} {fd : FuncData} (F : Fun K "_law_pot" "_law_pot" sPot f fd) (B : Bl mg) : FnOk P w K mg base CX0 1 f fd ["_law_script", "_law_k"] (wT K):=by
 refine F.ok wS (fun vs H Q E h=>?_) (fun cdv A outer s H vs Q E hr h=>?_)
 ·obtain ⟨a,ns,k,rfl,_⟩:=h
  rfl
 ·obtain ⟨a,ns,k,rfl,hS,hk,q⟩:=h
  refine ⟨_,aF (aV (i:=2) wS.nd rfl (Or.inl rfl) aG)
   (aF (bV (aT kH (pv 1) (aO aR (by rfl) B.len PySem.boot_len (aA (pv 0) aB)) (aX _)) (aJ (aV (i:=2) wS.nd rfl (Or.inl rfl) (bH bE (pv 0) (pv 1) (fun _ _=>rfl)))) bQ)
   (aJ (aW (cC (aA (aO (oJ rfl) (by rfl) B.max PyProof.Rows.boot_max (aA aG (aA (bA gD (pv 2) (bA qE aG aG)) aB)))
    (aA (bA eZ (bA qE (bA dA (bA eZ (pv 2) aG) (bA qD aG (bA dA (pv 1) aG))) aG) aG) aB)))))),?_⟩
  have fin : ∀ c : Int,tRet (tLst (bK (tCB (fun xs H Q=>∃ i j,xs = [V.int i,.int j]∧Q (.int (if j > i then j else i)) H) (bK (tC (.int 0)) (bK (tOp (rI0 fun i j=>.int (i - j)) (tVar 2) (tOp (rI CPow fun i j=>.int (i ^ j.toNat)) (tC (.int 10)) (tC (.int 18)))) tNil)))
    (bK (tOp (rI (fun _ j=>0 < j) fun i j=>.int (i % j)) (tOp (rI CPow fun i j=>.int (i ^ j.toNat)) (tOp (rI0 fun i j=>.int (i + j)) (tOp (rI (fun _ j=>0 < j) fun i j=>.int (i % j)) (tVar 2) (tC (.int 2147483629))) (tOp (rI CMul fun i j=>.int (i * j)) (tC (.int 7919)) (tOp (rI0 fun i j=>.int (i + j)) (tVar 1) (tC (.int 1))))) (tC (.int 3))) (tC (.int 2147483647))) tNil)))
    { nx:=fun _ H'=>Q .non H',rt:=Q } [some (.ref a),some (.int k),some (.int c)] H:=fun c=>by
   have m0 : 0 ≤ c % 2147483629:=Int.emod_nonneg _ (by decide)
   have m1 : c % 2147483629 < 2147483629:=Int.emod_lt_of_pos _ (by decide)
   refine ⟨_,rfl,_,_,rfl,rfl,⟨by decide,by decide,by decide⟩,_,_,rfl,rfl,0,_,rfl,?_⟩
   refine ⟨_,rfl,_,_,rfl,rfl,(by show (0 : Int) < 2147483629; decide),_,rfl,_,_,rfl,rfl,_,_,rfl,rfl,.inl ⟨by decide,by decide⟩,_,_,rfl,rfl,_,_,rfl,rfl,⟨by decide,by decide,?_⟩,_,_,rfl,rfl,(by show (0 : Int) < 2147483647; decide),by show 2 ≤ sizeLine; decide,fun r hr'=>?_⟩
   ·refine zN (by lia) (by lia)
   ·refine q r _ (aE hr') hr' ⟨_,_,aD,?_,Int.emod_nonneg _ (by decide),Int.emod_lt_of_pos _ (by decide)⟩
    split <;> lia
  refine ⟨_,rfl,_,rfl,a,ns.map V.int,rfl,.inl hS,_,_,rfl,rfl,_,rfl,?_⟩
  refine ite2 (fun e=>?_) (fun e=>?_)
  ·have hlt : k < ns.length:=by
    have : (k : Int) < ((ns.map V.int).length : Int):=by simpa using e
    rw [List.length_map] at this; lia
   refine ⟨_,rfl,_,rfl,a,_,_,_,rfl,rfl,hS,bD (v:=.int ns[k]) (by rw [List.getElem?_map,List.getElem?_eq_getElem hlt]; rfl),?_⟩
   exact fin _
  ·exact fin _
theorem uX : aS ["_law_pot_here", "_law_many", "_law_digit_here"] ["_law_pot_here", "_law_many"] (aH rX):=⟨rfl,rfl,rfl,by decide +kernel,rfl,by decide +kernel,by decide +kernel⟩
def dH : Sp:=fun vs H Q _=>∃ (p : Addr) (m : Nat),vs = [.ref p,.int m]∧0 < m∧m < 1000000∧aY H p∧∀ (d : Nat) (H' : Hp),d < m→aU p H H'→aY H' p→Q (.int d) H'
theorem aAz {f : Addr} {fd : FuncData} (F : Fun K "_law_digit" "_law_digit" rX f fd) : FnOk P w K mg base CX0 1 f fd ["_law_pot_here", "_law_many"] dH:=by
 refine F.ok uX (fun vs H Q E h=>?_) (fun cdv A outer s H vs Q E hr h=>?_)
 ·obtain ⟨p,m,rfl,_⟩:=h
  rfl
 ·obtain ⟨p,m',rfl,m0',m1',⟨a,b,hp,a0,b0,b1⟩,q'⟩:=h
  generalize hm : ((m' : Nat) : Int) = m
  have m0 : 0 < m:=by lia
  have m1 : m < 1000000:=by lia
  have q : ∀ (d a b : Int),0 ≤ d→d < m→0 ≤ a→0 ≤ b→b < 2147483647→Q (.int d) (upd H p (.lst [.int a,.int b])):=fun d a b h1 h2 h3 h4 h5=>by
   have:=q' d.toNat _ (by lia) aU.upd ⟨a,b,aD,h3,h4,h5⟩
   rw [Int.toNat_of_nonneg h1] at this
   exact this
  refine ⟨_,aF (bV (aT pO (bH bE (pv 0) aG (fun _ _=>rfl)) aG (aX _))
    (aF (aV (i:=2) uX.nd rfl (Or.inl rfl) (bA eZ (bH bE (pv 0) aG (fun _ _=>rfl)) (pv 1)))
    (aF (eI (bA mZ (bH bE (pv 0) aG (fun _ _=>rfl)) (pv 1)) (lQ (pv 0) aG iV))
    (aJ (aW (pv 2))))) bQ)
   (aF (eI (bA eZ (bA dA (bA qD (bH bE (pv 0) aG (fun _ _=>rfl)) aG) aG) aG) (lQ (pv 0) aG iV))
   (aJ (aW (bA eZ (bA mZ (bA eZ (bA qE (bH bE (pv 0) aG (fun _ _=>rfl)) aG) aG) aG) (pv 1))))),?_⟩
  have g0 : atI [V.int a,V.int b] 0 = some (.int a):=bD (j:=0) rfl
  have g1 : atI [V.int a,V.int b] 1 = some (.int b):=bD (j:=1) rfl
  refine ⟨_,rfl,p,_,_,_,rfl,rfl,SqL.of hp,g0,_,_,rfl,rfl,_,rfl,?_⟩
  refine ite2 (fun e=>?_) (fun e=>?_)
  ·refine ⟨_,rfl,p,_,_,_,rfl,rfl,SqL.of hp,g0,_,rfl,_,_,rfl,rfl,m0,?_⟩
   refine ⟨_,rfl,p,_,_,_,rfl,rfl,SqL.of hp,g0,_,rfl,_,_,rfl,rfl,⟨m0,by lia⟩,?_⟩
   refine ⟨_,rfl,p,_,0,0,rfl,rfl,hp,iL (j:=0) (by show 0 < 2; decide),?_⟩
   refine ⟨_,rfl,?_⟩
   exact q _ _ _ (Int.emod_nonneg _ (by lia)) (Int.emod_lt_of_pos _ m0) (Int.ediv_nonneg a0 (by lia)) b0 b1
  ·refine ⟨_,rfl,p,_,_,_,rfl,rfl,SqL.of hp,g1,_,_,rfl,rfl,.inl ⟨by lia,by lia⟩,_,_,rfl,rfl,_,_,rfl,rfl,(by show (0 : Int) < 2147483647; decide),?_⟩
   refine ⟨_,rfl,p,_,1,1,rfl,rfl,hp,iL (j:=1) (by show 1 < 2; decide),?_⟩
   have c0 : 0 ≤ (b * 48271 + 11) % 2147483647:=Int.emod_nonneg _ (by decide)
   have c1 : (b * 48271 + 11) % 2147483647 < 2147483647:=Int.emod_lt_of_pos _ (by decide)
   refine ⟨_,rfl,p,_,_,_,rfl,rfl,SqL.of aD,bD (j:=1) rfl,_,_,rfl,rfl,⟨by decide,by decide,zN c0 (by lia)⟩,_,_,rfl,rfl,(by show (0 : Int) < 2147483629; decide),_,_,rfl,rfl,⟨by decide,by decide⟩,_,rfl,_,_,rfl,rfl,m0,?_⟩
   exact q _ _ _ (Int.emod_nonneg _ (by lia)) (Int.emod_lt_of_pos _ m0) a0 c0 c1
theorem zO : aS ["_law_pot_here", "_law_many", "_law_count", "_law_left"] ["_law_pot_here", "_law_many", "_law_count"] (aH wR):=⟨rfl,rfl,rfl,by decide +kernel,rfl,by decide +kernel,by decide +kernel⟩
def Some (m : Nat) (xs : List Nat) : Prop:=∃ ls : List Nat,(ls ++ xs).Perm (List.range m)
def fO : Sp:=fun vs H Q _=>∃ (p : Addr) (m c : Nat),vs = [.ref p,.int m,.int c]∧c ≤ m∧m ≤ 1000∧aY H p∧∀ (r : Addr) (xs : List Nat) (H' : Hp),aU p H H'→aY H' p→H r = none→H' r = some (.lst (NV xs))→Some m xs→xs.length = c→Q (.ref r) H'
abbrev rLen (K : PySem.W.Frag) : List V→Hp→VK→Prop:=fun xs H Q=>∃ p ys,xs = [V.ref p]∧(SqL K H p ys∨SqT K H p ys)∧Q (.int ys.length) H
theorem aBL {f : Addr} {fd : FuncData} (F : Fun K "_law_some" "_law_some" wR f fd) (B : Bl mg) (D : Cal P w K mg base CX0 1 "_law_digit" ["_law_pot_here", "_law_many"] dH) : FnOk P w K mg base CX0 2 f fd ["_law_pot_here", "_law_many", "_law_count"] fO:=by
 refine F.ok zO (fun vs H Q E h=>?_) (fun cdv A outer s H vs Q E hr h=>?_)
 ·obtain ⟨p,m,c,rfl,_⟩:=h
  rfl
 ·obtain ⟨p,m,c,rfl,hcm,hm,hp,q⟩:=h
  refine' ⟨_,aF (aV (i:=3) zO.nd rfl (Or.inr rfl) (eX (vX rfl) (by rfl) B.lst PyProof.Rows.boot_list (aA (eX sV (by rfl) B.range PyProof.Rows.boot_range (aA (pv 1) aB)) aB)))
   (aJ (aW ?c)),?_⟩
  case c =>
   refine' bJ (g:=aQ 0) (te:=tBM K "list" xN (tVar 1) (bK (lU dH [] E0 (bK (tVar 2) (bK (tCB (rLen K) (bK (tVar 1) tNil)) tNil))) tNil)) (NB:=["_law_k", "_law_left", "_law_pot_here"]) (src:=[none,some 3,some 0]) (bB (by kernel_rfl)) rfl
    (bZ rfl B.range (aA (pv 2) aB)) ?g ?t ?e
   case g=>exact fun cl C s₃ H₃ fp=>aL (i:=0) nbS rfl (Or.inl rfl) (Or.inr rfl)
   case t=>exact fun cl C s₃ H₃ fp=>cE
   case e=>exact fun cl C s₃ H₃ fp=>lW PySem.F.plainAttrs_list PySem.F.slot_list_pop PySem.F.type_list_pop aAb (pv 1) (aA (aN D hr aK (aA (pv 2) (aA (aO aR (by rfl) B.len PySem.boot_len (aA (pv 1) aB)) aB))) aB)
  refine ⟨_,rfl,m,rfl,fun R hR=>⟨R,m,rfl,aD,hm,fun L hL=>?_⟩⟩
  have s0 : Same H (upd (upd H R (.rng 0 m)) L (.lst ((List.range m).map fun (i : Nat)=>V.int i))):=(aE hR).trans (aE hL)
  have hLH : H L = none:=(aE hR).free hL
  refine ⟨_,rfl,c,rfl,by lia,by lia,fun D' hD=>?_⟩
  have hDH : H D' = none:=s0.free hD
  have npL : L ≠ p:=hp.ne hLH
  have npD : D' ≠ p:=hp.ne hDH
  have nLD : L ≠ D':=aM aD hD
  refine dM (n:=c) (lo:=0) (fun i ys σ H2=>(∃ k,σ = [k,some (.ref L),some (.ref p)])∧(∃ ls xs : List Nat,ys = NV xs∧H2 L = some (.lst (NV ls))∧(ls ++ xs).Perm (List.range m)∧xs.length = i)∧aU p H H2∧aY H2 p∧H2 D' = some (.lst ys))
   ⟨⟨_,rfl⟩,⟨List.range m,[],rfl,by rw [aI nLD,aD],by rw [List.append_nil],rfl⟩,fun b o e h=>?_,?_,aD⟩ ?_ ?_
  ·rw [aI (aM (s0 _ _ e) hD)]; exact s0 _ _ e
  ·exact (hp.same s0).same (aE hD)
  ·rintro i ys σ H2 Kt Kf hi ⟨⟨k',rfl⟩,⟨ls,xs,rfl,hL2,pm,lx⟩,sm,hp2,hD2⟩ kt kf
   have hls : ls.length + i = m:=by have:=pm.length_eq; rw [List.length_append,List.length_range,lx] at this; exact this
   refine ⟨_,rfl,.inl ⟨rfl,_,SqL.of hL2⟩,_,rfl,_,rfl,L,NV ls,rfl,.inl (SqL.of hL2),p,ls.length,by rw [cK]; rfl,by lia,by lia,hp2,fun d H3 hd se hp3=>?_⟩
   have e3L : H3 L = some (.lst (NV ls)):=se _ _ hL2 npL
   have e3D : H3 D' = some (.lst (NV xs)):=se _ _ hD2 npD
   refine ⟨L,NV ls,d,d,.int ((ls[d] : Nat) : Int),rfl,rfl,e3L,by lia,by lia,?_,gW hd,?_⟩
   ·exact (nF (iL (by rw [cK]; exact hd))).1
   ·have nDL : D' ≠ L:=nLD.symm
    refine kt _ _ _ (by rw [aI nDL]; exact e3D) (by rw [cK,lx]; exact Nat.lt_of_lt_of_le (show i < 1001 by lia) (by decide)) ⟨⟨_,rfl⟩,⟨ls.eraseIdx d,xs ++ [ls[d]],iR,?_,?_,by rw [List.length_append,lx]; rfl⟩,fun b' o e h=>?_,?_,aD⟩
    ·rw [aI nLD,aD]
     congr 2
     unfold NV
     exact jH _ _ _
    ·refine List.Perm.trans ?_ pm
     have h1 : (ls[d] :: ls.eraseIdx d).Perm ls:=jI hd
     rw [← List.append_assoc]
     refine List.perm_append_singleton _ _ |>.trans ?_
     rw [← List.cons_append]
     exact h1.append_right xs
    ·rw [aI (aM e hDH),aI (aM e hLH)]; exact se _ _ (sm _ _ e h) h
    ·exact (hp3.put npL.symm).put npD.symm
  ·rintro ys σ H2 ⟨_,⟨ls,xs,rfl,_,pm,lx⟩,sm,hp2,hD2⟩
   exact q D' xs H2 sm hp2 hDH hD2 ⟨ls,pm⟩ lx
end
end K12
namespace K12
open PySem L2 NetM
theorem uY {i : Nat} {v : V} {σ : St} {H : Hp} {k : St→Hp→Prop} (h : k (σ.set i (some v)) H) : aQ i v σ H k:=h
theorem aCn {t u : TS} {D : Ends} {σ : St} {H : Hp} (h : t { D with nx:=fun σ H=>u D σ H } σ H) : tSeq t u D σ H:=h
theorem dI {K : PySem.W.Frag} {a D : Addr} {zs : Zs} {g : TG} {tt : TT} {te : TE} {fin : Hp→Prop} {σB : St} {H0 : Hp} (c : Int × Int→Bool) (shape : St→Prop) (ha : H0 a = some (.lst (zr zs))) (hD : H0 D = none) (hn : zs.length ≤ 1000) (h0 : shape σB)
  (hs : ∀ z σ H (Kt : V→St→Hp→Prop) (Kf : St→Hp→Prop),z∈zs→shape σ→Same H0 H→(∀ σ2 H2,shape σ2→Same H H2→c z.2 = true→Kt (.ref z.1) σ2 H2)→(∀ σ2 H2,shape σ2→Same H H2→c z.2 = false→Kf σ2 H2) →
   g (.ref z.1) σ H fun σ2 H2=>tt σ2 H2 fun b H3=>if b = true then te σ2 H3 fun v H4=>Kt v σ2 H4 else Kf σ2 H3)
  (hd : ∀ H,Same H0 H→H D = some (.lst (zr (zs.filter fun z=>c z.2)))→fin H) : eB (Itl K a) g tt te D fin σB (upd H0 D (.lst [])):=by
 refine cQ (xs:=zr zs) (fun i ys σ H=>shape σ∧Same H0 H∧H D = some (.lst ys)∧ys = zr ((zs.take i).filter fun z=>c z.2)) ⟨h0,aE hD,aD,rfl⟩ (fun i ys σ H _ z=>SqL.of (z.2.1 _ _ ha)) ?_ ?_
 ·rintro i x ys σ H Kt Kf hx ⟨sh,sm,hDl,rfl⟩ kt kf
  obtain ⟨z,hz,rfl⟩:=fL hx
  have hi : i < zs.length:=(List.getElem?_eq_some_iff.mp hz).1
  have tk : zs.take (i + 1) = zs.take i ++ [z]:=by rw [List.take_add_one,hz]; rfl
  refine hs z σ H Kt Kf (List.mem_of_getElem? hz) sh sm (fun σ2 H2 sh2 s2 e=>?_) (fun σ2 H2 sh2 s2 e=>?_)
  ·refine kt _ _ _ (s2 _ _ hDl) ?_ ⟨sh2,bR (sm.trans s2) hD,aD,?_⟩
   ·rw [aZ]
    exact Nat.lt_of_le_of_lt (List.length_filter_le _ _) (Nat.lt_of_le_of_lt (List.length_take_le _ _) (Nat.lt_of_lt_of_le (show i < 1000 by lia) (by decide)))
   ·rw [tk,List.filter_append,cA]
    simp [List.filter_cons,e,zr]
  ·refine kf _ _ ⟨sh2,sm.trans s2,s2 _ _ hDl,?_⟩
   rw [tk,List.filter_append]
   simp [List.filter_cons,e]
 ·rintro ys σ H ⟨_,sm,hDl,rfl⟩
  rw [aZ,List.take_length] at hDl
  exact hd H sm hDl
theorem uZ {K : PySem.W.Frag} {a D : Addr} {xs : List Nat} {g : TG} {tt : TT} {te : TE} {fin : Hp→Prop} {σB : St} {H0 : Hp} (c : Nat→Bool) (shape : St→Prop) (ha : H0 a = some (.lst (NV xs))) (hD : H0 D = none) (hn : xs.length ≤ 1000) (h0 : shape σB)
  (hs : ∀ x σ H (Kt : V→St→Hp→Prop) (Kf : St→Hp→Prop),x∈xs→shape σ→Same H0 H→(∀ σ2 H2,shape σ2→Same H H2→c x = true→Kt (.int (x : Nat)) σ2 H2)→(∀ σ2 H2,shape σ2→Same H H2→c x = false→Kf σ2 H2) →
   g (.int (x : Nat)) σ H fun σ2 H2=>tt σ2 H2 fun b H3=>if b = true then te σ2 H3 fun v H4=>Kt v σ2 H4 else Kf σ2 H3)
  (hd : ∀ H,Same H0 H→H D = some (.lst (NV (xs.filter c)))→fin H) : eB (Itl K a) g tt te D fin σB (upd H0 D (.lst [])):=by
 refine cQ (xs:=NV xs) (fun i ys σ H=>shape σ∧Same H0 H∧H D = some (.lst ys)∧ys = NV ((xs.take i).filter c)) ⟨h0,aE hD,aD,rfl⟩ (fun i ys σ H _ z=>SqL.of (z.2.1 _ _ ha)) ?_ ?_
 ·rintro i x ys σ H Kt Kf hx ⟨sh,sm,hDl,rfl⟩ kt kf
  obtain ⟨z,hz,rfl⟩:=wM hx
  have hi : i < xs.length:=(List.getElem?_eq_some_iff.mp hz).1
  have tk : xs.take (i + 1) = xs.take i ++ [z]:=by rw [List.take_add_one,hz]; rfl
  refine hs z σ H Kt Kf (List.mem_of_getElem? hz) sh sm (fun σ2 H2 sh2 s2 e=>?_) (fun σ2 H2 sh2 s2 e=>?_)
  ·refine kt _ _ _ (s2 _ _ hDl) ?_ ⟨sh2,bR (sm.trans s2) hD,aD,?_⟩
   ·rw [cK]
    exact Nat.lt_of_le_of_lt (List.length_filter_le _ _) (Nat.lt_of_le_of_lt (List.length_take_le _ _) (Nat.lt_of_lt_of_le (show i < 1000 by lia) (by decide)))
   ·rw [tk,List.filter_append,iR]
    simp [List.filter_cons,e]
  ·refine kf _ _ ⟨sh2,sm.trans s2,s2 _ _ hDl,?_⟩
   rw [tk,List.filter_append]
   simp [List.filter_cons,e]
 ·rintro ys σ H ⟨_,sm,hDl,rfl⟩
  rw [cK,List.take_length] at hDl
  exact hd H sm hDl
theorem vA {K : PySem.W.Frag} {a D : Addr} {zs : Zs} {g : TG} {tt : TT} {te : TE} {fin : Hp→Prop} {σB : St} {H0 : Hp} (c : Int × Int→Bool) (q : Int × Int→Int) (shape : St→Prop) (ha : H0 a = some (.lst (zr zs))) (hD : H0 D = none) (hn : zs.length ≤ 1000) (h0 : shape σB)
  (hs : ∀ z σ H (Kt : V→St→Hp→Prop) (Kf : St→Hp→Prop),z∈zs→shape σ→Same H0 H→(∀ σ2 H2,shape σ2→Same H H2→c z.2 = true→Kt (.int (q z.2)) σ2 H2)→(∀ σ2 H2,shape σ2→Same H H2→c z.2 = false→Kf σ2 H2) →
   g (.ref z.1) σ H fun σ2 H2=>tt σ2 H2 fun b H3=>if b = true then te σ2 H3 fun v H4=>Kt v σ2 H4 else Kf σ2 H3)
  (hd : ∀ H,Same H0 H→H D = some (.lst (IV (((zp zs).filter c).map q)))→fin H) : eB (Itl K a) g tt te D fin σB (upd H0 D (.lst [])):=by
 refine cQ (xs:=zr zs) (fun i ys σ H=>shape σ∧Same H0 H∧H D = some (.lst ys)∧ys = IV ((((zp zs).take i).filter c).map q)) ⟨h0,aE hD,aD,rfl⟩ (fun i ys σ H _ z=>SqL.of (z.2.1 _ _ ha)) ?_ ?_
 ·rintro i x ys σ H Kt Kf hx ⟨sh,sm,hDl,rfl⟩ kt kf
  obtain ⟨z,hz,rfl⟩:=fL hx
  have hi : i < zs.length:=(List.getElem?_eq_some_iff.mp hz).1
  have tk : (zp zs).take (i + 1) = (zp zs).take i ++ [z.2]:=by rw [List.take_add_one,show (zp zs)[i]? = some z.2 by unfold zp; rw [List.getElem?_map,hz]; rfl]; rfl
  refine hs z σ H Kt Kf (List.mem_of_getElem? hz) sh sm (fun σ2 H2 sh2 s2 e=>?_) (fun σ2 H2 sh2 s2 e=>?_)
  ·refine kt _ _ _ (s2 _ _ hDl) ?_ ⟨sh2,bR (sm.trans s2) hD,aD,?_⟩
   ·rw [List.length_map,List.length_map]
    exact Nat.lt_of_le_of_lt (List.length_filter_le _ _) (Nat.lt_of_le_of_lt (List.length_take_le _ _) (Nat.lt_of_lt_of_le (show i < 1000 by lia) (by decide)))
   ·rw [tk,List.filter_append,List.map_append]
    simp [List.filter_cons,e]
  ·refine kf _ _ ⟨sh2,sm.trans s2,s2 _ _ hDl,?_⟩
   rw [tk,List.filter_append]
   simp [List.filter_cons,e]
 ·rintro ys σ H ⟨_,sm,hDl,rfl⟩
  rw [aZ,← aP,List.take_length] at hDl
  exact hd H sm hDl
theorem fP {e : V→V→Bool} : ∀ {xs : List V},dL e xs [] = decide (xs = [])
 | []=>rfl
 | x :: xs=>by simp [dL]
theorem iC {zs : Zs} {c : Int × Int→Bool} : zp (zs.filter fun z=>c z.2) = (zp zs).filter c:=by
 unfold zp
 rw [List.filter_map]; rfl
theorem dW {zs : Zs} {c : Int × Int→Bool} : (zr (zs.filter fun z=>c z.2)).length = ((zp zs).filter c).length:=by rw [aZ,← aP,iC]
theorem oC {xs : List Nat} {k : Nat} (h : k < xs.length) : atI (NV xs) ((k : Int) - 1) = some (.int ((xs.getD (NetM.pk xs.length k) 0 : Nat) : Int)):=by
 unfold NetM.pk
 by_cases k0 : k = 0
 ·subst k0
  rw [if_pos rfl]
  have e : NV xs = NV (xs.take (xs.length - 1)) ++ [.int ((xs.getD (xs.length - 1) 0 : Nat) : Int)]:=by
   rw [iR]
   congr 1
   conv=>lhs; rw [← List.take_append_drop (xs.length - 1) xs]
   rw [List.drop_eq_getElem_cons (by lia),List.drop_eq_nil_of_le (by lia),bU (by lia)]
  rw [e]
  exact qI _ _
 ·rw [if_neg k0,show (k : Int) - 1 = ((k - 1 : Nat) : Int) by lia]
  exact bD (by rw [bU (by lia)]; exact gW (by lia))
theorem Some.nd {m : Nat} {xs : List Nat} (h : Some m xs) : xs.Nodup:=let ⟨ls,p⟩:=h; (List.nodup_append.mp (p.nodup_iff.mpr List.nodup_range)).2.1
theorem Some.lt {m : Nat} {xs : List Nat} (h : Some m xs) : ∀ x∈xs,x < m:=fun x hx=>let ⟨ls,p⟩:=h; List.mem_range.mp (p.mem_iff.mp (List.mem_append_right _ hx))
theorem Some.all {m : Nat} {xs : List Nat} (h : Some m xs) (hl : xs.length = m) : xs.Perm (List.range m):=by
 obtain ⟨ls,p⟩:=h
 have:=p.length_eq
 rw [List.length_append,List.length_range,hl] at this
 have : ls = []:=List.length_eq_zero_iff.mp (by lia)
 subst this
 simpa using p
abbrev mS : Stmt:=top 36
theorem nbRa : (["_law_k", "_law_some_here"] : List Str).Nodup:=by decide +kernel
theorem nbRb : (["_law_one", "_law_other", "_law_ties"] : List Str).Nodup:=by decide +kernel
theorem nbRc : (["_law_tie", "_law_one"] : List Str).Nodup:=by decide +kernel
theorem nbRd : (["_law_tie", "_law_ties"] : List Str).Nodup:=by decide +kernel
section
variable {P : Program} {w : World} {K : PySem.W.Frag} {mg : Str→Option Value} {base : Heap}
theorem kS : aS ["_law_pot_here", "_law_many", "_law_ties", "_law_some_here", "_law_more_here", "_law_full"] ["_law_pot_here", "_law_many", "_law_ties"] (aH mS):=⟨rfl,rfl,rfl,by decide +kernel,rfl,by decide +kernel,by decide +kernel⟩
structure Tl (p : Addr) (H : Hp) (l : Addr) (n : Nat) (zs : Zs) : Prop where
 t : cT H l n zs
 ne : l ≠ p
def kT : Sp:=fun vs H Q _=>∃ (p : Addr) (n : Nat) (l : Addr) (zs : Zs),vs = [.ref p,.int n,.ref l]∧aY H p∧Tl p H l n zs∧∀ (r : Addr) (zs' : Zs) (H' : Hp),aU p H H'→aY H' p→Tl p H' r n zs'→Q (.ref r) H'
theorem aAA {f : Addr} {fd : FuncData} (F : Fun K "_law_round" "_law_round" mS f fd) (B : Bl mg) (D : Cal P w K mg base CX0 1 "_law_digit" ["_law_pot_here", "_law_many"] dH) (SM : Cal P w K mg base CX0 2 "_law_some" ["_law_pot_here", "_law_many", "_law_count"] fO) :
  FnOk P w K mg base CX0 3 f fd ["_law_pot_here", "_law_many", "_law_ties"] kT:=by
 refine F.ok kS (fun vs H Q E h=>?_) (fun cdv A outer s H vs Q E hr h=>?_)
 ·obtain ⟨p,n,l,zs,rfl,_⟩:=h
  rfl
 ·obtain ⟨p,n,l,zs,rfl,hp,⟨TT,lne⟩,q⟩:=h
  have hu : (A.deeper (PyProof.Rows.envOfC "_law_round" (aH mS) s.heap.objs.size f cdv)).units + 2 < cLine:=by have:=hr.un; lia
  refine' ⟨_,aF (aV (i:=3) kS.nd rfl (Or.inr rfl) (aN SM hr aK (aA (pv 0) (aA (pv 1) (aA (bA dA aG (aN D (hr.mono (by decide)) aK (aA (pv 0) (aA (aO (oK rfl) (by rfl) B.min PyProof.Rows.boot_min (aA aG (aA (bA gD (pv 1) aG) aB))) aB)))) aB)))))
   (aF (cN (i:=4) (g:=aQ 0) (te:=tTup (bK (tOp (rIxL K) (tVar 1) (tOp (rI0 fun i j=>.int (i - j)) (tVar 0) (tC (.int 1)))) (bK (tOp (rIxL K) (tVar 1) (tVar 0)) tNil))) (NB:=["_law_k", "_law_some_here"]) (src:=[none,some 3]) (bB (by kernel_rfl)) rfl (bZ rfl B.range (aA (aO aR (by rfl) B.len PySem.boot_len (aA (pv 3) aB)) aB)) ?g1 ?t1 ?e1 kS.nd rfl rfl rfl)
   (aF (cN (i:=5) (g:=gTup K 2 (cU (aQ 0) (cU (aQ 1) gNil))) (tt:=cD (tOp (rI0 fun i j=>.bl (decide (i > j))) (tCB (rLen K) (bK (iA [none,some 0] (iU K (tVar 2)) (aQ 0) (cD (tOp rEq (tOp (rIxT K) (tVar 0) (tC (.int 0))) (tVar 1))) (tVar 0)) tNil)) (tC (.int 7)))) (te:=tVar 0) (NB:=["_law_one", "_law_other", "_law_ties"]) (src:=[none,none,some 2]) (bB (by kernel_rfl)) rfl (bG (pv 4)) ?g2 ?t2 ?e2 kS.nd rfl rfl rfl)
   (aF (bV (PW.pt (xB (aT (mD (e:=eqV) hu) (pv 5) (cC aB) (aX _)) (tK (aT (mD (e:=eqV) hu) ?c3 (cC aB) (aX _))))) (aJ (aW (bA gH (pv 2) (pv 4)))) bQ)
   (aJ (aW (pv 2)))))),?_⟩
  case g1=>exact fun cl C s₃ H₃ fp=>aL (i:=0) nbRa rfl (Or.inl rfl) (Or.inr rfl)
  case t1=>exact fun cl C s₃ H₃ fp=>cE
  case e1=>exact fun cl C s₃ H₃ fp=>bF (aA (bH bE (pv 1) (bA gD (pv 0) aG) (fun _ _=>rfl)) (aA (bH bE (pv 1) (pv 0) (fun _ _=>rfl)) aB))
  case g2=>exact fun cl C s₃ H₃ fp=>dF (n:=2) rfl (bC (aL (i:=0) nbRb rfl (Or.inr rfl) (Or.inl rfl)) (bC (aL (i:=1) nbRb rfl (Or.inl rfl) (Or.inr rfl)) cR))
  case t2 =>
   intro cl C s₃ H₃ fp
   refine' bS (aT pO (aO aR (by rfl) B.len PySem.boot_len (aA ?c aB)) aG (aX _))
   case c =>
    refine' bJ (g:=aQ 0) (tt:=cD (tOp rEq (tOp (rIxT K) (tVar 0) (tC (.int 0))) (tVar 1))) (te:=tVar 0) (NB:=["_law_tie", "_law_one"]) (src:=[none,some 0]) (bB (by kernel_rfl)) rfl (bG (pv 2)) ?g ?t ?e
    case g=>exact fun cl C s₃ H₃ fp=>aL (i:=0) nbRc rfl (Or.inl rfl) (Or.inr rfl)
    case t=>exact fun cl C s₃ H₃ fp=>bS (aT cI (bH eK (pv 0) aG (fun _ _=>rfl)) (pv 1) (aX _))
    case e=>exact fun cl C s₃ H₃ fp=>pv 0
  case e2=>exact fun cl C s₃ H₃ fp=>pv 0
  case c3 =>
   refine' bJ (g:=aQ 0) (tt:=cD (tOp (rInP K false) (tVar 0) (tVar 1))) (te:=tVar 0) (NB:=["_law_tie", "_law_ties"]) (src:=[none,some 2]) (bB (by kernel_rfl)) rfl (bG (pv 4)) ?g ?t ?e
   case g=>exact fun cl C s₃ H₃ fp=>aL (i:=0) nbRd rfl (Or.inl rfl) (Or.inr rfl)
   case t=>exact fun cl C s₃ H₃ fp=>bS (aT (rA hu) (pv 0) (pv 1) rfl)
   case e=>exact fun cl C s₃ H₃ fp=>pv 0
  obtain ⟨fi,hl,po⟩:=id TT
  have n1:=fi.n1
  have n2:=fi.n2
  have hlen : zs.length ≤ 256:=by have:=fi.len; rw [aP] at this; exact this
  have em : (if (n : Int) - 1 < 4 then (n : Int) - 1 else 4) = ((min 4 (n - 1) : Nat) : Int):=by split <;> lia
  refine ⟨_,rfl,_,rfl,_,rfl,_,rfl,_,_,rfl,rfl,_,_,rfl,p,min 4 (n - 1),by rw [em]; rfl,by lia,by lia,hp,fun d H1 hd s1 hp1=>?_⟩
  refine ⟨_,_,rfl,rfl,p,n,2 + d,(show [V.ref p,V.int (n : Int),V.int ((2 : Int) + (d : Int))] = [V.ref p,V.int (n : Int),V.int (((2 + d : Nat)) : Int)] by rw [show (2 : Int) + (d : Int) = ((2 + d : Nat) : Int) by lia]),by lia,by lia,hp1,fun r xs H2 s2 hp2 hr2 hx sm lx=>?_⟩
  have s12 : aU p H H2:=s1.trans s2
  have hl2 : H2 l = some (.lst (zr zs)):=s12 _ _ hl lne
  have po2 : PO H2 zs:=po.sameE s12 hp
  refine ⟨_,rfl,r,_,rfl,.inl (SqL.of hx),(xs.length : Nat),by rw [cK],by lia,by lia,fun M hM=>?_⟩
  refine jA (lo:=0) (n:=xs.length) (fun k=>(ci (xs.getD (NetM.pk xs.length k) 0),ci (xs.getD k 0))) (fun σ=>∃ a,σ = [a,some (.ref r)]) hM (by lia) ⟨_,rfl⟩ ?_ ?_
  ·rintro i σ H3 R Kf hi ⟨a,rfl⟩ sm3 kk
   have hx3:=sm3 _ _ hx
   refine ⟨_,rfl,_,rfl,_,_,rfl,rfl,r,_,_,_,rfl,rfl,SqL.of hx3,by rw [Int.zero_add]; exact oC hi,_,rfl,_,rfl,r,_,_,_,rfl,rfl,SqL.of hx3,by rw [Int.zero_add]; exact bD (gW hi),by show 2 ≤ sizeLine; decide,fun t ht=>?_⟩
   have:=kk [some (.int (0 + (i : Int))),some (.ref r)] t ⟨_,rfl⟩ ht
   rw [bU hi] at this
   exact this
  ·intro zs2 H3 sm3 hM3 po3 ez _
   have ez' : zp zs2 = cyc xs:=ez
   have hl2' : zs2.length = xs.length:=by rw [← aP,ez',show (cyc xs).length = xs.length by unfold cyc; simp]
   have hl3:=sm3 _ _ hl2
   have p3 : PO H3 zs:=po2.same sm3
   refine ⟨_,rfl,M,rfl,⟨_,SqL.of hM3⟩,fun D1 hD1=>?_⟩
   refine vA (fun t=>decide (((zp zs).filter fun u=>decide (u.1 = t.1)).length > 7)) (·.1) (fun σ=>∃ a b,σ = [a,b,some (.ref l)]) hM3 hD1 (by lia) ⟨_,_,rfl⟩ ?_ ?_
   ·rintro z σ H4 Kt Kf hz ⟨a,b,rfl⟩ sm4 kt kf
    have hz4:=sm4 _ _ (po3 z hz)
    refine ⟨z.1,_,rfl,SqT.of hz4,rfl,_,_,rfl,_,_,rfl,rfl,?_⟩
    refine ⟨_,rfl,l,rfl,⟨_,SqL.of (sm4 _ _ hl3)⟩,fun D2 hD2=>?_⟩
    refine dI (fun u=>decide (u.1 = z.2.1)) (fun σ=>∃ a,σ = [a,some (.int z.2.1)]) (sm4 _ _ hl3) hD2 (by lia) ⟨_,rfl⟩ ?_ ?_
    ·rintro y σ H5 Kt' Kf' hy ⟨a',rfl⟩ sm5 kt' kf'
     have hy5:=sm5 _ _ (sm4 _ _ (p3 y hy))
     refine ⟨_,rfl,y.1,_,_,_,rfl,rfl,SqT.of hy5,bD (j:=0) rfl,_,rfl,rfl,_,rfl,?_⟩
     refine ite2 (fun e=>?_) (fun e=>?_)
     ·exact ⟨_,rfl,kt' _ _ ⟨_,rfl⟩ (Same.refl _) (by simpa using e)⟩
     ·exact kf' _ _ ⟨_,rfl⟩ (Same.refl _) (by simpa using e)
    ·intro H5 sm5 hD5
     refine ⟨D2,_,rfl,.inl (SqL.of hD5),_,_,rfl,rfl,_,rfl,?_⟩
     have eL : (zr (zs.filter fun y=>decide (y.2.1 = z.2.1))).length = ((zp zs).filter fun u=>decide (u.1 = z.2.1)).length:=dW (c:=fun u=>decide (u.1 = z.2.1))
     refine ite2 (fun e=>?_) (fun e=>?_)
     ·refine ⟨_,rfl,kt _ _ ⟨_,_,rfl⟩ sm5 ?_⟩
      have e' : (((zr (zs.filter fun y=>decide (y.2.1 = z.2.1))).length : Nat) : Int) > 7:=by simpa using e
      rw [eL] at e'
      simp only [decide_eq_true_eq]; lia
     ·refine kf _ _ ⟨_,_,rfl⟩ sm5 ?_
      have e' : ¬ (((zr (zs.filter fun y=>decide (y.2.1 = z.2.1))).length : Nat) : Int) > 7:=by simpa using e
      rw [eL] at e'
      simp only [decide_eq_false_iff_not]; lia
   ·intro H4 sm4 hD4
    have hl4:=sm4 _ _ hl3
    have hM4:=sm4 _ _ hM3
    have p4 : PO H4 zs:=p3.same sm4
    have po4 : PO H4 zs2:=po3.same sm4
    have s24 : Same H2 H4:=sm3.trans sm4
    refine uY ?_
    dsimp only
    refine aCn ?_
    refine if_k (fun Hc=>Same H4 Hc∧(∀ t∈cyc xs,((zp zs).filter fun u=>decide (u.1 = t.1)).length ≤ 7)∧∀ t∈cyc xs,t ∉ zp zs) (fun Hc=>Same H4 Hc) ?_ ?_ ?_
    ·rintro Hc ⟨smc,h7,hnew⟩
     have hlc:=smc _ _ hl4
     have hMc:=smc _ _ hM4
     have fi' : Fine n (zp zs ++ cyc xs):=fi.app (yV fi.pre sm.nd sm.lt (by lia) h7 hnew)
     refine ⟨_,rfl,_,rfl,l,M,_,_,rfl,rfl,hlc,hMc,?_,fun r3 hr3=>?_⟩
     ·rw [aZ,aZ,hl2',lx]
      exact Nat.le_trans (show zs.length + (2 + d) ≤ 300 by lia) (by decide)
     ·have s2c : Same H2 (upd Hc r3 (.lst (zr zs ++ zr zs2))):=(s24.trans smc).trans (aE hr3)
      have r3n : H2 r3 = none:=(s24.trans smc).free hr3
      refine q r3 (zs ++ zs2) _ (s12.trans (aU.of s2c)) (hp2.same s2c) ⟨⟨by rw [cH,ez']; exact fi',by rw [aD,cA],?_⟩,hp2.ne r3n⟩
      exact ((p4.same smc).append (po4.same smc)).putN hr3
    ·rintro Hc smc
     refine ⟨_,rfl,?_⟩
     have s2c : Same H2 Hc:=s24.trans smc
     exact q l zs _ (s12.trans (aU.of s2c)) (hp2.same s2c) ⟨⟨fi,smc _ _ hl4,p4.same smc⟩,lne⟩
    ·intro Y N hY hN
     refine ⟨_,rfl,by show 0 ≤ sizeLine; decide,fun L1 hL1=>?_⟩
     have sL1 : Same H4 (upd H4 L1 (.lst [])):=aE hL1
     refine ⟨D1,L1,_,[],rfl,rfl,SqL.of (sL1 _ _ hD4),SqL.of aD,fun i h1 h2=>absurd h2 (by simp),_,rfl,?_⟩
     rw [if_neg Bool.false_ne_true,fP]
     by_cases hfull : IV (((zp zs2).filter fun t=>decide (((zp zs).filter fun u=>decide (u.1 = t.1)).length > 7)).map (·.1)) = []
     ·rw [decide_eq_true hfull]
      refine iteT ?_
      refine ⟨_,rfl,M,rfl,⟨_,SqL.of (sL1 _ _ hM4)⟩,fun D2 hD2=>?_⟩
      refine dI (fun u=>decide (u∈zp zs)) (fun σ=>∃ a,σ = [a,some (.ref l)]) (sL1 _ _ hM4) hD2 (by lia) ⟨_,rfl⟩ ?_ ?_
      ·rintro y σ H5 Kt' Kf' hy ⟨a',rfl⟩ sm5 kt' kf'
       have hy5:=sm5 _ _ (sL1 _ _ (po4 y hy))
       refine ⟨_,rfl,_,rfl,fN hy5 (sm5 _ _ (sL1 _ _ hl4)) ((p4.same sL1).same sm5) ⟨_,rfl,?_⟩⟩
       rw [if_neg Bool.false_ne_true]
       refine ite2 (fun e=>?_) (fun e=>?_)
       ·exact ⟨_,rfl,kt' _ _ ⟨_,rfl⟩ (Same.refl _) (by simpa using e)⟩
       ·exact kf' _ _ ⟨_,rfl⟩ (Same.refl _) (by simpa using e)
      ·intro H5 sm5 hD5
       refine ⟨by show 0 ≤ sizeLine; decide,fun L2 hL2=>?_⟩
       have sL2 : Same H5 (upd H5 L2 (.lst [])):=aE hL2
       refine ⟨D2,L2,_,[],rfl,rfl,SqL.of (sL2 _ _ hD5),SqL.of aD,fun i h1 h2=>absurd h2 (by simp),_,rfl,?_⟩
       rw [if_neg Bool.false_ne_true,fP]
       have s4c : Same H4 (upd H5 L2 (.lst [])):=(sL1.trans sm5).trans sL2
       by_cases hin : zr (zs2.filter fun y=>decide (y.2∈zp zs)) = []
       ·rw [decide_eq_true hin]
        refine iteT (hY _ ⟨s4c,fun t ht=>?_,fun t ht hz=>?_⟩)
        ·have hf : (zp zs2).filter (fun t=>decide (((zp zs).filter fun u=>decide (u.1 = t.1)).length > 7)) = []:=by
          have:=List.map_eq_nil_iff.mp (List.map_eq_nil_iff.mp hfull)
          exact this
         have:=List.filter_eq_nil_iff.mp hf t (by rw [ez']; exact ht)
         simp only [decide_eq_true_eq] at this
         lia
        ·have hf : zs2.filter (fun y=>decide (y.2∈zp zs)) = []:=List.map_eq_nil_iff.mp hin
         rw [← ez'] at ht
         obtain ⟨y,hy,rfl⟩:=List.mem_map.mp ht
         have:=List.filter_eq_nil_iff.mp hf y hy
         simp only [decide_eq_true_eq] at this
         exact this hz
       ·rw [decide_eq_false hin]
        exact iteF (hN _ s4c)
     ·rw [decide_eq_false hfull]
      exact iteF (hN _ sL1)
end
end K12
namespace K12
open PySem L2 NetM
theorem aAB {js : List Nat} {k : Nat} : cutV (NV js) none (some (k : Int)) = NV (js.take k):=by
 have h1 : HT.sIx (NV js).length 0 none = 0:=rfl
 have h2 : HT.sIx (NV js).length (NV js).length (some (k : Int)) = min k js.length:=by
  unfold HT.sIx
  simp
  try lia
 unfold cutV
 rw [h1,h2,List.drop_zero,Nat.sub_zero]
 unfold NV
 rw [List.map_take,List.take_eq_take_iff]
 simp
 try lia
abbrev wU : Stmt:=top 37
theorem nbTa : (["_law_house", "_law_ties"] : List Str).Nodup:=by decide +kernel
theorem nbTb : (["_law_tie", "_law_house"] : List Str).Nodup:=by decide +kernel
section
variable {P : Program} {w : World} {K : PySem.W.Frag} {mg : Str→Option Value} {base : Heap}
theorem hJ : aS ["_law_pot_here", "_law_many", "_law_order", "_law_ties", "_law_k", "_law_free", "_law_stem"] ["_law_pot_here", "_law_many"] (aH wU):=⟨rfl,rfl,rfl,by decide +kernel,rfl,by decide +kernel,by decide +kernel⟩
def kE : Sp:=fun vs H Q _=>∃ (p : Addr) (n : Nat),vs = [.ref p,.int n]∧aY H p∧2 ≤ n∧n ≤ 32∧∀ (r : Addr) (zs : Zs) (H' : Hp),aU p H H'→aY H' p→Tl p H' r n zs→(∃ ps : Ts,zp zs = dbl ps)→zs.length + 2 = 2 * n→Q (.ref r) H'
theorem aBM {f : Addr} {fd : FuncData} (F : Fun K "_law_tree" "_law_tree" wU f fd) (B : Bl mg) (D : Cal P w K mg base CX0 1 "_law_digit" ["_law_pot_here", "_law_many"] dH) (SM : Cal P w K mg base CX0 2 "_law_some" ["_law_pot_here", "_law_many", "_law_count"] fO) :
  FnOk P w K mg base CX0 3 f fd ["_law_pot_here", "_law_many"] kE:=by
 refine F.ok hJ (fun vs H Q E h=>?_) (fun cdv A outer s H vs Q E hr h=>?_)
 ·obtain ⟨p,n,rfl,_⟩:=h
  rfl
 ·obtain ⟨p,n,rfl,hp,n1,n2,q⟩:=h
  refine' ⟨_,aF (aV (i:=2) hJ.nd rfl (Or.inl rfl) (aN SM hr aK (aA (pv 0) (aA (pv 1) (aA (pv 1) aB)))))
   (aF (aV (i:=3) hJ.nd rfl (Or.inr rfl) (cC aB))
   (aF (gC PassesOwn.never rfl (xE rfl B.range (aA aG (aA (pv 1) aB))) (aL (i:=4) hJ.nd rfl (Or.inl rfl))
    (aF (cN (i:=5) (g:=aQ 0) (tt:=cD (tOp (rI0 fun i j=>.bl (decide (i < j))) (tCB (rLen K) (bK (iA [none,some 0] (iU K (tVar 1)) (aQ 0) (cD (tOp rEq (tOp (rIxT K) (tVar 0) (tC (.int 0))) (tVar 1))) (tVar 0)) tNil)) (tC (.int 8)))) (te:=tVar 0) (NB:=["_law_house", "_law_ties"]) (src:=[none,some 3]) (bB (by kernel_rfl)) rfl (bG (aAa aA4 (pv 2) nB (nE (pv 4)))) ?g1 ?t1 ?e1 hJ.nd rfl rfl rfl)
    (aF (aV (i:=6) hJ.nd rfl (Or.inl rfl) (bH bE (pv 5) (aN D (hr.mono (by decide)) aK (aA (pv 0) (aA (aO aR (by rfl) B.len PySem.boot_len (aA (pv 5) aB)) aB))) (fun _ _=>rfl)))
    (aJ (aV (i:=3) hJ.nd rfl (Or.inr rfl) (bA gH (pv 3) (cC (aA (bF (aA (pv 6) (aA (bH bE (pv 2) (pv 4) (fun _ _=>rfl)) aB))) (aA (bF (aA (bH bE (pv 2) (pv 4) (fun _ _=>rfl)) (aA (pv 6) aB))) aB)))))))))
   (aJ (aW (pv 3))))),?_⟩
  case g1=>exact fun cl C s₃ H₃ fp=>aL (i:=0) nbTa rfl (Or.inr rfl) (Or.inl rfl)
  case t1 =>
   intro cl C s₃ H₃ fp
   refine' bS (aT kH (aO aR (by rfl) B.len PySem.boot_len (aA ?c aB)) aG (aX _))
   case c =>
    refine' bJ (g:=aQ 0) (tt:=cD (tOp rEq (tOp (rIxT K) (tVar 0) (tC (.int 0))) (tVar 1))) (te:=tVar 0) (NB:=["_law_tie", "_law_house"]) (src:=[none,some 0]) (bB (by kernel_rfl)) rfl (bG (pv 1)) ?g ?t ?e
    case g=>exact fun cl C s₃ H₃ fp=>aL (i:=0) nbTb rfl (Or.inl rfl) (Or.inr rfl)
    case t=>exact fun cl C s₃ H₃ fp=>bS (aT cI (bH eK (pv 0) aG (fun _ _=>rfl)) (pv 1) (aX _))
    case e=>exact fun cl C s₃ H₃ fp=>pv 0
  case e1=>exact fun cl C s₃ H₃ fp=>pv 0
  refine ⟨_,rfl,_,rfl,_,rfl,p,n,n,rfl,by lia,by lia,hp,fun O os H1 s1 hp1 hO1 hO so lo=>?_⟩
  have pm:=so.all lo
  have nd:=so.nd
  have lt:=so.lt
  have nO : O ≠ p:=hp.ne hO1
  refine ⟨by show 0 ≤ sizeLine; decide,fun L0 hL0=>?_⟩
  have nL0 : L0 ≠ p:=hp1.ne hL0
  refine ⟨_,rfl,1,(n : Int),rfl,⟨by decide,by decide,by lia,by lia⟩,?_⟩
  rw [show ((n : Int) - 1).toNat = n - 1 by lia]
  refine hV (lo:=1) (n:=n - 1) (fun i σ Hc=>∃ (L : Addr) (zs : Zs),(∃ a b c,σ = [some (.ref p),some (.int n),some (.ref O),some (.ref L),a,b,c])∧aU p H Hc∧aY Hc p∧Hc O = some (.lst (NV os))∧L ≠ p∧Hc L = some (.lst (zr zs))∧PO Hc zs∧Tree n os (i + 1) (zp zs)∧∃ ps : Ts,zp zs = dbl ps)
   ⟨L0,[],⟨none,none,none,rfl⟩,s1.trans (aU.of (aE hL0)),hp1.same (aE hL0),aE hL0 _ _ hO,nL0,aD,PO.nil,Tree.start (by lia),[],rfl⟩ ?_ ?_
  ·rintro i σ Hc hi ⟨L,zs,⟨a,b,c,rfl⟩,sc,hpc,hOc,nL,hLc,po,Tr,ps,eps⟩
   have hzl : zs.length + 2 = 2 * (i + 1):=by have:=Tr.len; rw [aP] at this; exact this
   have e1 : (1 : Int) + (i : Int) = ((i + 1 : Nat) : Int):=by lia
   rw [e1]
   refine ⟨_,rfl,_,rfl,_,rfl,O,_,rfl,SqL.of hOc,fun S hS=>?_⟩
   rw [aAB]
   have smS : Same Hc (upd Hc S (.lst (NV (os.take (i + 1))))):=aE hS
   generalize hHs : upd Hc S (.lst (NV (os.take (i + 1)))) = Hs at smS
   have hSs : Hs S = some (.lst (NV (os.take (i + 1)))):=by rw [← hHs]; exact aD
   refine ⟨S,rfl,⟨_,SqL.of hSs⟩,fun D1 hD1=>?_⟩
   refine uZ (fun x=>decide (((zp zs).filter fun u=>decide (u.1 = ci x)).length < 8)) (fun σ=>∃ a,σ = [a,some (.ref L)]) hSs hD1 (by rw [List.length_take]; lia) ⟨_,rfl⟩ ?_ ?_
   ·rintro x σ H4 Kt Kf hx ⟨a',rfl⟩ sm4 kt kf
    have hL4:=sm4 _ _ (smS _ _ hLc)
    have po4 : PO H4 zs:=(po.same smS).same sm4
    refine ⟨_,rfl,L,rfl,⟨_,SqL.of hL4⟩,fun D2 hD2=>?_⟩
    refine dI (fun u=>decide (u.1 = ci x)) (fun σ=>∃ a,σ = [a,some (.int (x : Int))]) hL4 hD2 (by lia) ⟨_,rfl⟩ ?_ ?_
    ·rintro y σ H5 Kt' Kf' hy ⟨a'',rfl⟩ sm5 kt' kf'
     have hy5:=sm5 _ _ (po4 y hy)
     refine ⟨_,rfl,y.1,_,_,_,rfl,rfl,SqT.of hy5,bD (j:=0) rfl,_,rfl,rfl,_,rfl,?_⟩
     refine ite2 (fun e=>?_) (fun e=>?_)
     ·exact ⟨_,rfl,kt' _ _ ⟨_,rfl⟩ (Same.refl _) (by simpa using e)⟩
     ·exact kf' _ _ ⟨_,rfl⟩ (Same.refl _) (by simpa using e)
    ·intro H5 sm5 hD5
     refine ⟨D2,_,rfl,.inl (SqL.of hD5),_,_,rfl,rfl,_,rfl,?_⟩
     have eL : (zr (zs.filter fun y=>decide (y.2.1 = ci x))).length = ((zp zs).filter fun u=>decide (u.1 = ci x)).length:=dW (c:=fun u=>decide (u.1 = ci x))
     refine ite2 (fun e=>?_) (fun e=>?_)
     ·refine ⟨_,rfl,kt _ _ ⟨_,rfl⟩ sm5 ?_⟩
      have e' : (((zr (zs.filter fun y=>decide (y.2.1 = ci x))).length : Nat) : Int) < 8:=by simpa using e
      rw [eL] at e'
      simp only [decide_eq_true_eq]; lia
     ·refine kf _ _ ⟨_,rfl⟩ sm5 ?_
      have e' : ¬ (((zr (zs.filter fun y=>decide (y.2.1 = ci x))).length : Nat) : Int) < 8:=by simpa using e
      rw [eL] at e'
      simp only [decide_eq_false_iff_not]; lia
   ·intro H4 sm4 hD4
    generalize hfr : (os.take (i + 1)).filter (fun x=>decide (((zp zs).filter fun u=>decide (u.1 = ci x)).length < 8)) = fr at hD4
    have hfr0 : 0 < fr.length:=by
     obtain ⟨h,hh,hd⟩:=Tr.free nd (by lia)
     refine List.length_pos_of_mem (a:=h) ?_
     rw [← hfr]
     exact List.mem_filter.mpr ⟨hh,by simpa using hd⟩
    have hfrl : fr.length ≤ 1000:=by
     rw [← hfr]
     exact Nat.le_trans (List.length_filter_le _ _) (by rw [List.length_take]; lia)
    have sc4 : Same Hc H4:=smS.trans sm4
    have hpot4 : aY H4 p:=hpc.same sc4
    have nD1 : D1 ≠ p:=(hpc.same smS).ne hD1
    refine ⟨_,rfl,_,rfl,_,rfl,D1,_,rfl,.inl (SqL.of hD4),p,fr.length,by rw [cK]; rfl,hfr0,by lia,hpot4,fun d H5 hd s5 hp5=>?_⟩
    have hD5:=s5 _ _ hD4 nD1
    refine ⟨D1,_,_,_,rfl,rfl,SqL.of hD5,bD (gW hd),?_⟩
    have hst : fr[d]∈fr:=List.getElem_mem hd
    generalize fr[d] = st at hst
    rw [← hfr] at hst
    obtain ⟨st1,st2⟩:=List.mem_filter.mp hst
    simp only [decide_eq_true_eq] at st2
    have hv : os[i + 1]? = some os[i + 1]:=List.getElem?_eq_getElem (by lia)
    generalize os[i + 1]'(by lia) = v at hv
    have s05 : aU p Hc H5:=(aU.of sc4).trans s5
    have hO5:=s05 _ _ hOc nO
    have hL5:=s05 _ _ hLc nL
    have po5 : PO H5 zs:=po.sameE s05 hpc
    have gO : atI (NV os) ((i + 1 : Nat) : Int) = some (.int (v : Int)):=bD (by rw [List.getElem?_map,hv]; rfl)
    refine ⟨_,rfl,_,rfl,_,rfl,_,rfl,O,_,_,_,rfl,rfl,SqL.of hO5,gO,by show 2 ≤ sizeLine; decide,fun t1 ht1=>?_⟩
    have sA:=aE (o:=.tup [.int (st : Int),.int (v : Int)]) ht1
    refine ⟨_,rfl,_,rfl,O,_,_,_,rfl,rfl,SqL.of (sA _ _ hO5),gO,_,rfl,by show 2 ≤ sizeLine; decide,fun t2 ht2=>?_⟩
    have sB:=sA.trans (aE (o:=.tup [.int (v : Int),.int (st : Int)]) ht2)
    refine ⟨by show 2 ≤ sizeLine; decide,fun M hM=>?_⟩
    have sC:=sB.trans (aE (o:=.lst [.ref t1,.ref t2]) hM)
    refine ⟨L,M,_,_,rfl,rfl,sC _ _ hL5,aD,?_,fun L' hL'=>?_⟩
    ·rw [aZ]
     exact Nat.le_trans (show zs.length + 2 ≤ 200 by lia) (by decide)
    ·have sD:=sC.trans (aE (o:=.lst (zr zs ++ [.ref t1,.ref t2])) hL')
     refine ⟨L',zs ++ [(t1,(ci st,ci v)),(t2,(ci v,ci st))],⟨_,_,_,rfl⟩,(sc.trans s05).trans (aU.of sD),hp5.same sD,sD _ _ hO5,hp5.ne (sC.free hL'),?_,?_,?_,ps ++ [(ci st,ci v)],by rw [cH,eps,dQ]; rfl⟩
     ·rw [aD,cA]; rfl
     ·refine (po5.same sD).append fun z hz=>?_
      have e1 : (upd H5 t1 (.tup [.int (st : Int),.int (v : Int)])) t1 = some (prT (ci st,ci v)):=aD
      have e2 : (upd (upd H5 t1 (.tup [.int (st : Int),.int (v : Int)])) t2 (.tup [.int (v : Int),.int (st : Int)])) t2 = some (prT (ci v,ci st)):=aD
      rcases List.mem_cons.mp hz with rfl | hz
      ·exact aE hL' _ _ (aE hM _ _ (aE ht2 _ _ e1))
      ·obtain rfl:=List.mem_singleton.mp hz
       exact aE hL' _ _ (aE hM _ _ e2)
     ·rw [cH]
      exact Tr.add nd lt hv st1 st2
  ·rintro σ Hc ⟨L,zs,⟨a,b,c,rfl⟩,sc,hpc,hOc,nL,hLc,po,Tr,eps⟩
   rw [show n - 1 + 1 = n by lia] at Tr
   exact ⟨_,rfl,q L zs Hc sc hpc ⟨⟨Tr.fine n1 n2 pm,hLc,po⟩,nL⟩ eps (by have:=Tr.len; rwa [aP] at this)⟩
end
end K12
namespace K12
open PySem L2 NetM
abbrev sNet : Stmt:=top 38
theorem nbNa : (["_law_k", "_law_order"] : List Str).Nodup:=by decide +kernel
theorem nbNb : (["_law_k", "_law_ties"] : List Str).Nodup:=by decide +kernel
theorem oE {α : Type} (zs : List α) (d : α) : (List.range zs.length).map (fun k=>zs.getD k d) = zs:=by
 apply List.ext_getElem
 ·simp
 ·intro i h1 h2
  simp only [List.getElem_map,List.getElem_range]
  rw [List.getD_eq_getElem?_getD,List.getElem?_eq_getElem h2]; rfl
theorem pH {zs : Zs} {xs : List Nat} (h : xs.Perm (List.range zs.length)) : (xs.map fun k=>zs.getD k (0,(0,0))).Perm zs:=by
 have:=h.map fun k=>zs.getD k (0,(0,0))
 rw [oE] at this
 exact this
theorem Tl.sameE {p : Addr} {H H' : Hp} {l : Addr} {n : Nat} {zs : Zs} (t : Tl p H l n zs) (s : aU p H H') (hp : aY H p) : Tl p H' l n zs:=⟨⟨t.t.fine,s _ _ t.t.at_ t.ne,t.t.po.sameE s hp⟩,t.ne⟩
section
variable {P : Program} {w : World} {K : PySem.W.Frag} {mg : Str→Option Value} {base : Heap}
theorem fX : aS ["_law_pot_here", "_law_way", "_law_many", "_law_rounds", "_law_ties", "_law_order", "_law_k"] ["_law_pot_here"] (aH sNet):=⟨rfl,rfl,rfl,by decide +kernel,rfl,by decide +kernel,by decide +kernel⟩
def wV : Sp:=fun vs H Q _=>∃ (p : Addr),vs = [.ref p]∧aY H p∧∀ (t r : Addr) (n : Nat) (zs : Zs) (H' : Hp),aU p H H'→aY H' p→H' t = some (.tup [.int n,.ref r])→Tl p H' r n zs→H r = none→Q (.ref t) H'
theorem aCo {f : Addr} {fd : FuncData} (F : Fun K "_law_net" "_law_net" sNet f fd) (B : Bl mg) (D : Cal P w K mg base CX0 1 "_law_digit" ["_law_pot_here", "_law_many"] dH) (SM : Cal P w K mg base CX0 2 "_law_some" ["_law_pot_here", "_law_many", "_law_count"] fO)
  (TR : Cal P w K mg base CX0 3 "_law_tree" ["_law_pot_here", "_law_many"] kE) (RD : Cal P w K mg base CX0 3 "_law_round" ["_law_pot_here", "_law_many", "_law_ties"] kT) :
  FnOk P w K mg base CX0 4 f fd ["_law_pot_here"] wV:=by
 refine F.ok fX (fun vs H Q E h=>?_) (fun cdv A outer s H vs Q E hr h=>?_)
 ·obtain ⟨p,rfl,_⟩:=h
  rfl
 ·obtain ⟨p,rfl,hp,q⟩:=h
  have hr1 : Room 1 _:=hr.mono (by decide)
  have hr2 : Room 2 _:=hr.mono (by decide)
  refine' ⟨_,aF (aV (i:=1) fX.nd rfl (Or.inl rfl) (aN D hr1 aK (aA (pv 0) (aA aG aB))))
   (aF (aV (i:=2) fX.nd rfl (Or.inl rfl) (bA dA aG (aN D hr1 aK (aA (pv 0) (aA (bH bE (cC (aA aG (aA aG (aA aG aB)))) (pv 1) (fun _ _=>rfl)) aB)))))
   (aF (aV (i:=3) fX.nd rfl (Or.inl rfl) (aN D hr1 aK (aA (pv 0) (aA (bH bE (cC (aA aG (aA aG (aA aG aB)))) (pv 1) (fun _ _=>rfl)) aB))))
   (aF (bV (aT cI (pv 1) aG (aX _)) (aJ (aV (i:=4) fX.nd rfl (Or.inr rfl) (aN TR hr aK (aA (pv 0) (aA (pv 2) aB)))))
    (aF (aV (i:=5) fX.nd rfl (Or.inr rfl) (aN SM hr2 aK (aA (pv 0) (aA (pv 2) (aA (pv 2) aB)))))
    (aJ (aV (i:=4) fX.nd rfl (Or.inr rfl) ?c1))))
   (aF (gC PassesOwn.never rfl (bZ rfl B.range (aA (pv 3) aB)) (aL (i:=6) fX.nd rfl (Or.inl rfl))
    (aJ (aV (i:=4) fX.nd rfl (Or.inr rfl) (aN RD hr aK (aA (pv 0) (aA (pv 2) (aA (pv 4) aB)))))))
   (aJ (aW (bF (aA (pv 2) (aA ?c2 aB))))))))),?_⟩
  case c1 =>
   refine' bJ (g:=aQ 0) (te:=tTup (bK (tOp (rIxL K) (tVar 1) (tOp (rI0 fun i j=>.int (i - j)) (tVar 0) (tC (.int 1)))) (bK (tOp (rIxL K) (tVar 1) (tVar 0)) tNil))) (NB:=["_law_k", "_law_order"]) (src:=[none,some 5]) (bB (by kernel_rfl)) rfl (bZ rfl B.range (aA (pv 2) aB)) ?g ?t ?e
   case g=>exact fun cl C s₃ H₃ fp=>aL (i:=0) nbNa rfl (Or.inl rfl) (Or.inr rfl)
   case t=>exact fun cl C s₃ H₃ fp=>cE
   case e=>exact fun cl C s₃ H₃ fp=>bF (aA (bH bE (pv 1) (bA gD (pv 0) aG) (fun _ _=>rfl)) (aA (bH bE (pv 1) (pv 0) (fun _ _=>rfl)) aB))
  case c2 =>
   refine' bJ (g:=aQ 0) (te:=tOp (rIxL K) (tVar 1) (tVar 0)) (NB:=["_law_k", "_law_ties"]) (src:=[none,some 4]) (bB (by kernel_rfl)) rfl (bG (aN SM hr2 aK (aA (pv 0) (aA (aO aR (by rfl) B.len PySem.boot_len (aA (pv 4) aB)) (aA (aO aR (by rfl) B.len PySem.boot_len (aA (pv 4) aB)) aB))))) ?g ?t ?e
   case g=>exact fun cl C s₃ H₃ fp=>aL (i:=0) nbNb rfl (Or.inl rfl) (Or.inr rfl)
   case t=>exact fun cl C s₃ H₃ fp=>cE
   case e=>exact fun cl C s₃ H₃ fp=>bH bE (pv 1) (pv 0) (fun _ _=>rfl)
  refine ⟨_,rfl,p,3,rfl,by decide,by decide,hp,fun way H1 hw s1 hp1=>?_⟩
  refine ⟨_,rfl,by show 3 ≤ sizeLine; decide,fun l1 hl1=>⟨_,rfl,l1,[.int 31,.int 7,.int 31],_,.int (([31,7,31].getD way 0 : Nat) : Int),rfl,rfl,SqL.of aD,?_,p,[31,7,31].getD way 0,rfl,?_,?_,hp1.same (aE hl1),fun m H2 hm s2 hp2=>?_⟩⟩
  ·have : way = 0∨way = 1∨way = 2:=by lia
   rcases this with rfl | rfl | rfl <;> rfl
  ·have : way = 0∨way = 1∨way = 2:=by lia
   rcases this with rfl | rfl | rfl <;> decide
  ·have : way = 0∨way = 1∨way = 2:=by lia
   rcases this with rfl | rfl | rfl <;> decide
  have hm31 : m < 31:=by
   have : way = 0∨way = 1∨way = 2:=by lia
   rcases this with rfl | rfl | rfl <;> simp at hm <;> lia
  have s02 : aU p H H2:=s1.trans ((aU.of (aE hl1)).trans s2)
  refine ⟨_,_,rfl,rfl,?_⟩
  change aQ 2 (V.int ((2 : Int) + (m : Int))) _ _ _
  rw [show (2 : Int) + (m : Int) = ((2 + m : Nat) : Int) by lia]
  generalize hn : 2 + m = n
  have n1 : 2 ≤ n:=by lia
  have n2 : n ≤ 32:=by lia
  refine ⟨_,rfl,by show 3 ≤ sizeLine; decide,fun l2 hl2=>⟨_,rfl,l2,[.int 9,.int 25,.int 9],_,.int (([9,25,9].getD way 0 : Nat) : Int),rfl,rfl,SqL.of aD,?_,p,[9,25,9].getD way 0,rfl,?_,?_,hp2.same (aE hl2),fun rs H3 hrs s3 hp3=>?_⟩⟩
  ·have : way = 0∨way = 1∨way = 2:=by lia
   rcases this with rfl | rfl | rfl <;> rfl
  ·have : way = 0∨way = 1∨way = 2:=by lia
   rcases this with rfl | rfl | rfl <;> decide
  ·have : way = 0∨way = 1∨way = 2:=by lia
   rcases this with rfl | rfl | rfl <;> decide
  have hrs' : rs < 1000:=by
   have : way = 0∨way = 1∨way = 2:=by lia
   rcases this with rfl | rfl | rfl <;> simp at hrs <;> lia
  have s03 : aU p H H3:=s02.trans ((aU.of (aE hl2)).trans s3)
  refine uY ?_
  dsimp only
  refine pS (fun σ Hc=>∃ (L : Addr) (zs : Zs),(∃ o,σ = [some (.ref p),some (.int (way : Int)),some (.int (n : Int)),some (.int (rs : Int)),some (.ref L),o,none])∧aU p H Hc∧aY Hc p∧Tl p Hc L n zs) ?_ ?_
  ·rintro σ Hc ⟨L,zs,⟨o,rfl⟩,sc,hpc,tl⟩
   refine ⟨_,rfl,rs,rfl,by lia,by lia,hV (lo:=0) (n:=rs) (fun i σ Hc=>∃ (L : Addr) (zs : Zs),(∃ k,σ = [some (.ref p),some (.int (way : Int)),some (.int (n : Int)),some (.int (rs : Int)),some (.ref L),o,k])∧aU p H Hc∧aY Hc p∧Tl p Hc L n zs) ⟨L,zs,⟨_,rfl⟩,sc,hpc,tl⟩ ?_ ?_⟩
   ·rintro i σ Hc hi ⟨L,zs,⟨k,rfl⟩,sc,hpc,tl⟩
    exact ⟨_,rfl,_,rfl,_,rfl,p,n,L,zs,rfl,hpc,tl,fun r zs' H' se hp' tl'=>⟨r,zs',⟨_,rfl⟩,sc.trans se,hp',tl'⟩⟩
   ·rintro σ Hc ⟨L,zs,⟨k,rfl⟩,sc,hpc,tl⟩
    have hlen : zs.length ≤ 256:=by have:=tl.t.fine.len; rw [aP] at this; exact this
    refine ⟨_,rfl,_,rfl,_,rfl,L,_,rfl,.inl (SqL.of tl.t.at_),_,rfl,L,_,rfl,.inl (SqL.of tl.t.at_),p,zs.length,zs.length,by rw [aZ]; rfl,Nat.le_refl _,by lia,hpc,fun X xs H4 s4 hp4 hX4 hX so lx=>?_⟩
    have tl4:=tl.sameE s4 hpc
    refine ⟨X,rfl,⟨_,SqL.of hX⟩,fun D1 hD1=>?_⟩
    have pm:=so.all lx
    refine cQ (xs:=NV xs) (fun i ys σ H5=>(∃ a,σ = [a,some (.ref L)])∧Same H4 H5∧H5 D1 = some (.lst ys)∧ys = zr ((xs.take i).map fun k=>zs.getD k (0,(0,0)))) ⟨⟨_,rfl⟩,aE hD1,aD,rfl⟩ (fun i ys σ H5 _ z=>SqL.of (z.2.1 _ _ hX)) ?_ ?_
    ·rintro i x ys σ H5 Kt Kf hx ⟨⟨a,rfl⟩,sm5,hD5,rfl⟩ kt kf
     obtain ⟨v,hv,rfl⟩:=wM hx
     have hvl : v < zs.length:=so.lt v (List.mem_of_getElem? hv)
     have hi : i < xs.length:=(List.getElem?_eq_some_iff.mp hv).1
     have tk : xs.take (i + 1) = xs.take i ++ [v]:=by rw [List.take_add_one,hv]; rfl
     have gz : (zr zs)[v]? = some (.ref (zs.getD v (0,(0,0))).1):=by
      unfold zr
      rw [List.getElem?_map,List.getElem?_eq_getElem hvl,List.getD_eq_getElem?_getD,List.getElem?_eq_getElem hvl]; rfl
     refine ⟨_,rfl,_,rfl,L,_,_,_,rfl,rfl,SqL.of (sm5 _ _ tl4.t.at_),bD gz,kt _ _ _ hD5 ?_ ⟨⟨_,rfl⟩,bR sm5 hD1,aD,?_⟩⟩
     ·rw [aZ,List.length_map,List.length_take]
      exact Nat.lt_of_lt_of_le (show _ < 300 by lia) (by decide)
     ·rw [tk,List.map_append,cA]; rfl
    ·rintro ys σ H5 ⟨_,sm5,hD5,rfl⟩
     rw [cK,List.take_length] at hD5
     refine ⟨by show 2 ≤ sizeLine; decide,fun t ht=>?_⟩
     have s5 : Same H4 (upd H5 t (.tup [.int (n : Int),.ref D1])):=sm5.trans (aE ht)
     have pp:=pH (zs:=zs) pm
     have D1n : D1 ≠ p:=hp4.ne hD1
     refine q t D1 n (xs.map fun k=>zs.getD k (0,(0,0))) _ ((sc.trans s4).trans (aU.of s5)) (hp4.same s5) aD ⟨⟨tl.t.fine.perm (show (zp _).Perm (zp zs) from List.Perm.map _ pp),aE ht _ _ hD5,fun z hz=>s5 _ _ (tl4.t.po z (pp.mem_iff.mp hz))⟩,D1n⟩ ?_
     exact (sc.trans s4).free hp4.full hD1
  ·intro N hN
   refine if_k (fun Hc=>Hc = H3) (fun Hc=>Hc = H3) ?_ ?_ ?_
   ·rintro Hc rfl
    exact ⟨_,rfl,_,rfl,p,n,rfl,hp3,n1,n2,fun r zs H' se hp' tl _ _=>hN _ _ ⟨r,zs,⟨_,rfl⟩,s03.trans se,hp',tl⟩⟩
   ·rintro Hc rfl
    refine ⟨_,rfl,_,rfl,_,rfl,p,n,n,rfl,by lia,by lia,hp3,fun O os H4 s4 hp4 hO4 hO so lo=>?_⟩
    have pm:=so.all lo
    refine ⟨_,rfl,n,rfl,by lia,by lia,fun M hM=>?_⟩
    refine jA (lo:=0) (n:=n) (fun k=>(ci (os.getD (NetM.pk os.length k) 0),ci (os.getD k 0))) (fun σ=>∃ a,σ = [a,some (.ref O)]) hM (by lia) ⟨_,rfl⟩ ?_ ?_
    ·rintro i σ H5 R Kf hi ⟨a,rfl⟩ sm5 kk
     have hx5:=sm5 _ _ hO
     have hi' : i < os.length:=by lia
     refine ⟨_,rfl,_,rfl,_,_,rfl,rfl,O,_,_,_,rfl,rfl,SqL.of hx5,by rw [Int.zero_add]; exact oC hi',_,rfl,_,rfl,O,_,_,_,rfl,rfl,SqL.of hx5,by rw [Int.zero_add]; exact bD (gW hi'),by show 2 ≤ sizeLine; decide,fun t ht=>?_⟩
     have:=kk [some (.int (0 + (i : Int))),some (.ref O)] t ⟨_,rfl⟩ ht
     rw [bU hi'] at this
     exact this
    ·intro zs H5 sm5 hM5 po5 ez _
     have ez' : zp zs = cyc os:=by rw [ez]; unfold cyc; rw [lo]
     refine hN _ _ ⟨M,zs,⟨_,rfl⟩,(s03.trans s4).trans (aU.of sm5),hp4.same sm5,⟨⟨by rw [ez']; exact pD n1 n2 pm,hM5,po5⟩,hp4.ne hM⟩⟩
   ·intro Y N' hY hN'
    refine ⟨_,rfl,rfl,_,rfl,?_⟩
    refine ite2 (fun e=>hY _ rfl) (fun e=>hN' _ rfl)
end
end K12
namespace K12
open PySem L2 NetM
abbrev sIT : Stmt:=top 24
abbrev sIP : Stmt:=top 25
abbrev wW : Stmt:=top 45
abbrev sIs : Stmt:=top 46
abbrev rY : Stmt:=top 44
theorem rZ : (["house", "net"] : List Str).Nodup:=by decide +kernel
theorem lB : (["_law_tie", "_law_ties"] : List Str).Nodup:=by decide +kernel
theorem eU : (["_law_house", "_law_ties"] : List Str).Nodup:=by decide +kernel
theorem hU : (["_law_tie", "_law_house"] : List Str).Nodup:=by decide +kernel
theorem vB {lo : Int} {n : Nat} {D : Addr} {g : TG} {tt : TT} {te : TE} {fin : Hp→Prop} {σB : St} {H0 : Hp} (G : Nat→V) (shape : St→Prop) (hD : H0 D = none) (hn : n ≤ 1000) (h0 : shape σB)
  (hs : ∀ x σ H (R : V→St→Hp→Prop) (Kf : St→Hp→Prop),x < n→shape σ→Same H0 H→(∀ σ2 H2,shape σ2→Same H H2→R (G x) σ2 H2)→g (.int (lo + (x : Nat))) σ H fun σ2 H2=>tt σ2 H2 fun b H3=>if b = true then te σ2 H3 fun v H4=>R v σ2 H4 else Kf σ2 H3)
  (hd : ∀ H,Same H0 H→H D = some (.lst ((List.range n).map G))→fin H) : eB (Itr lo n) g tt te D fin σB (upd H0 D (.lst [])):=by
 refine dM (fun i ys σ H=>shape σ∧Same H0 H∧H D = some (.lst ys)∧ys = (List.range i).map G) ⟨h0,aE hD,aD,rfl⟩ ?_ ?_
 ·rintro i ys σ H Kt Kf hi ⟨sh,sm,hDl,rfl⟩ kt kf
  refine hs i σ H Kt Kf hi sh sm (fun σ2 H2 sh2 s2=>?_)
  refine kt _ _ _ (s2 _ _ hDl) ?_ ⟨sh2,bR (sm.trans s2) hD,aD,by rw [List.range_succ,List.map_append]; rfl⟩
  rw [List.length_map,List.length_range]
  exact Nat.lt_of_lt_of_le (show i < 1000 by lia) (by decide)
 ·rintro ys σ H ⟨_,sm,hDl,rfl⟩
  exact hd H sm hDl
theorem ntwo (n : Int) (tl ol ds : Addr) : (flds n tl ol ds).lookup ("is_two_way" : Str) = none:=iQ n tl ol ds (by decide +kernel) (by decide +kernel) (by decide +kernel) (by decide +kernel)
theorem wX (n : Int) (tl ol ds : Addr) : (flds n tl ol ds).lookup ("ties" : Str) = none:=iQ n tl ol ds (by decide +kernel) (by decide +kernel) (by decide +kernel) (by decide +kernel)
theorem mU (n : Int) (tl ol ds : Addr) : (flds n tl ol ds).lookup ("many" : Str) = none:=iQ n tl ol ds (by decide +kernel) (by decide +kernel) (by decide +kernel) (by decide +kernel)
theorem nout (n : Int) (tl ol ds : Addr) : (flds n tl ol ds).lookup ("out" : Str) = none:=iQ n tl ol ds (by decide +kernel) (by decide +kernel) (by decide +kernel) (by decide +kernel)
theorem sG {α : Type} {x : α} : ∀ {k : Nat},(List.replicate k [x]).flatten = List.replicate k x
 | 0=>rfl
 | k + 1=>by rw [List.replicate_succ,List.flatten_cons,sG,List.replicate_succ]; rfl
structure Bl2 (mg : Str→Option Value) : Prop where
 repr : mg "repr" = none
section
variable {P : Program} {w : World} {K : PySem.W.Frag} {mg : Str→Option Value} {base : Heap}
def spOf (C : Addr) (R : Nat→Ts→Bool→Prop) : Sp:=fun vs H Q _=>∃ (L : Addr→Prop) (p : Addr) (n : Nat) (ts : Ts),vs = [.ref p]∧cF C H L p n ts∧∀ (b : Bool) (H' : Hp),Same H H'→R n ts b→Q (.bl b) H'
abbrev rTr (n : Nat) (ts : Ts) (b : Bool) : Prop:=b = true↔Sym ts∧ts.length = 2 * (n - 1)
abbrev rPl (n : Nat) (ts : Ts) (b : Bool) : Prop:=b = true↔Sym ts∧∀ h,h < n→deg ts (ci h) = 2
theorem scIT : aS ["net"] ["net"] (aH sIT):=⟨rfl,rfl,rfl,by decide +kernel,rfl,by decide +kernel,by decide +kernel⟩
theorem zP {f C : Addr} {fd : FuncData} (F : Fun K "is_tree" "is_tree" sIT f fd) (T : NT K mg C) (B : Bl mg) (W : MCal P w K mg base CX0 1 C "is_two_way" ["self"] (pV C)) (TI : MCal P w K mg base CX0 1 C "ties" ["self"] (kC C)) (MA : MCal P w K mg base CX0 1 C "many" ["self"] (iS C)) : FnOk P w K mg base CX0 2 f fd ["net"] (spOf C rTr):=by
 obtain ⟨_,_,mW,bW,GW⟩:=W.ex
 obtain ⟨_,_,mT,bT,GT⟩:=TI.ex
 obtain ⟨_,_,mM,bM,GM⟩:=MA.ex
 refine F.ok scIT (fun vs H Q E h=>?_) (fun cdv A outer s H vs Q E hr h=>?_)
 ·obtain ⟨L,p,n,ts,rfl,_⟩:=h
  rfl
 ·obtain ⟨L,p,n,ts,rfl,N,q⟩:=h
  refine ⟨_,(aJ (aW (eC (dC (pv 0) T.cl mW GW hr bW .nil aK) (eH (cW cI (aO aR (by rfl) B.len PySem.boot_len (aA (dC (pv 0) T.cl mT GT hr bT .nil aK) aB)) (bA qD aG (bA gD (dC (pv 0) T.cl mM GM hr bM .nil aK) aG)) (aX _)))))),?_⟩
  obtain ⟨dx,tl,ol,ds,e1,_⟩:=N.ob
  refine ⟨_,rfl,p,dx,_,rfl,e1,ntwo _ _ _ _,L,p,n,ts,rfl,N,fun b H1 s1 hb=>⟨b,rfl,ite2 (fun c=>?_) (fun c=>q false H1 s1 ⟨fun z=>(nomatch z),fun z=>absurd (hb.mpr z.1) c⟩)⟩⟩
  have N1:=N.same s1
  refine ⟨_,rfl,p,dx,_,rfl,s1 _ _ e1,wX _ _ _ _,L,p,n,ts,rfl,N1,fun r zs H2 s2 _ hr2 _ pm _=>⟨r,_,rfl,.inl (SqL.of hr2),?_⟩⟩
  have N2:=N1.same s2
  refine ⟨_,rfl,p,dx,_,rfl,(s1.trans s2) _ _ e1,mU _ _ _ _,L,p,n,ts,rfl,N2,_,_,rfl,rfl,_,_,rfl,rfl,.inl ⟨by decide,by decide⟩,rfl,q _ H2 (s1.trans s2) ?_⟩
  have n1:=N.fine.n1
  have e : (zr zs).length = ts.length:=by rw [aZ,← aP,pm.length_eq]
  rw [e]
  refine ⟨fun z=>⟨hb.mp c,?_⟩,fun z=>?_⟩
  ·have : ((ts.length : Nat) : Int) = 2 * ((n : Int) - 1):=by simpa [eqV] using z
   lia
  ·have : ((ts.length : Nat) : Int) = 2 * ((n : Int) - 1):=by have:=z.2; lia
   simp [eqV,this]
theorem scIP : aS ["net"] ["net"] (aH sIP):=⟨rfl,rfl,rfl,by decide +kernel,rfl,by decide +kernel,by decide +kernel⟩
theorem wY {f C : Addr} {fd : FuncData} (F : Fun K "is_plain_ring" "is_plain_ring" sIP f fd) (T : NT K mg C) (B : Bl mg) (W : MCal P w K mg base CX0 1 C "is_two_way" ["self"] (pV C)) (OU : MCal P w K mg base CX0 5 C "out" ["self", "house"] (jZ C)) (MA : MCal P w K mg base CX0 1 C "many" ["self"] (iS C)) : FnOk P w K mg base CX0 6 f fd ["net"] (spOf C rPl):=by
 obtain ⟨_,_,mW,bW,GW⟩:=W.ex
 obtain ⟨_,_,mO,bO,GO⟩:=OU.ex
 obtain ⟨_,_,mM,bM,GM⟩:=MA.ex
 refine F.ok scIP (fun vs H Q E h=>?_) (fun cdv A outer s H vs Q E hr h=>?_)
 ·obtain ⟨L,p,n,ts,rfl,_⟩:=h
  rfl
 ·obtain ⟨L,p,n,ts,rfl,N,q⟩:=h
  have h1 : Room 1 _:=hr.mono (by decide)
  refine' ⟨_,(aJ (aW (eC (dC (pv 0) T.cl mW GW h1 bW .nil aK) (eH (aO (oZ rfl) (by rfl) B.all PyProof.Rows.boot_all (aA ?c1 aB)))))),?_⟩
  case c1 =>
   refine' bJ (g:=(aQ 0)) (te:=(tOp (rEq) (tCB (fun xs H Q=>∃ p ys,xs = [V.ref p]∧(SqL K H p ys∨SqT K H p ys)∧Q (.int ys.length) H) (bK (vM C "out" (jZ C) [] E0 (tVar 1) (bK (tVar 0) tNil)) tNil)) (tC (.int 2)))) (NB:=["house", "net"]) (src:=[none,some 0]) (bB (by kernel_rfl)) rfl (bZ rfl B.range (aA (dC (pv 0) T.cl mM GM h1 bM .nil aK) aB)) ?g ?t ?e
   case g=>exact fun cl C' s₃ H₃ fp=>(aL (i:=0) rZ rfl (Or.inl rfl) (Or.inr rfl))
   case t=>exact fun cl C' s₃ H₃ fp=>cE
   case e=>exact fun cl C' s₃ H₃ fp=>(cW cI (aO aR (by rfl) B.len PySem.boot_len (aA (kJ (pv 1) T.cl mO GO hr bO .nil aK (aA (pv 0) aB)) aB)) aG (aX _))
  obtain ⟨dx,tl,ol,ds,e1,_⟩:=N.ob
  refine ⟨_,rfl,p,dx,_,rfl,e1,ntwo _ _ _ _,L,p,n,ts,rfl,N,fun b H1 s1 hb=>⟨b,rfl,ite2 (fun c=>?_) (fun c=>q false H1 s1 ⟨fun z=>(nomatch z),fun z=>absurd (hb.mpr z.1) c⟩)⟩⟩
  have N1:=N.same s1
  have n2:=N.fine.n2
  refine ⟨_,rfl,p,dx,_,rfl,s1 _ _ e1,mU _ _ _ _,L,p,n,ts,rfl,N1,(n : Int),rfl,by lia,by lia,fun D1 hD1=>?_⟩
  refine vB (lo:=0) (n:=n) (fun h=>V.bl (decide (deg ts (ci h) = 2))) (fun σ=>∃ a,σ = [a,some (.ref p)]) hD1 (by lia) ⟨_,rfl⟩ ?_ ?_
  ·rintro x σ H2 R Kf hx ⟨a,rfl⟩ sm kt
   rw [Int.zero_add]
   have N2:=N1.same sm
   refine ⟨_,rfl,p,dx,_,rfl,(s1.trans sm) _ _ e1,nout _ _ _ _,_,rfl,L,p,n,ts,x,rfl,N2,hx,fun r H3 s3 _ hr3=>⟨r,_,rfl,.inl (SqL.of hr3),rfl,?_⟩⟩
   rw [cK,aAv N.fine hx]
   have e : decide (V.int ((deg ts (ci x) : Nat) : Int) = V.int 2) = decide (deg ts (ci x) = 2):=by
    rw [Bool.eq_iff_iff,decide_eq_true_eq,decide_eq_true_eq]
    exact ⟨fun z=>by have:=V.int.inj z; lia,fun z=>by rw [z]; rfl⟩
   dsimp only
   rw [e]
   exact kt _ _ ⟨_,rfl⟩ s3
  ·intro H2 s2 hD2
   have hD2' : H2 D1 = some (.lst (((List.range n).map fun h=>decide (deg ts (ci h) = 2)).map V.bl)):=by rw [hD2,List.map_map]; rfl
   refine ⟨D1,_,rfl,SqL.of hD2',q _ H2 (s1.trans s2) ?_⟩
   refine ⟨fun z=>⟨hb.mp c,fun h hh=>?_⟩,fun z=>?_⟩
   ·exact of_decide_eq_true (List.all_eq_true.mp z _ (List.mem_map.mpr ⟨h,List.mem_range.mpr hh,rfl⟩))
   ·refine List.all_eq_true.mpr fun y hy=>?_
    obtain ⟨h,hh,rfl⟩:=List.mem_map.mp hy
    exact decide_eq_true (z.2 h (List.mem_range.mp hh))
theorem aCp : aS ["_law_net_here"] ["_law_net_here"] (aH wW):=⟨rfl,rfl,rfl,by decide +kernel,rfl,by decide +kernel,by decide +kernel⟩
def kF (C : Addr) : Sp:=fun vs H Q _=>∃ (L : Addr→Prop) (p : Addr) (n : Nat) (ts : Ts),vs = [.ref p]∧cF C H L p n ts∧∀ (r : Addr) (a b : Bool) (H' : Hp),Same H H'→H' r = some (.tup [.bl a,.bl b])→Kd n ts a b→Q (.ref r) H'
theorem aBN {f C : Addr} {fd : FuncData} (F : Fun K "_law_told" "_law_told" wW f fd) (IT : Cal P w K mg base CX0 2 "is_tree" ["net"] (spOf C rTr)) (IP : Cal P w K mg base CX0 6 "is_plain_ring" ["net"] (spOf C rPl)) : FnOk P w K mg base CX0 7 f fd ["_law_net_here"] (kF C):=by
 refine F.ok aCp (fun vs H Q E h=>?_) (fun cdv A outer s H vs Q E hr h=>?_)
 ·obtain ⟨L,p,n,ts,rfl,_⟩:=h
  rfl
 ·obtain ⟨L,p,n,ts,rfl,N,q⟩:=h
  have h2 : Room 2 _:=hr.mono (by decide)
  refine ⟨_,(aJ (aW (bF (aA (aN IT h2 aK (aA (pv 0) aB)) (aA (aN IP hr aK (aA (pv 0) aB)) aB))))),?_⟩
  refine ⟨_,rfl,L,p,n,ts,rfl,N,fun a H1 s1 ha=>⟨_,rfl,L,p,n,ts,rfl,N.same s1,fun b H2 s2 hb=>⟨by show 2 ≤ sizeLine; decide,fun r hr'=>?_⟩⟩⟩
  exact q r a b _ ((s1.trans s2).trans (aE hr')) aD ⟨ha,hb⟩
theorem scIs : aS ["_law_found", "_law_due"] ["_law_found", "_law_due"] (aH sIs):=⟨rfl,rfl,rfl,by decide +kernel,rfl,by decide +kernel,by decide +kernel⟩
def spIs : Sp:=fun vs H Q _=>∃ (x y : Addr) (a b : Bool),vs = [.ref x,.ref y]∧H x = some (.tup [.bl a,.bl b])∧H y = some (.tup [.bl a,.bl b])∧Q (.bl true) H
theorem aCX {f : Addr} {fd : FuncData} (F : Fun K "_law_is" "_law_is" sIs f fd) (B2 : Bl2 mg) : FnOk P w K mg base CX0 1 f fd ["_law_found", "_law_due"] spIs:=by
 refine F.ok scIs (fun vs H Q E h=>?_) (fun cdv A outer s H vs Q E hr h=>?_)
 ·obtain ⟨x,y,a,b,rfl,_⟩:=h
  rfl
 ·obtain ⟨x,y,a,b,rfl,hx,hy,q⟩:=h
  refine ⟨_,(aJ (aW (cW cI (aO (mQ hr.gd hr.u) (by rfl) B2.repr PyProof.Rows.boot_repr (aA (pv 0) aB)) (aO (mQ hr.gd hr.u) (by rfl) B2.repr PyProof.Rows.boot_repr (aA (pv 1) aB)) (aX _)))),?_⟩
  refine ⟨_,rfl,_,_,rfl,zM hx,_,rfl,_,_,rfl,zM hy,rfl,?_⟩
  rw [decide_eq_true rfl]; exact q
theorem vC : aS ["_law_many", "_law_ties", "_law_outs"] ["_law_many", "_law_ties"] (aH rY):=⟨rfl,rfl,rfl,by decide +kernel,rfl,by decide +kernel,by decide +kernel⟩
def kU : Sp:=fun vs H Q _=>∃ (n : Nat) (l : Addr) (zs : Zs),vs = [.int n,.ref l]∧cT H l n zs∧∀ (r : Addr) (a b : Bool) (H' : Hp),Same H H'→H' r = some (.tup [.bl a,.bl b])→Kd n (zp zs) a b→Q (.ref r) H'
theorem aAC {f : Addr} {fd : FuncData} (F : Fun K "_law_kinds" "_law_kinds" rY f fd) (B : Bl mg) : FnOk P w K mg base CX0 1 f fd ["_law_many", "_law_ties"] kU:=by
 refine F.ok vC (fun vs H Q E h=>?_) (fun cdv A outer s H vs Q E hr h=>?_)
 ·obtain ⟨n,l,zs,rfl,_⟩:=h
  rfl
 ·obtain ⟨n,l,zs,rfl,TA,q⟩:=h
  have fi:=TA.fine
  have n1:=fi.n1
  have n2:=fi.n2
  have zl : zs.length ≤ 256:=by have:=fi.len; rwa [aP] at this
  refine' ⟨_,(aF (bV (aT (yF (e:=eqV) hr.u) ?c1 (cC aB) (aX _)) (aJ (aW (bF (aA dZ (aA dZ aB))))) bQ)
   (aF (cN (i:=2) (g:=(aQ 0)) (te:=(tCB (fun xs H Q=>∃ p ys,xs = [V.ref p]∧(SqL K H p ys∨SqT K H p ys)∧Q (.int ys.length) H) (bK (iA [none,some 0] (iU K (tVar 1)) (aQ 0) (cD (tOp (rEq) (tOp (rIxT K) (tVar 0) (tC (.int 0))) (tVar 1))) (tVar 0)) tNil))) (NB:=["_law_house", "_law_ties"]) (src:=[none,some 1]) (bB (by kernel_rfl)) rfl (bZ rfl B.range (aA (pv 0) aB)) ?g2 ?t2 ?e2 vC.nd rfl rfl rfl)
   (aJ (aW (bF (aA (cW cI (bA dA (bA mZ (aO aR (by rfl) B.len PySem.boot_len (aA (pv 1) aB)) aG) aG) (pv 0) (aX _)) (aA (cW (mD (e:=eqV) hr.u) (pv 2) (bA aB4 (cC (aA aG aB)) (pv 0)) (aX _)) aB))))))),?_⟩
  case c1 =>
   refine' bJ (g:=(aQ 0)) (tt:=(cD (tOp (rInP K true) (aAV K (tVar 0) (aAM (tUn (rU fun i=>.int (-i)) (tC (.int 1))))) (tVar 1)))) (te:=(tVar 0)) (NB:=["_law_tie", "_law_ties"]) (src:=[none,some 1]) (bB (by kernel_rfl)) rfl (bG (pv 1)) ?g ?t ?e
   case g=>exact fun cl C s₃ H₃ fp=>(aL (i:=0) lB rfl (Or.inl rfl) (Or.inr rfl))
   case t=>exact fun cl C s₃ H₃ fp=>bS (aT (fK hr.u) (uW (pv 0) (nE (vG qF aG))) (pv 1) rfl)
   case e=>exact fun cl C s₃ H₃ fp=>(pv 0)
  case g2=>exact fun cl C s₃ H₃ fp=>(aL (i:=0) eU rfl (Or.inr rfl) (Or.inl rfl))
  case t2=>exact fun cl C s₃ H₃ fp=>cE
  case e2 =>
   intro cl C s₃ H₃ fp
   refine' (aO aR (by rfl) B.len PySem.boot_len (aA ?c3 aB))
   case c3 =>
    refine' bJ (g:=(aQ 0)) (tt:=(cD (tOp (rEq) (tOp (rIxT K) (tVar 0) (tC (.int 0))) (tVar 1)))) (te:=(tVar 0)) (NB:=["_law_tie", "_law_house"]) (src:=[none,some 0]) (bB (by kernel_rfl)) rfl (bG (pv 1)) ?g ?t ?e
    case g=>exact fun cl C s₃ H₃ fp=>(aL (i:=0) hU rfl (Or.inl rfl) (Or.inr rfl))
    case t=>exact fun cl C s₃ H₃ fp=>bS (aT cI (bH eK (pv 0) aG (fun _ _=>rfl)) (pv 1) (aX _))
    case e=>exact fun cl C s₃ H₃ fp=>(pv 0)
  refine ⟨_,rfl,l,rfl,⟨_,SqL.of TA.at_⟩,fun D1 hD1=>?_⟩
  refine dI (fun u=>!decide (swp u∈zp zs)) (fun σ=>∃ a,σ = [a,some (.ref l)]) TA.at_ hD1 (by lia) ⟨_,rfl⟩ ?_ ?_
  ·rintro z σ H1 Kt Kf hz ⟨a,rfl⟩ sm kt kf
   refine ⟨_,rfl,_,rfl,_,rfl,rfl,z.1,_,_,rfl,SqT.of (sm _ _ (TA.po z hz)),fun t ht=>⟨_,rfl,fN (u:=swp z.2) aD (aE ht _ _ (sm _ _ TA.at_)) ((TA.po.same sm).same (aE ht)) ⟨_,rfl,?_⟩⟩⟩
   refine ite2 (fun c=>⟨_,rfl,kt _ _ ⟨_,rfl⟩ (aE ht) c⟩) (fun c=>kf _ _ ⟨_,rfl⟩ (aE ht) (by simpa using c))
  intro H1 s1 hD1'
  refine ⟨by show 0 ≤ sizeLine; decide,fun E1 hE1=>?_⟩
  have sE:=s1.trans (aE (o:=.lst []) hE1)
  refine ⟨D1,E1,_,[],rfl,rfl,SqL.of (aE hE1 _ _ hD1'),SqL.of aD,fun i h1 h2=>absurd h2 (by simp),_,rfl,?_⟩
  rw [if_pos rfl,fP]
  have sy : zr (zs.filter fun z=>!decide (swp z.2∈zp zs)) = []↔Sym (zp zs):=by
   unfold zr
   rw [List.map_eq_nil_iff,List.filter_eq_nil_iff]
   constructor
   ·intro h u hu
    obtain ⟨z,hz,rfl⟩:=List.mem_map.mp hu
    have:=h z hz
    simpa using this
   ·intro h z hz
    have:=h z.2 (List.mem_map.mpr ⟨z,hz,rfl⟩)
    simpa using this
  by_cases c : Sym (zp zs)
  ·rw [decide_eq_true (sy.mpr c)]
   refine iteF ?_
   have TA1:=TA.same sE
   generalize upd H1 E1 _ = H2 at *
   refine ⟨_,rfl,(n : Int),rfl,by lia,by lia,fun D2 hD2=>?_⟩
   refine vB (lo:=0) (n:=n) (fun h=>V.int ((deg (zp zs) (ci h) : Nat) : Int)) (fun σ=>∃ a,σ = [a,some (.ref l)]) hD2 (by lia) ⟨_,rfl⟩ ?_ ?_
   ·rintro x σ H3 R Kf hx ⟨a,rfl⟩ sm kt
    rw [Int.zero_add]
    have TA3:=TA1.same sm
    refine ⟨_,rfl,l,rfl,⟨_,SqL.of TA3.at_⟩,fun D3 hD3=>?_⟩
    refine dI (fun u=>decide (u.1 = ci x)) (fun σ=>∃ a,σ = [a,some (.int (x : Int))]) TA3.at_ hD3 (by lia) ⟨_,rfl⟩ ?_ ?_
    ·rintro y σ H5 Kt' Kf' hy ⟨a'',rfl⟩ sm5 kt' kf'
     refine ⟨_,rfl,y.1,_,_,_,rfl,rfl,SqT.of (sm5 _ _ (TA3.po y hy)),bD (j:=0) rfl,_,rfl,rfl,_,rfl,?_⟩
     refine ite2 (fun e=>?_) (fun e=>?_)
     ·exact ⟨_,rfl,kt' _ _ ⟨_,rfl⟩ (Same.refl _) (by simpa using e)⟩
     ·exact kf' _ _ ⟨_,rfl⟩ (Same.refl _) (by simpa using e)
    ·intro H5 sm5 hD5
     have eL : (zr (zs.filter fun y=>decide (y.2.1 = ci x))).length = deg (zp zs) (ci x):=dW (c:=fun u=>decide (u.1 = ci x))
     refine ⟨D3,_,rfl,.inl (SqL.of hD5),?_⟩
     rw [eL]
     exact kt _ _ ⟨_,rfl⟩ sm5
   ·intro H3 s3 hD3
    have TA3:=TA1.same s3
    refine ⟨_,rfl,l,_,rfl,.inl (SqL.of TA3.at_),_,_,rfl,rfl,⟨by decide,by decide⟩,_,_,rfl,rfl,_,rfl,rfl,?_⟩
    refine ⟨_,rfl,by show 1 ≤ sizeLine; decide,fun L1 hL1=>⟨_,rfl,L1,_,_,rfl,rfl,aD,by lia,by lia,by rw [Int.toNat_natCast,List.length_singleton]; exact Nat.le_trans (show 1 * n ≤ 32 by lia) (by decide),fun L2 hL2=>?_⟩⟩
    have sL:=(aE (o:=.lst [.int 2]) hL1).trans (aE (o:=.lst (List.replicate ((n : Int)).toNat [V.int 2]).flatten) hL2)
    have eY : (List.replicate ((n : Int)).toNat [V.int 2]).flatten = List.replicate n (.int 2):=by rw [Int.toNat_natCast,sG]
    have hD4:=sL _ _ hD3
    have hL3 : (upd (upd H3 L1 (.lst [.int 2])) L2 (.lst (List.replicate ((n : Int)).toNat [V.int 2]).flatten)) L2 = some (.lst (List.replicate n (.int 2))):=by rw [aD,eY]
    have s4:=(sE.trans s3).trans sL
    generalize upd (upd H3 L1 _) L2 _ = H4 at *
    refine ⟨D2,L2,_,_,rfl,rfl,SqL.of hD4,SqL.of hL3,fun i h1 h2=>yE ?_ ?_,?_⟩
    ·rw [List.length_map,List.length_range] at h1
     rw [List.getD_eq_getElem?_getD,List.getElem?_map,List.getElem?_range h1]; rfl
    ·rw [List.length_replicate] at h2
     rw [List.getD_eq_getElem?_getD,List.getElem?_replicate,if_pos h2]; rfl
    have eq : dL eqV ((List.range n).map fun h=>V.int ((deg (zp zs) (ci h) : Nat) : Int)) (List.replicate n (.int 2)) = decide (∀ h,h < n→deg (zp zs) (ci h) = 2):=by
     rw [eO (by rw [List.length_map,List.length_range,List.length_replicate]),Bool.eq_iff_iff,List.all_eq_true,decide_eq_true_eq,List.length_map,List.length_range]
     refine forall_congr' fun h=>?_
     rw [List.mem_range]
     refine forall_congr' fun hh=>?_
     rw [List.getD_eq_getElem?_getD,List.getD_eq_getElem?_getD,List.getElem?_map,List.getElem?_range hh,List.getElem?_replicate,if_pos hh]
     show eqV (.int ((deg (zp zs) (ci h) : Nat) : Int)) (.int 2) = true↔_
     simp [eqV]
     lia
    refine ⟨by show 2 ≤ sizeLine; decide,fun r hr'=>q r _ _ _ (s4.trans (aE hr')) aD ⟨?_,?_⟩⟩
    ·have ev:=aAu fi c
     rw [aZ,← aP,decide_eq_true_eq]
     refine ⟨fun z=>⟨c,?_⟩,fun z=>?_⟩
     ·have e2 : ((zp zs).length : Int) / 2 + 1 = (n : Int):=V.int.inj z
      omega
     ·have e2:=z.2
      have e3 : ((zp zs).length : Int) / 2 + 1 = (n : Int):=by omega
      exact congrArg V.int e3
    ·rw [if_neg (by decide),eq,decide_eq_true_eq]
     exact ⟨fun z=>⟨c,z⟩,fun z=>z.2⟩
  ·rw [decide_eq_false fun z=>c (sy.mp z)]
   refine iteT ⟨by show 2 ≤ sizeLine; decide,fun r hr'=>q r false false _ (sE.trans (aE hr')) aD ⟨⟨fun z=>(nomatch z),fun z=>absurd z.1 c⟩,⟨fun z=>(nomatch z),fun z=>absurd z.1 c⟩⟩⟩
end
end K12
namespace K12
open PySem L2 NetM
abbrev sAT : Stmt:=top 31
abbrev sWO : Stmt:=top 30
abbrev sH : Stmt:=top 39
theorem tI : (["tie", "gone"] : List Str).Nodup:=by decide +kernel
theorem wZ : (["_law_k", "_law_order"] : List Str).Nodup:=by decide +kernel
theorem fR : (["_law_one", "_law_other", "_law_ties"] : List Str).Nodup:=by decide +kernel
theorem lM {xs : List Nat} : (NV xs).all dD = true:=by
 unfold NV
 rw [List.all_map]
 exact List.all_eq_true.mpr fun o _=>rfl
theorem oF {x : Nat} {xs : List Nat} : inV (.int (x : Int)) (NV xs) = decide (x∈xs):=by
 unfold inV NV
 rw [Bool.eq_iff_iff]
 simp [eqV]
 exact ⟨fun ⟨y,hy,e⟩=>by rwa [show x = y by lia],fun h=>⟨x,h,rfl⟩⟩
section
variable {P : Program} {w : World} {K : PySem.W.Frag} {mg : Str→Option Value} {base : Heap}
theorem scAT : aS ["net", "one", "other"] ["net", "one", "other"] (aH sAT):=⟨rfl,rfl,rfl,by decide +kernel,rfl,by decide +kernel,by decide +kernel⟩
def spAT (C : Addr) : Sp:=fun vs H Q _=>∃ (L : Addr→Prop) (p : Addr) (n : Nat) (ts : Ts) (i j : Nat),vs = [.ref p,.int i,.int j]∧cF C H L p n ts∧T ts i j∧T ts j i∧∀ H',Same H H'→Q (.bl true) H'
theorem aCY {f C : Addr} {fd : FuncData} (F : Fun K "are_tied" "are_tied" sAT f fd) (T : NT K mg C) (HO : Cal P w K mg base CX0 3 "is_house" ["many", "thing"] (iP K)) (OU : MCal P w K mg base CX0 5 C "out" ["self", "house"] (jZ C)) (MA : MCal P w K mg base CX0 1 C "many" ["self"] (iS C)) : FnOk P w K mg base CX0 6 f fd ["net", "one", "other"] (spAT C):=by
 obtain ⟨_,_,mO,bO,GO⟩:=OU.ex
 obtain ⟨_,_,mM,bM,GM⟩:=MA.ex
 refine F.ok scAT (fun vs H Q E h=>?_) (fun cdv A outer s H vs Q E hr h=>?_)
 ·obtain ⟨L,p,n,ts,i,j,rfl,_⟩:=h
  rfl
 ·obtain ⟨L,p,n,ts,i,j,rfl,N,tij,tji,q⟩:=h
  have h1 : Room 1 _:=hr.mono (by decide)
  have h3 : Room 3 _:=hr.mono (by decide)
  refine ⟨_,(aF (bV (PW.pt (lP (cX (cP (aN HO h3 aK (aA (dC (pv 0) T.cl mM GM h1 bM .nil aK) (aA (pv 1) aB))))) (lO (cX (cP (aN HO h3 aK (aA (dC (pv 0) T.cl mM GM h1 bM .nil aK) (aA (pv 2) aB)))))))) (aJ (aW dZ)) bQ)
   (aJ (aW (eC (cW jL (pv 2) (kJ (pv 0) T.cl mO GO hr bO .nil aK (aA (pv 1) aB)) rfl) (eH (cW jL (pv 1) (kJ (pv 0) T.cl mO GO hr bO .nil aK (aA (pv 2) aB)) rfl)))))),?_⟩
  obtain ⟨dx,tl,ol,ds,e1,_⟩:=N.ob
  have fi:=N.fine
  obtain ⟨hi,hj,_⟩:=fi.tlt tij
  refine ⟨_,rfl,p,dx,_,rfl,e1,mU _ _ _ _,L,p,n,ts,rfl,N,_,rfl,_,some (i : Int),n,rfl,.int _,_,rfl,?_⟩
  rw [jY hi]
  refine iteF ⟨_,rfl,p,dx,_,rfl,e1,mU _ _ _ _,L,p,n,ts,rfl,N,_,rfl,_,some (j : Int),n,rfl,.int _,_,rfl,?_⟩
  rw [jY hj]
  refine iteF ⟨_,rfl,_,rfl,p,dx,_,rfl,e1,nout _ _ _ _,_,rfl,L,p,n,ts,i,rfl,N,hi,fun r1 H1 s1 _ hr1=>⟨r1,_,rfl,.inl (SqL.of hr1),rfl,lM,_,rfl,?_⟩⟩
  rw [oF,decide_eq_true ((dP fi hi).mpr tij)]
  refine iteT ⟨_,rfl,_,rfl,p,dx,_,rfl,s1 _ _ e1,nout _ _ _ _,_,rfl,L,p,n,ts,j,rfl,N.same s1,hj,fun r2 H2 s2 _ hr2=>⟨r2,_,rfl,.inl (SqL.of hr2),rfl,lM,?_⟩⟩
  rw [oF,decide_eq_true ((dP fi hj).mpr tji)]
  exact q H2 (s1.trans s2)
theorem scWO : aS ["net", "one", "other", "gone"] ["net", "one", "other"] (aH sWO):=⟨rfl,rfl,rfl,by decide +kernel,rfl,by decide +kernel,by decide +kernel⟩
def spWO (C Pt : Addr) : Sp:=fun vs H Q _=>∃ (L : Addr→Prop) (p : Addr) (n : Nat) (ts : Ts) (i j : Nat),vs = [.ref p,.int i,.int j]∧cF C H L p n ts∧T ts i j∧T ts j i∧Fine n (ts.filter fun t=>!decide (t∈[(ci i,ci j),(ci j,ci i)]))∧Tab Pt H∧∀ us : Ts,us.Perm (ts.filter fun t=>!decide (t∈[(ci i,ci j),(ci j,ci i)]))→NewN C Pt H n us Q
theorem aCZ {f C Pt fI : Addr} {fd fdI : FuncData} (F : Fun K "without" "without" sWO f fd) (T : NT K mg C) (M : Mk K C fI) (bI : eA K fdI ["self", "many", "ties"] []) (GI : FnOk P w K mg base CX0 7 fI fdI ["self", "many", "ties"] (kB C Pt)) (AT : Cal P w K mg base CX0 6 "are_tied" ["net", "one", "other"] (spAT C)) (TI : MCal P w K mg base CX0 1 C "ties" ["self"] (kC C)) (MA : MCal P w K mg base CX0 1 C "many" ["self"] (iS C)) : FnOk P w K mg base CX0 9 f fd ["net", "one", "other"] (spWO C Pt):=by
 obtain ⟨_,_,mT,bT,GT⟩:=TI.ex
 obtain ⟨_,_,mM,bM,GM⟩:=MA.ex
 refine F.ok scWO (fun vs H Q E h=>?_) (fun cdv A outer s H vs Q E hr h=>?_)
 ·obtain ⟨L,p,n,ts,i,j,rfl,_⟩:=h
  rfl
 ·obtain ⟨L,p,n,ts,i,j,rfl,N,tij,tji,F2,tb,q⟩:=h
  have h1 : Room 1 _:=hr.mono (by decide)
  have h6 : Room 6 _:=hr.mono (by decide)
  refine' ⟨_,(aF (bV (cX (cP (aN AT h6 aK (aA (pv 0) (aA (pv 1) (aA (pv 2) aB)))))) cG bQ)
   (aF (aV (i:=3) scWO.nd rfl (Or.inr rfl) (cC (aA (bF (aA (pv 1) (aA (pv 2) aB))) (aA (bF (aA (pv 2) (aA (pv 1) aB))) aB))))
   (aJ (aW (nA M GI hr rfl T.mgC bI .nil aK (aA (dC (pv 0) T.cl mM GM h1 bM .nil aK) (aA ?c1 aB))))))),?_⟩
  case c1 =>
   refine' bJ (g:=(aQ 0)) (tt:=(cD (tOp (rInP K true) (tVar 0) (tVar 1)))) (te:=(tVar 0)) (NB:=["tie", "gone"]) (src:=[none,some 3]) (bB (by kernel_rfl)) rfl (bG (dC (pv 0) T.cl mT GT h1 bT .nil aK)) ?g ?t ?e
   case g=>exact fun cl C' s₃ H₃ fp=>(aL (i:=0) tI rfl (Or.inl rfl) (Or.inr rfl))
   case t=>exact fun cl C' s₃ H₃ fp=>bS (aT (fK hr.u) (pv 0) (pv 1) rfl)
   case e=>exact fun cl C' s₃ H₃ fp=>(pv 0)
  obtain ⟨dx,tl,ol,ds,e1,_⟩:=N.ob
  refine ⟨_,rfl,_,rfl,_,rfl,L,p,n,ts,i,j,rfl,N,tij,tji,fun H1 s1=>⟨_,rfl,iteF ?_⟩⟩
  refine ⟨_,rfl,_,rfl,by show 2 ≤ sizeLine; decide,fun t1 ht1=>⟨_,rfl,_,rfl,by show 2 ≤ sizeLine; decide,fun t2 ht2=>⟨by show 2 ≤ sizeLine; decide,fun G hG=>?_⟩⟩⟩
  have u1:=aE (o:=prT (ci i,ci j)) ht1
  have u2:=aE (o:=prT (ci j,ci i)) ht2
  have u3:=aE (o:=.lst [.ref t1,.ref t2]) hG
  have gG : (upd (upd (upd H1 t1 (prT (ci i,ci j))) t2 (prT (ci j,ci i))) G (.lst [.ref t1,.ref t2])) G = some (.lst (zr [(t1,(ci i,ci j)),(t2,(ci j,ci i))])):=aD
  have poG : PO (upd (upd (upd H1 t1 (prT (ci i,ci j))) t2 (prT (ci j,ci i))) G (.lst [.ref t1,.ref t2])) [(t1,(ci i,ci j)),(t2,(ci j,ci i))]:=fun z hz=>by
   rcases List.mem_cons.mp hz with rfl | hz
   ·exact u3 _ _ (u2 _ _ aD)
   ·rw [List.mem_singleton.mp hz]; exact u3 _ _ aD
  have s2:=((s1.trans u1).trans u2).trans u3
  have N2:=N.same s2
  have e2:=s2 _ _ e1
  have eG : upd (upd (upd H1 t1 (prT (ci i,ci j))) t2 (prT (ci j,ci i))) G (.lst [.ref t1,.ref t2]) = upd (upd (upd H1 t1 (.tup [.int (i : Int),.int (j : Int)])) t2 (.tup [.int (j : Int),.int (i : Int)])) G (.lst [.ref t1,.ref t2]):=rfl
  rw [eG] at gG poG s2 N2 e2
  generalize upd (upd (upd H1 t1 (.tup [.int (i : Int),.int (j : Int)])) t2 (.tup [.int (j : Int),.int (i : Int)])) G (.lst [.ref t1,.ref t2]) = H2 at *
  refine ⟨_,rfl,p,dx,_,rfl,e2,mU _ _ _ _,L,p,n,ts,rfl,N2,_,rfl,p,dx,_,rfl,e2,wX _ _ _ _,L,p,n,ts,rfl,N2,fun r zs H3 s3 _ hr3 po3 pm _=>⟨r,rfl,⟨_,SqL.of hr3⟩,fun D1 hD1=>?_⟩⟩
  have zl : zs.length ≤ 256:=by have:=N.fine.len; rw [← pm.length_eq,aP] at this; exact this
  refine dI (fun u=>!decide (u∈[(ci i,ci j),(ci j,ci i)])) (fun σ=>∃ a,σ = [a,some (.ref G)]) hr3 hD1 (by lia) ⟨_,rfl⟩ ?_ ?_
  ·rintro z σ H4 Kt Kf hz ⟨a,rfl⟩ sm kt kf
   refine ⟨_,rfl,_,rfl,fN (u:=z.2) ((s3.trans sm) _ _ (po3 z hz)) ((s3.trans sm) _ _ gG) (poG.same (s3.trans sm)) ⟨_,rfl,?_⟩⟩
   exact ite2 (fun c=>⟨_,rfl,kt _ _ ⟨_,rfl⟩ (Same.refl _) c⟩) (fun c=>kf _ _ ⟨_,rfl⟩ (Same.refl _) (Bool.eq_false_iff.mpr c))
  ·intro H4 s4 hD4
   have s04:=(s2.trans s3).trans s4
   refine fun px dx nx ndx nex=>?_
   have sN : Same H4 (upd (upd H4 dx (.own px)) px (.ins C dx [])):=(aE (o:=.own px) ndx).trans (aE (D:=px) (o:=.ins C dx []) (by rw [aI nex.symm]; exact nx))
   have gpx : (upd (upd H4 dx (.own px)) px (.ins C dx [])) px = some (.ins C dx []):=aD
   have sM:=s04.trans sN
   have po5:=((po3.same (s3.trans s4)).same sN)
   have hD5:=sN _ _ hD4
   generalize upd (upd H4 dx (.own px)) px (.ins C dx []) = HM at *
   have pm2 : (zp (zs.filter fun z=>!decide (z.2∈[(ci i,ci j),(ci j,ci i)]))).Perm (ts.filter fun t=>!decide (t∈[(ci i,ci j),(ci j,ci i)])):=by
    rw [iC (c:=fun t=>!decide (t∈[(ci i,ci j),(ci j,ci i)]))]
    exact pm.filter _
   refine ⟨px,dx,n,D1,_,rfl,gpx,⟨F2.perm pm2,hD5,fun z hz=>po5 z (List.mem_filter.mp hz).1⟩,tb.same sM,fun H7 N7 t7 s7=>⟨rfl,?_⟩⟩
   have npx : H px = none:=s04.free nx
   exact q _ pm2 px H7 npx (N7.weak fun a ha=>sM.free ha) t7 fun b o e h=>s7 _ _ (sM _ _ e) (aM e npx) h
theorem oG : aS ["_law_pot_here", "_law_many", "_law_order", "_law_ties"] ["_law_pot_here", "_law_many"] (aH sH):=⟨rfl,rfl,rfl,by decide +kernel,rfl,by decide +kernel,by decide +kernel⟩
def oH : Sp:=fun vs H Q _=>∃ (p : Addr) (n : Nat),vs = [.ref p,.int n]∧aY H p∧2 ≤ n∧n ≤ 32∧∀ (r : Addr) (zs : Zs) (H' : Hp),aU p H H'→aY H' p→Tl p H' r n zs→Sym (zp zs)→Q (.ref r) H'
theorem aAD {f : Addr} {fd : FuncData} (F : Fun K "_law_ring" "_law_ring" sH f fd) (B : Bl mg) (SM : Cal P w K mg base CX0 2 "_law_some" ["_law_pot_here", "_law_many", "_law_count"] fO) : FnOk P w K mg base CX0 3 f fd ["_law_pot_here", "_law_many"] oH:=by
 refine F.ok oG (fun vs H Q E h=>?_) (fun cdv A outer s H vs Q E hr h=>?_)
 ·obtain ⟨p,n,rfl,_⟩:=h
  rfl
 ·obtain ⟨p,n,rfl,hp,n1,n2,q⟩:=h
  refine' ⟨_,(aF (aV (i:=2) oG.nd rfl (Or.inr rfl) (aN SM hr aK (aA (pv 0) (aA (pv 1) (aA (pv 1) aB)))))
   (aF (aV (i:=3) oG.nd rfl (Or.inr rfl) ?c1)
   (aJ (aW (bA gH (pv 3) ?c2))))),?_⟩
  case c1 =>
   refine' bJ (g:=(aQ 0)) (te:=(tTup (bK (tOp (rIxL K) (tVar 1) (tOp (rI0 fun i j=>.int (i - j)) (tVar 0) (tC (.int 1)))) (bK (tOp (rIxL K) (tVar 1) (tVar 0)) tNil)))) (NB:=["_law_k", "_law_order"]) (src:=[none,some 2]) (bB (by kernel_rfl)) rfl (bZ rfl B.range (aA (pv 1) aB)) ?g ?t ?e
   case g=>exact fun cl C s₃ H₃ fp=>(aL (i:=0) wZ rfl (Or.inl rfl) (Or.inr rfl))
   case t=>exact fun cl C s₃ H₃ fp=>cE
   case e=>exact fun cl C s₃ H₃ fp=>(bF (aA (bH bE (pv 1) (bA gD (pv 0) aG) (fun _ _=>rfl)) (aA (bH bE (pv 1) (pv 0) (fun _ _=>rfl)) aB)))
  case c2 =>
   refine' bJ (g:=(gTup K 2 (cU (aQ 0) (cU (aQ 1) gNil)))) (tt:=(cD (tOp (rInP K true) (tTup (bK (tVar 1) (bK (tVar 0) tNil))) (tVar 2)))) (te:=(tTup (bK (tVar 1) (bK (tVar 0) tNil)))) (NB:=["_law_one", "_law_other", "_law_ties"]) (src:=[none,none,some 3]) (bB (by kernel_rfl)) rfl (bG (pv 3)) ?g ?t ?e
   case g=>exact fun cl C s₃ H₃ fp=>(dF (n:=2) rfl (bC (aL (i:=0) fR rfl (Or.inl rfl) (Or.inr rfl)) (bC (aL (i:=1) fR rfl (Or.inl rfl) (Or.inr rfl)) cR)))
   case t=>exact fun cl C s₃ H₃ fp=>bS (aT (fK hr.u) (bF (aA (pv 1) (aA (pv 0) aB))) (pv 2) rfl)
   case e=>exact fun cl C s₃ H₃ fp=>(bF (aA (pv 1) (aA (pv 0) aB)))
  refine ⟨_,rfl,_,rfl,_,rfl,p,n,n,rfl,by lia,by lia,hp,fun O xs H1 s1 hp1 hO1 hO so lo=>?_⟩
  have pm:=so.all lo
  refine ⟨_,rfl,(n : Int),rfl,by lia,by lia,fun T0 hT0=>?_⟩
  refine jA (lo:=0) (n:=n) (fun k=>(ci (xs.getD (NetM.pk xs.length k) 0),ci (xs.getD k 0))) (fun σ=>∃ x,σ = [x,some (.ref O)]) hT0 (by lia) ⟨_,rfl⟩ ?_ ?_
  ·rintro k σ H2 R Kf hk ⟨x,rfl⟩ sm2 kt
   rw [Int.zero_add]
   have hO2:=sm2 _ _ hO
   refine ⟨_,rfl,_,rfl,_,_,rfl,rfl,O,_,_,_,rfl,rfl,SqL.of hO2,oC (by lia),_,rfl,_,rfl,O,_,_,_,rfl,rfl,SqL.of hO2,bD (by rw [bU (show k < xs.length by lia)]; exact gW (by lia)),by show 2 ≤ sizeLine; decide,fun t ht=>kt _ _ ⟨_,rfl⟩ ht⟩
  intro zs H2 s2 hT2 po2 ez _
  have ec : zp zs = cyc xs:=by rw [ez,← lo]; rfl
  have zl : zs.length = n:=by rw [← aP,ez,List.length_map,List.length_range]
  refine ⟨_,rfl,_,rfl,T0,rfl,⟨_,SqL.of hT2⟩,fun D1 hD1=>?_⟩
  refine cQ (xs:=zr zs) (fun i ys σ H3=>(∃ a b,σ = [a,b,some (.ref T0)])∧Same H2 H3∧H3 D1 = some (.lst ys)∧∃ ws : Zs,ys = zr ws∧PO H3 ws∧zp ws = (((zp zs).take i).filter fun t=>!decide (swp t∈zp zs)).map swp) ⟨⟨_,_,rfl⟩,aE hD1,aD,[],rfl,PO.nil,rfl⟩ (fun i ys σ H3 _ z=>SqL.of (z.2.1 _ _ hT2)) ?_ ?_
  ·rintro i x ys σ H3 Kt Kf hx ⟨⟨a,b,rfl⟩,sm,hD3,ws,rfl,po3,ew⟩ kt kf
   obtain ⟨z,hz,rfl⟩:=fL hx
   have hi : i < zs.length:=(List.getElem?_eq_some_iff.mp hz).1
   have gz:=sm _ _ (po2 z (List.mem_of_getElem? hz))
   have wl : ws.length ≤ i:=by rw [← aP,ew,List.length_map]; exact Nat.le_trans (List.length_filter_le _ _) (List.length_take_le _ _)
   have tk : (zp zs).take (i + 1) = (zp zs).take i ++ [z.2]:=by
    rw [List.take_add_one]
    unfold zp
    rw [List.getElem?_map,hz]; rfl
   refine ⟨z.1,_,rfl,SqT.of gz,rfl,_,_,rfl,_,_,rfl,rfl,?_⟩
   refine ⟨_,rfl,_,rfl,by show 2 ≤ sizeLine; decide,fun t1 ht1=>⟨_,rfl,fN (u:=swp z.2) aD (aE ht1 _ _ (sm _ _ hT2)) ((po2.same sm).same (aE ht1)) ⟨_,rfl,?_⟩⟩⟩
   have st1:=aE (o:=prT (swp z.2)) ht1
   refine ite2 (fun c=>?_) (fun c=>?_)
   ·refine ⟨_,rfl,_,rfl,by show 2 ≤ sizeLine; decide,fun t2 ht2=>?_⟩
    have st2:=st1.trans (aE (o:=prT (swp z.2)) ht2)
    refine kt _ _ _ (st2 _ _ hD3) (by rw [aZ]; exact Nat.lt_of_le_of_lt wl (Nat.lt_of_lt_of_le (show i < 33 by lia) (by decide))) ⟨⟨_,_,rfl⟩,bR (sm.trans st2) hD1,aD,ws ++ [(t2,swp z.2)],by rw [cA]; rfl,PO.putL (xs:=zr ws) ((po3.same st2).append (PO.one aD)) (st2 _ _ hD3),?_⟩
    have c : (!decide (swp z.2∈zp zs)) = true:=c
    rw [cH,ew,tk,List.filter_append,List.map_append,List.filter_cons,if_pos c]; rfl
   ·refine kf _ _ ⟨⟨_,_,rfl⟩,sm.trans st1,st1 _ _ hD3,ws,rfl,po3.same st1,?_⟩
    have c : ¬ (!decide (swp z.2∈zp zs)) = true:=c
    rw [ew,tk,List.filter_append,List.filter_cons,if_neg c]
    simp
  ·rintro ys σ H3 ⟨_,sm,hD3,ws,rfl,po3,ew⟩
   rw [aZ,← aP,List.take_length] at ew
   have wl : ws.length ≤ 32:=by rw [← aP,ew,List.length_map]; exact Nat.le_trans (List.length_filter_le _ _) (by rw [aP]; lia)
   refine ⟨T0,D1,_,_,rfl,rfl,sm _ _ hT2,hD3,by rw [aZ,aZ]; exact Nat.le_trans (show _ ≤ 100 by lia) (by decide),fun N hN=>?_⟩
   have sN:=aE (o:=.lst (zr zs ++ zr ws)) hN
   have e2 : zp (zs ++ ws) = jD xs:=by rw [cH,ew,ec]; rfl
   obtain ⟨Fi,sy⟩:=wQ n1 n2 pm
   have s23:=(s2.trans sm).trans sN
   refine q N (zs ++ ws) _ (s1.trans (aU.of s23)) (hp1.same s23) ⟨⟨by rw [e2]; exact Fi,by rw [aD,cA],(((po2.same sm).append po3).same sN)⟩,hp1.ne ((s2.trans sm).free hN)⟩ (by rw [e2]; exact sy)
end
end K12
namespace NetM
open PyProof.Rows in
theorem pI {val : Nat→Int} : ∀ {m : Nat},(firstMet val m).length = m→((List.range m).map val).Nodup
 | 0,_=>List.nodup_nil
 | m + 1,h=>by
  rw [firstMet_succ] at h
  unfold step_dedup at h
  have le:=firstMet_length_le val m
  by_cases c : (firstMet val m).any (· == val m) = true
  ·rw [if_pos c] at h; lia
  ·rw [if_neg c,List.length_append,List.length_singleton] at h
   rw [List.range_succ,List.map_append]
   refine List.nodup_append.mpr ⟨pI (by lia),by simp,fun x hx y hy e=>c ?_⟩
   rw [firstMet_any]
   rw [List.map_singleton,List.mem_singleton] at hy
   exact List.any_eq_true.mpr ⟨x,hx,by rw [e,hy]; exact beq_self_eq_true _⟩
theorem aCq {n : Nat} {cs : List Nat} (nd : cs.Nodup) (lt : ∀ x∈cs,x < n) (hl : cs.length = n) {x : Nat} (hx : x < n) : x∈cs:=Classical.byContradiction fun z=>by
 have:=dG (List.nodup_cons.mpr ⟨z,nd⟩) (n:=n) fun y hy=>(List.mem_cons.mp hy).elim (fun e=>e ▸ hx) (lt y)
 rw [List.length_cons] at this
 lia
def rowN (ts : Ts) (h : Nat) : List Nat:=(ts.filter fun t=>decide (t.1 = ci h)).map fun t=>t.2.toNat
theorem sI {n : Nat} {ts : Ts} {h x : Nat} (rg : ∀ t∈ts,(0 ≤ t.1∧t.1 < n)∧(0 ≤ t.2∧t.2 < n)) (hx : x∈rowN ts h) : T ts h x∧x < n:=by
 obtain ⟨t,ht,rfl⟩:=List.mem_map.mp hx
 obtain ⟨a,b⟩:=List.mem_filter.mp ht
 have r:=rg t a
 refine ⟨?_,by lia⟩
 show (ci h,ci t.2.toNat)∈ts
 rw [show (ci h,ci t.2.toNat) = t from Prod.ext (of_decide_eq_true b).symm (show ((t.2.toNat : Nat) : Int) = t.2 by lia)]
 exact a
theorem mV {n : Nat} {ts : Ts} {h : Nat} (rg : ∀ t∈ts,(0 ≤ t.1∧t.1 < n)∧(0 ≤ t.2∧t.2 < n)) (nd : ts.Nodup) : (rowN ts h).Nodup:=by
 refine List.pairwise_map.mpr ((nd.filter _).imp_of_mem fun {x y} hx hy hxy e=>hxy ?_)
 obtain ⟨x1,x2⟩:=List.mem_filter.mp hx
 obtain ⟨y1,y2⟩:=List.mem_filter.mp hy
 have:=rg x x1
 have:=rg y y1
 exact Prod.ext ((of_decide_eq_true x2).trans (of_decide_eq_true y2).symm) (by lia)
end NetM
namespace K12
open PySem L2 NetM
abbrev sJo : Stmt:=top 42
abbrev sEx : Stmt:=top 41
theorem fQ : (["_law_one", "_law_other", "_law_house"] : List Str).Nodup:=by decide +kernel
theorem pN : (["_law_other", "_law_come"] : List Str).Nodup:=by decide +kernel
theorem zQ : (["_law_tie"] : List Str).Nodup:=by decide +kernel
def aC0 (σ : St) : Nat:=match σ[4]? with
 | some (some (V.int z))=>z.toNat
 | _=>0
section
variable {P : Program} {w : World} {K : PySem.W.Frag} {mg : Str→Option Value} {base : Heap}
theorem scJo : aS ["_law_many", "_law_ties", "_law_leads", "_law_come", "_law_at"] ["_law_many", "_law_ties"] (aH sJo):=⟨rfl,rfl,rfl,by decide +kernel,rfl,by decide +kernel,by decide +kernel⟩
def lN : Sp:=fun vs H Q _=>∃ (l : Addr) (n : Nat) (zs : Zs),vs = [.int n,.ref l]∧2 ≤ n∧n ≤ 32∧H l = some (.lst (zr zs))∧PO H zs∧zs.length ≤ 300∧(zp zs).Nodup∧(∀ t∈zp zs,(0 ≤ t.1∧t.1 < n)∧(0 ≤ t.2∧t.2 < n))∧∀ (b : Bool) (H' : Hp),Same H H'→(b = true→∀ x,x < n→∃ k,Walk (zp zs) k 0 x)→Q (.bl b) H'
theorem zR {f : Addr} {fd : FuncData} (F : Fun K "_law_joined" "_law_joined" sJo f fd) (B : Bl mg) : FnOk P w K mg base CX0 1 f fd ["_law_many", "_law_ties"] lN:=by
 refine F.ok scJo (fun vs H Q E h=>?_) (fun cdv A outer s H vs Q E hr h=>?_)
 ·obtain ⟨l,n,zs,rfl,_⟩:=h
  rfl
 ·obtain ⟨l,n,zs,rfl,n1,n2,hl,po,zl,nd,rg,q⟩:=h
  refine' ⟨_,(aF (cN (i:=2) (g:=(aQ 0)) (te:=(iA [none,none,some 0] (iU K (tVar 1)) (gTup K 2 (cU (aQ 0) (cU (aQ 1) gNil))) (cD (tOp (rEq) (tVar 0) (tVar 2))) (tVar 1))) (NB:=["_law_house", "_law_ties"]) (src:=[none,some 1]) (bB (by kernel_rfl)) rfl (bZ rfl B.range (aA (pv 0) aB)) ?g1 ?t1 ?e1 scJo.nd rfl rfl rfl)
   (aF (aV (i:=3) scJo.nd rfl (Or.inr rfl) (cC (aA aG aB)))
   (aF (aV (i:=4) scJo.nd rfl (Or.inl rfl) aG)
   (aF (qA PassesOwn.never (aT kH (pv 4) (aO aR (by rfl) B.len PySem.boot_len (aA (pv 3) aB)) (aX _)) (aF (eW (lW PySem.F.plainAttrs_list PySem.F.slot_list_extend PySem.F.type_list_extend xM (pv 3) (aA ?c3 aB)))
    (aJ (aV (i:=4) scJo.nd rfl (Or.inl rfl) (bA dA (pv 4) aG)))))
   (aJ (aW (cW cI (aO aR (by rfl) B.len PySem.boot_len (aA (pv 3) aB)) (pv 0) (aX _)))))))),?_⟩
  case g1=>exact fun cl C s₃ H₃ fp=>(aL (i:=0) eU rfl (Or.inr rfl) (Or.inl rfl))
  case t1=>exact fun cl C s₃ H₃ fp=>cE
  case e1 =>
   intro cl C s₃ H₃ fp
   refine' ?c2
   case c2 =>
    refine' bJ (g:=(gTup K 2 (cU (aQ 0) (cU (aQ 1) gNil)))) (tt:=(cD (tOp (rEq) (tVar 0) (tVar 2)))) (te:=(tVar 1)) (NB:=["_law_one", "_law_other", "_law_house"]) (src:=[none,none,some 0]) (bB (by kernel_rfl)) rfl (bG (pv 1)) ?g ?t ?e
    case g=>exact fun cl C s₃ H₃ fp=>(dF (n:=2) rfl (bC (aL (i:=0) fQ rfl (Or.inl rfl) (Or.inr rfl)) (bC (aL (i:=1) fQ rfl (Or.inl rfl) (Or.inr rfl)) cR)))
    case t=>exact fun cl C s₃ H₃ fp=>bS (aT cI (pv 0) (pv 2) (aX _))
    case e=>exact fun cl C s₃ H₃ fp=>(pv 1)
  case c3 =>
   refine' bJ (g:=(aQ 0)) (tt:=(cD (tOp (rIn K true) (tVar 0) (tVar 1)))) (te:=(tVar 0)) (NB:=["_law_other", "_law_come"]) (src:=[none,some 3]) (bB (by kernel_rfl)) rfl (bG (bH bE (pv 2) (bH bE (pv 3) (pv 4) (fun _ _=>rfl)) (fun _ _=>rfl))) ?g ?t ?e
   case g=>exact fun cl C s₃ H₃ fp=>(aL (i:=0) pN rfl (Or.inl rfl) (Or.inr rfl))
   case t=>exact fun cl C s₃ H₃ fp=>bS (aT qK (pv 0) (pv 1) rfl)
   case e=>exact fun cl C s₃ H₃ fp=>(pv 0)
  refine ⟨_,rfl,(n : Int),rfl,by lia,by lia,fun Ld hLd=>?_⟩
  refine dM (n:=n) (lo:=0) (fun i ys σ H2=>(∃ a,σ = [a,some (.ref l)])∧Same H H2∧H2 Ld = some (.lst ys)∧∃ bs : List Addr,ys = bs.map V.ref∧(∀ b∈bs,b ≠ Ld)∧Holds H2 bs i (fun h=>.lst (NV (rowN (zp zs) h)))) ⟨⟨_,rfl⟩,aE hLd,aD,[],rfl,fun b hb=>(nomatch hb),Holds.nil⟩ ?_ ?_
  ·rintro i ys σ H2 Kt Kf hi ⟨⟨a,rfl⟩,sm,hL2,bs,rfl,nb,hs⟩ kt kf
   rw [Int.zero_add]
   refine ⟨_,rfl,l,rfl,⟨_,SqL.of (sm _ _ hl)⟩,fun D hD=>iB (fun σ=>∃ a b,σ = [a,b,some (.int (i : Int))]) (·.1) (·.2) (i : Int) hD (sm _ _ hl) (po.same sm) (by lia) ⟨_,_,rfl⟩ ?_ ?_⟩
   ·rintro z σ H3 Kt Kf hj ⟨x,y,rfl⟩ ha kt kf
    refine ⟨z.1,_,rfl,SqT.of ha,rfl,_,_,rfl,_,_,rfl,rfl,?_⟩
    refine ⟨_,rfl,_,rfl,rfl,_,rfl,?_⟩
    refine ite2 (fun e=>?_) (fun e=>?_)
    ·exact ⟨_,rfl,kt _ ⟨_,_,rfl⟩ (by simpa using e)⟩
    ·exact kf _ ⟨_,_,rfl⟩ (by simpa using e)
   ·have eR : IV (((zp zs).filter fun y=>decide (y.1 = (i : Int))).map (·.2)) = NV (rowN (zp zs) i):=by
     unfold IV NV rowN
     rw [List.map_map,List.map_map]
     refine List.map_congr_left fun t ht=>?_
     have:=rg t (List.mem_filter.mp ht).1
     exact congrArg V.int (show t.2 = ((t.2.toNat : Nat) : Int) by lia)
    rw [eR]
    have sD:=aE (o:=.lst (NV (rowN (zp zs) i))) hD
    have nD : D ≠ Ld:=(aM hL2 hD).symm
    refine kt _ _ _ (sD _ _ hL2) (by rw [List.length_map,hs.1]; exact Nat.lt_of_lt_of_le (show i < 33 by lia) (by decide)) ⟨⟨_,rfl⟩,bR (sm.trans sD) hLd,aD,bs ++ [D],by rw [List.map_append]; rfl,fun b hb=>?_,Holds.snoc (hs.mono fun j hj e=>?_) (by rw [aI nD,aD])⟩
    ·rcases List.mem_append.mp hb with z | z
     ·exact nb b z
     ·rw [List.mem_singleton.mp z]; exact nD
    ·rw [aI (nb _ (by rw [bU (by rw [hs.1]; exact hj)]; exact List.getElem_mem _))]
     exact sD _ _ e
  rintro ys σ H2 ⟨_,s2,hL2,bs,rfl,nb,hs⟩
  refine ⟨by show 1 ≤ sizeLine; decide,fun Cm hCm=>?_⟩
  have sC:=aE (o:=.lst [.int 0]) hCm
  have nC : H Cm = none:=s2.free hCm
  refine qC (fun σ H3=>∃ (i : Nat) (cs : List Nat),σ = [some (.int n),some (.ref l),some (.ref Ld),some (.ref Cm),some (.int (i : Int))]∧i ≤ cs.length∧cs.Nodup∧(∀ x∈cs,x < n∧∃ k,Walk (zp zs) k 0 x)∧Same H2 H3∧H3 Cm = some (.lst (NV cs))) (fun σ _=>n - aC0 σ)
   ⟨0,[0],rfl,Nat.zero_le _,by simp,fun x hx=>by rw [List.mem_singleton.mp hx]; exact ⟨by lia,0,rfl⟩,sC,aD⟩ ?_ ?_
  ·rintro σ H3 ⟨i,cs,rfl,hi,nd3,wk,s3,hC3⟩
   have hcn : cs.length ≤ n:=dG nd3 fun x hx=>(wk x hx).1
   refine ⟨_,rfl,_,rfl,Cm,_,rfl,.inl (SqL.of hC3),_,_,rfl,rfl,_,rfl,?_⟩
   rw [cK]
   by_cases hin : i < cs.length
   ·refine aCU (decide_eq_true (by lia)) ?_
    have hu' : cs[i]? = some cs[i]:=List.getElem?_eq_getElem hin
    generalize cs[i] = u at hu'
    obtain ⟨hun,ku,wu⟩:=wk u (List.mem_of_getElem? hu')
    have huR : (NV cs)[i]? = some (.int (u : Int)):=by unfold NV; rw [List.getElem?_map,hu']; rfl
    have gb : (bs.map V.ref)[u]? = some (.ref (bs.getD u 0)):=by
     rw [List.getElem?_map,List.getD_eq_getElem?_getD,List.getElem?_eq_getElem (by rw [hs.1]; exact hun)]; rfl
    refine ⟨_,rfl,.inl ⟨rfl,_,SqL.of hC3⟩,_,rfl,_,rfl,_,rfl,Cm,_,_,_,rfl,rfl,SqL.of hC3,bD huR,Ld,_,_,_,rfl,rfl,SqL.of (s3 _ _ hL2),bD gb,_,rfl,⟨_,SqL.of (s3 _ _ (hs.2 u hun))⟩,fun D1 hD1=>?_⟩
    have rl : (rowN (zp zs) u).length ≤ 32:=Nat.le_trans (dG (mV rg nd) fun x hx=>(sI rg hx).2) n2
    refine uZ (fun x=>!decide (x∈cs)) (fun σ=>∃ a,σ = [a,some (.ref Cm)]) (s3 _ _ (hs.2 u hun)) hD1 (by lia) ⟨_,rfl⟩ ?_ ?_
    ·rintro v σ H4 Kt Kf hv ⟨a',rfl⟩ sm4 kt kf
     refine ⟨_,rfl,_,rfl,Cm,_,rfl,.inl (SqL.of (sm4 _ _ hC3)),rfl,lM,_,rfl,?_⟩
     have e:=oF (x:=v) (xs:=cs)
     refine ite2 (fun c=>?_) (fun c=>?_)
     ·exact ⟨_,rfl,kt _ _ ⟨_,rfl⟩ (Same.refl _) (e ▸ c)⟩
     ·exact kf _ _ ⟨_,rfl⟩ (Same.refl _) (by rw [← e]; exact Bool.eq_false_iff.mpr c)
    ·intro H4 s4 hD4
     have fl : ((rowN (zp zs) u).filter fun x=>!decide (x∈cs)).length ≤ 32:=Nat.le_trans (List.length_filter_le _ _) rl
     have nd4 : (cs ++ (rowN (zp zs) u).filter fun x=>!decide (x∈cs)).Nodup:=List.nodup_append.mpr ⟨nd3,(mV rg nd).filter _,fun x hx y hy e=>by
      have:=(List.mem_filter.mp hy).2
      simp only [Bool.not_eq_true',decide_eq_false_iff_not] at this
      exact this (e ▸ hx)⟩
     refine ⟨Cm,D1,_,_,rfl,rfl,s4 _ _ hC3,hD4,by rw [cK,cK]; exact Nat.le_trans (show _ ≤ 100 by lia) (by decide),?_⟩
     refine ⟨_,rfl,_,_,rfl,rfl,⟨i + 1,cs ++ (rowN (zp zs) u).filter fun x=>!decide (x∈cs),rfl,by rw [List.length_append]; lia,nd4,fun x hx=>?_,bR (s3.trans s4) hCm,by rw [aD]; unfold NV; rw [List.map_append]⟩,?_⟩
     ·rcases List.mem_append.mp hx with z | z
      ·exact wk x z
      ·obtain ⟨t,hxn⟩:=sI rg (List.mem_filter.mp z).1
       exact ⟨hxn,ku + 1,u,wu,t⟩
     ·show n - ((i : Int) + 1).toNat < n - ((i : Int)).toNat
      lia
   ·refine aCV (decide_eq_false (by lia)) ?_
    refine ⟨_,rfl,Cm,_,rfl,.inl (SqL.of hC3),_,rfl,rfl,q _ H3 (s2.trans s3) fun b x hx=>(wk x ?_).2⟩
    have e:=of_decide_eq_true b
    rw [cK] at e
    have e:=V.int.inj e
    exact aCq nd3 (fun y hy=>(wk y hy).1) (by lia) hx
  ·rintro σ H2 Q1 Q2 imp ⟨v,e1,v2,e2,p,ys,e3,e4,i1,i2,e5,e6,kk,e7,q⟩
   exact ⟨v,e1,v2,e2,p,ys,e3,e4,i1,i2,e5,e6,kk,e7,imp _ _ q⟩
end
end K12
namespace K12
open PySem L2 NetM
section
variable {P : Program} {w : World} {K : PySem.W.Frag} {mg : Str→Option Value} {base : Heap}
theorem zS {H : Hp} {u1 u2 u3 u4 : Int × Int} {R : V→Hp→Prop} (k : ∀ (D : Addr) (ws : Zs) (H' : Hp),Same H H'→H D = none→H' D = some (.lst (zr ws))→PO H' ws→zp ws = [u1,u2,u3,u4]→R (.ref D) H') {t1 t2 t3 t4 D : Addr} (h1 : H t1 = none) (h2 : (upd H t1 (prT u1)) t2 = none) (h3 : (upd (upd H t1 (prT u1)) t2 (prT u2)) t3 = none) (h4 : (upd (upd (upd H t1 (prT u1)) t2 (prT u2)) t3 (prT u3)) t4 = none) (hD : (upd (upd (upd (upd H t1 (prT u1)) t2 (prT u2)) t3 (prT u3)) t4 (prT u4)) D = none) :
  R (.ref D) (upd (upd (upd (upd (upd H t1 (prT u1)) t2 (prT u2)) t3 (prT u3)) t4 (prT u4)) D (.lst [.ref t1,.ref t2,.ref t3,.ref t4])):=by
 have a1:=aE (o:=prT u1) h1
 have a2:=aE (o:=prT u2) h2
 have a3:=aE (o:=prT u3) h3
 have a4:=aE (o:=prT u4) h4
 have a5:=aE (o:=.lst [.ref t1,.ref t2,.ref t3,.ref t4]) hD
 have a14:=((a1.trans a2).trans a3).trans a4
 refine k D [(t1,u1),(t2,u2),(t3,u3),(t4,u4)] _ (a14.trans a5) (a14.free hD) aD (fun z hz=>a5 _ _ ?_) rfl
 simp only [List.mem_cons,List.mem_nil_iff,or_false] at hz
 rcases hz with rfl | rfl | rfl | rfl
 ·exact a4 _ _ (a3 _ _ (a2 _ _ aD))
 ·exact a4 _ _ (a3 _ _ aD)
 ·exact a4 _ _ aD
 ·exact aD
theorem scEx : aS ["_law_pot_here", "_law_ties", "_law_one", "_law_other", "_law_here", "_law_there", "_law_fresh", "_law_gone", "_law_made"] ["_law_pot_here", "_law_ties"] (aH sEx):=⟨rfl,rfl,rfl,by decide +kernel,rfl,by decide +kernel,by decide +kernel⟩
theorem sJ : (["_law_tie", "_law_gone"] : List Str).Nodup:=by decide +kernel
def spEx : Sp:=fun vs H Q _=>∃ (p : Addr) (n : Nat) (l : Addr) (zs : Zs),vs = [.ref p,.ref l]∧aY H p∧Tl p H l n zs∧Sym (zp zs)∧∀ (r : Addr) (zs' : Zs) (H' : Hp),aU p H H'→aY H' p→Tl p H' r n zs'→Q (.ref r) H'
theorem aC1 {f : Addr} {fd : FuncData} (F : Fun K "_law_exchanged" "_law_exchanged" sEx f fd) (B : Bl mg) (D : Cal P w K mg base CX0 1 "_law_digit" ["_law_pot_here", "_law_many"] dH) (JO : Cal P w K mg base CX0 1 "_law_joined" ["_law_many", "_law_ties"] lN) : FnOk P w K mg base CX0 2 f fd ["_law_pot_here", "_law_ties"] spEx:=by
 refine F.ok scEx (fun vs H Q E h=>?_) (fun cdv A outer s H vs Q E hr h=>?_)
 ·obtain ⟨p,n,l,zs,rfl,_⟩:=h
  rfl
 ·obtain ⟨p,n,l,zs,rfl,hp,tl,sy,q⟩:=h
  have h1 : Room 1 _:=hr
  have fi:=tl.t.fine
  have n1:=fi.n1
  have n2:=fi.n2
  have zl : zs.length ≤ 256:=by have:=fi.len; rwa [aP] at this
  have z0 : 0 < zs.length:=by
   have:=oA fi (show 0 < n by lia)
   rw [← aP]
   exact Nat.lt_of_lt_of_le this (List.length_filter_le _ _)
  refine' ⟨_,(aF (eI (bH bE (pv 1) (aN D h1 aK (aA (pv 0) (aA (aO aR (by rfl) B.len PySem.boot_len (aA (pv 1) aB)) aB))) (fun _ _=>rfl)) (dF (n:=2) rfl (bC (aL (i:=2) scEx.nd rfl (Or.inl rfl)) (bC (aL (i:=3) scEx.nd rfl (Or.inl rfl)) cR))))
   (aF (eI (bH bE (pv 1) (aN D h1 aK (aA (pv 0) (aA (aO aR (by rfl) B.len PySem.boot_len (aA (pv 1) aB)) aB))) (fun _ _=>rfl)) (dF (n:=2) rfl (bC (aL (i:=4) scEx.nd rfl (Or.inl rfl)) (bC (aL (i:=5) scEx.nd rfl (Or.inl rfl)) cR))))
   (aF (aV (i:=6) scEx.nd rfl (Or.inl rfl) (cC (aA (bF (aA (pv 2) (aA (pv 5) aB))) (aA (bF (aA (pv 5) (aA (pv 2) aB))) (aA (bF (aA (pv 4) (aA (pv 3) aB))) (aA (bF (aA (pv 3) (aA (pv 4) aB))) aB))))))
   (aF (bV (PW.pt (lP (aT kH (aO zK (by rfl) B.len PySem.boot_len (aA (eX (zJ rfl) (by rfl) B.set PyProof.Rows.boot_set (aA (cC (aA (pv 2) (aA (pv 3) (aA (pv 4) (aA (pv 5) aB))))) aB)) aB)) aG (aX _)) (lO (aT (yF (e:=eqV) hr.u) ?c1 (cC aB) (aX _))))) (aJ (aW (pv 1))) bQ)
   (aF (aV (i:=7) scEx.nd rfl (Or.inr rfl) (cC (aA (bF (aA (pv 2) (aA (pv 3) aB))) (aA (bF (aA (pv 3) (aA (pv 2) aB))) (aA (bF (aA (pv 4) (aA (pv 5) aB))) (aA (bF (aA (pv 5) (aA (pv 4) aB))) aB))))))
   (aF (aV (i:=8) scEx.nd rfl (Or.inl rfl) (bA gH ?c2 (pv 6)))
   (aJ (aW (pZ (cP (aN JO h1 aK (aA (bA dA aG (aO (yW rfl) (by rfl) B.max PyProof.Rows.boot_max (aA ?c3 aB))) (aA (pv 8) aB)))) (pv 8) (pv 1)))))))))),?_⟩
  case c1 =>
   refine' bJ (g:=(aQ 0)) (tt:=(cD (tOp (rInP K false) (tVar 0) (tVar 1)))) (te:=(tVar 0)) (NB:=["_law_tie", "_law_ties"]) (src:=[none,some 1]) (bB (by kernel_rfl)) rfl (bG (pv 6)) ?g ?t ?e
   case g=>exact fun cl C s₃ H₃ fp=>(aL (i:=0) lB rfl (Or.inl rfl) (Or.inr rfl))
   case t=>exact fun cl C s₃ H₃ fp=>bS (aT (rA hr.u) (pv 0) (pv 1) rfl)
   case e=>exact fun cl C s₃ H₃ fp=>(pv 0)
  case c2 =>
   refine' bJ (g:=(aQ 0)) (tt:=(cD (tOp (rInP K true) (tVar 0) (tVar 1)))) (te:=(tVar 0)) (NB:=["_law_tie", "_law_gone"]) (src:=[none,some 7]) (bB (by kernel_rfl)) rfl (bG (pv 1)) ?g ?t ?e
   case g=>exact fun cl C s₃ H₃ fp=>(aL (i:=0) sJ rfl (Or.inl rfl) (Or.inr rfl))
   case t=>exact fun cl C s₃ H₃ fp=>bS (aT (fK hr.u) (pv 0) (pv 1) rfl)
   case e=>exact fun cl C s₃ H₃ fp=>(pv 0)
  case c3 =>
   refine' bJ (g:=(aQ 0)) (te:=tCB (fun xs H Q=>∃ (a : Addr) (x y : Int),xs = [.ref a]∧SqT K H a [.int x,.int y]∧Q (.int (max x y)) H) (bK (tVar 0) tNil)) (NB:=["_law_tie"]) (src:=[none]) (bB (by kernel_rfl)) rfl (bG (pv 1)) ?g ?t ?e
   case g=>exact fun cl C s₃ H₃ fp=>(aL (i:=0) zQ rfl (Or.inl rfl) (Or.inr rfl))
   case t=>exact fun cl C s₃ H₃ fp=>cE
   case e=>exact fun cl C s₃ H₃ fp=>(aO (zL rfl) (by rfl) B.max PyProof.Rows.boot_max (aA (pv 0) aB))
  have pick : ∀ d,d < zs.length→∃ z,z∈zs∧(zr zs)[d]? = some (.ref z.1):=fun d hd=>⟨zs[d],List.getElem_mem hd,by unfold zr; rw [List.getElem?_map,List.getElem?_eq_getElem hd]; rfl⟩
  refine ⟨_,rfl,_,rfl,_,rfl,l,_,rfl,.inl (SqL.of tl.t.at_),p,(zr zs).length,rfl,by rw [aZ]; exact z0,by rw [aZ]; lia,hp,fun d1 H1 hd1 s1 hp1=>?_⟩
  rw [aZ] at hd1
  obtain ⟨z1,hz1,g1⟩:=pick d1 hd1
  have tl1:=tl.sameE s1 hp
  obtain ⟨w1,a,b⟩:=z1
  refine ⟨l,_,_,_,rfl,rfl,SqL.of tl1.t.at_,bD g1,w1,_,rfl,SqT.of (tl1.t.po _ hz1),rfl,_,_,rfl,_,_,rfl,rfl,?_⟩
  refine ⟨_,rfl,_,rfl,_,rfl,l,_,rfl,.inl (SqL.of tl1.t.at_),p,(zr zs).length,rfl,by rw [aZ]; exact z0,by rw [aZ]; lia,hp1,fun d2 H2 hd2 s2 hp2=>?_⟩
  rw [aZ] at hd2
  obtain ⟨z2,hz2,g2⟩:=pick d2 hd2
  have tl2:=tl1.sameE s2 hp1
  obtain ⟨w2,c,d⟩:=z2
  refine ⟨l,_,_,_,rfl,rfl,SqL.of tl2.t.at_,bD g2,w2,_,rfl,SqT.of (tl2.t.po _ hz2),rfl,_,_,rfl,_,_,rfl,rfl,?_⟩
  have m1 : (a,b)∈zp zs:=List.mem_map.mpr ⟨_,hz1,rfl⟩
  have m2 : (c,d)∈zp zs:=List.mem_map.mpr ⟨_,hz2,rfl⟩
  have s02:=s1.trans s2
  clear g1 g2 hz1 hz2 tl1 hd1 hd2
  refine ⟨_,rfl,_,rfl,by show 2 ≤ sizeLine; decide,fun f1 hf1=>⟨_,rfl,_,rfl,by show 2 ≤ sizeLine; decide,fun f2 hf2=>⟨_,rfl,_,rfl,by show 2 ≤ sizeLine; decide,fun f3 hf3=>⟨_,rfl,_,rfl,by show 2 ≤ sizeLine; decide,fun f4 hf4=>⟨by show 4 ≤ sizeLine; decide,fun Fr hFr=>?_⟩⟩⟩⟩⟩
  refine zS (u1:=(a,d)) (u2:=(d,a)) (u3:=(c,b)) (u4:=(b,c)) (R:=fun v Hx=>aQ 6 v _ Hx _) (fun Fr fs H3 s3 hFr hF3 poF eF=>?_) hf1 hf2 hf3 hf4 hFr
  have tl3 : Tl p H3 l n zs:=⟨tl2.t.same s3,tl2.ne⟩
  have hp3:=hp2.same s3
  have s03 : aU p H H3:=s02.trans (aU.of s3)
  clear hf1 hf2 hf3 hf4 hFr s1 s2
  have back : ∀ {H' : Hp},Same H3 H'→Q (.ref l) H':=fun {H'} sx=>q l zs H' (s03.trans (aU.of sx)) (hp3.same sx) ⟨tl3.t.same sx,tl3.ne⟩
  dsimp only
  refine pS (fun σ H4=>Same H3 H4∧[a,b,c,d].Nodup∧(∀ t∈freT a b c d,t ∉ zp zs)∧σ = [some (.ref p),some (.ref l),some (.int a),some (.int b),some (.int c),some (.int d),some (.ref Fr),none,none]) ?_ ?_
  ·rintro σ H4 ⟨s4,dis,frn,rfl⟩
   refine ⟨_,rfl,_,rfl,by show 2 ≤ sizeLine; decide,fun f1 hf1=>⟨_,rfl,_,rfl,by show 2 ≤ sizeLine; decide,fun f2 hf2=>⟨_,rfl,_,rfl,by show 2 ≤ sizeLine; decide,fun f3 hf3=>⟨_,rfl,_,rfl,by show 2 ≤ sizeLine; decide,fun f4 hf4=>⟨by show 4 ≤ sizeLine; decide,fun Go hGo=>?_⟩⟩⟩⟩⟩
   refine zS (u1:=(a,b)) (u2:=(b,a)) (u3:=(c,d)) (u4:=(d,c)) (R:=fun v Hx=>aQ 7 v _ Hx _) (fun Go gs H5 s5 hGo hG5 poG eG=>?_) hf1 hf2 hf3 hf4 hGo
   have s35:=s4.trans s5
   have at5:=s35 _ _ tl3.t.at_
   have po5:=tl3.t.po.same s35
   refine ⟨_,rfl,l,rfl,⟨_,SqL.of at5⟩,fun D1 hD1=>?_⟩
   refine dI (fun u=>!decide (u∈cJ a b c d)) (fun σ=>∃ x,σ = [x,some (.ref Go)]) at5 hD1 (by lia) ⟨_,rfl⟩ ?_ ?_
   ·rintro z σ H6 Kt Kf hz ⟨x,rfl⟩ sm kt kf
    refine ⟨_,rfl,_,rfl,fN (u:=z.2) (sm _ _ (po5 z hz)) (sm _ _ hG5) (poG.same sm) ⟨_,rfl,?_⟩⟩
    rw [eG]
    exact ite2 (fun e=>⟨_,rfl,kt _ _ ⟨_,rfl⟩ (Same.refl _) e⟩) (fun e=>kf _ _ ⟨_,rfl⟩ (Same.refl _) (Bool.eq_false_iff.mpr e))
   intro H6 s6 hD6
   have fl : fs.length = 4:=by rw [← aP,eF]; rfl
   have kl : (zs.filter fun z=>!decide (z.2∈cJ a b c d)).length ≤ 256:=Nat.le_trans (List.length_filter_le _ _) zl
   refine ⟨_,rfl,D1,Fr,_,_,rfl,rfl,hD6,(s35.trans s6) _ _ hF3,by rw [aZ,aZ]; exact Nat.le_trans (show _ ≤ 300 by lia) (by decide),fun Md hMd=>?_⟩
   have sM:=aE (o:=.lst (zr (zs.filter fun z=>!decide (z.2∈cJ a b c d)) ++ zr fs)) hMd
   have s37:=(s35.trans s6).trans sM
   have gM : (upd H6 Md (.lst (zr (zs.filter fun z=>!decide (z.2∈cJ a b c d)) ++ zr fs))) Md = some (.lst (zr ((zs.filter fun z=>!decide (z.2∈cJ a b c d)) ++ fs))):=by rw [aD,cA]
   have poM : PO (upd H6 Md (.lst (zr (zs.filter fun z=>!decide (z.2∈cJ a b c d)) ++ zr fs))) ((zs.filter fun z=>!decide (z.2∈cJ a b c d)) ++ fs):=PO.append (fun z hz=>s37 _ _ (tl3.t.po z (List.mem_filter.mp hz).1)) (poF.same s37)
   have eM : zp ((zs.filter fun z=>!decide (z.2∈cJ a b c d)) ++ fs) = fW (zp zs) a b c d:=by rw [cH,eF,iC (c:=fun t=>!decide (t∈cJ a b c d))]; rfl
   have pre:=aAy fi sy m1 m2 dis frn
   have nM : H3 Md = none:=(s35.trans s6).free hMd
   generalize upd H6 Md _ = H7 at *
   refine ⟨_,rfl,l,rfl,⟨_,SqL.of (s37 _ _ tl3.t.at_)⟩,fun D2 hD2=>?_⟩
   refine vA (fun _=>true) (fun u=>max u.1 u.2) (fun σ=>∃ x,σ = [x]) (s37 _ _ tl3.t.at_) hD2 (by lia) ⟨_,rfl⟩ ?_ ?_
   ·rintro z σ H8 Kt Kf hz ⟨x,rfl⟩ sm kt kf
    exact ⟨_,rfl,z.1,_,_,rfl,SqT.of ((s37.trans sm) _ _ (tl3.t.po z hz)),kt _ _ ⟨_,rfl⟩ (Same.refl _) rfl⟩
   intro H8 s8 hD8
   rw [List.filter_eq_self.mpr fun _ _=>rfl] at hD8
   refine ⟨D2,(zp zs).map fun u=>max u.1 u.2,rfl,SqL.of hD8,?_,fun M hM hall=>?_⟩
   ·intro e
    have:=congrArg List.length e
    rw [List.length_map,aP,List.length_nil] at this
    omega
   have eN : (1 : Int) + M = (n : Int):=by
    obtain ⟨u,hu,rfl⟩:=List.mem_map.mp hM
    have r:=fi.rg u hu
    obtain ⟨v,hv⟩:=List.exists_mem_of_length_pos (oA fi (show n - 1 < n by lia))
    obtain ⟨v1,v2⟩:=List.mem_filter.mp hv
    have v3 : v.1 = ((n - 1 : Nat) : Int):=of_decide_eq_true v2
    have:=hall _ (List.mem_map.mpr ⟨v,v1,rfl⟩)
    lia
   refine ⟨_,_,rfl,rfl,_,rfl,Md,n,_,by show [V.int (1 + M),V.ref Md] = _; rw [eN],n1,n2,s8 _ _ gM,poM.same s8,by rw [List.length_append]; lia,?_,?_,fun bb H9 s9 hb=>⟨_,rfl,ite2 (fun e=>?_) (fun e=>?_)⟩⟩
   ·rw [eM]; exact pre.nd
   ·rw [eM]; exact pre.rg
   ·rw [eM] at hb
    have s39:=(s37.trans s8).trans s9
    exact ⟨_,rfl,q Md _ H9 (s03.trans (aU.of s39)) (hp3.same s39) ⟨⟨by rw [eM]; exact zF fi sy pre (hb e),(s8.trans s9) _ _ gM,poM.same (s8.trans s9)⟩,hp3.ne nM⟩⟩
   ·exact ⟨_,rfl,back ((s37.trans s8).trans s9)⟩
  ·intro N hN
   refine ⟨_,rfl,_,rfl,_,rfl,_,rfl,by show 4 ≤ sizeLine; decide,fun L4 hL4=>⟨L4,[a,b,c,d],rfl,SqL.of aD,by show 4 ≤ 100; decide,fun DS S hDS=>⟨DS,_,_,rfl,aD,Nat.le_trans (PyProof.Rows.firstMet_length_le _ _) (by show 4 ≤ 4000; decide),_,_,rfl,rfl,_,rfl,?_⟩⟩⟩
   have sS:=(aE (o:=.lst [.int a,.int b,.int c,.int d]) hL4).trans (aE (o:=.set S (PyProof.Rows.firstMet (fun i=>[a,b,c,d].getD i 0) [a,b,c,d].length).length) hDS)
   have le4:=PyProof.Rows.firstMet_length_le (fun i=>[a,b,c,d].getD i 0) 4
   refine ite2 (fun e=>iteT ⟨_,rfl,back sS⟩) (fun e=>?_)
   have e4 : (PyProof.Rows.firstMet (fun i=>[a,b,c,d].getD i 0) 4).length = 4:=by
    have : ¬ (((PyProof.Rows.firstMet (fun i=>[a,b,c,d].getD i 0) 4).length : Nat) : Int) < 4:=fun z=>e (decide_eq_true z)
    lia
   have dis : [a,b,c,d].Nodup:=pI e4
   generalize upd (upd H3 L4 _) DS _ = H4 at *
   have F4:=sS _ _ hF3
   refine ⟨_,rfl,Fr,rfl,⟨_,SqL.of F4⟩,fun D1 hD1=>?_⟩
   have fl : fs.length = 4:=by rw [← aP,eF]; rfl
   refine dI (fun u=>decide (u∈zp zs)) (fun σ=>∃ x,σ = [x,some (.ref l)]) F4 hD1 (by lia) ⟨_,rfl⟩ ?_ ?_
   ·rintro z σ H6 Kt Kf hz ⟨x,rfl⟩ sm kt kf
    refine ⟨_,rfl,_,rfl,fN (u:=z.2) ((sS.trans sm) _ _ (poF z hz)) ((sS.trans sm) _ _ tl3.t.at_) (tl3.t.po.same (sS.trans sm)) ⟨_,rfl,?_⟩⟩
    exact ite2 (fun e=>⟨_,rfl,kt _ _ ⟨_,rfl⟩ (Same.refl _) e⟩) (fun e=>kf _ _ ⟨_,rfl⟩ (Same.refl _) (Bool.eq_false_iff.mpr e))
   intro H5 s5 hD5
   refine ⟨by show 0 ≤ sizeLine; decide,fun E1 hE1=>?_⟩
   have sE:=(sS.trans s5).trans (aE (o:=.lst []) hE1)
   refine ⟨D1,E1,_,[],rfl,rfl,SqL.of (aE hE1 _ _ hD5),SqL.of aD,fun i h1 h2=>absurd h2 (by simp),_,rfl,?_⟩
   rw [if_pos rfl,fP]
   by_cases em : zr (fs.filter fun z=>decide (z.2∈zp zs)) = []
   ·rw [decide_eq_true em]
    refine iteF (hN _ _ ⟨sE,dis,fun t ht hm=>?_,rfl⟩)
    rw [show freT a b c d = zp fs from eF.symm] at ht
    obtain ⟨z,hz,rfl⟩:=List.mem_map.mp ht
    unfold zr at em
    rw [List.map_eq_nil_iff,List.filter_eq_nil_iff] at em
    exact em z hz (decide_eq_true hm)
   ·rw [decide_eq_false em]
    exact iteT ⟨_,rfl,back sE⟩
end
end K12
namespace L2
open PySem PySem.Spec PyProof.Rows
theorem aAE {K : PySem.W.Frag} {a D : Addr} {xs : List V} {g : TG} {tt : TT} {te : TE} {fin : Hp→Prop} {σB : St} {H0 : Hp} (Pv : Nat→List V→St→Hp→Prop) (h0 : Pv 0 [] σB H0)
  (hl : ∀ i ys σ H,i ≤ xs.length→Pv i ys σ H→SqT K H a xs)
  (hs : ∀ i x ys σ H (Kt : V→St→Hp→Prop) (Kf : St→Hp→Prop),xs[i]? = some x→Pv i ys σ H →
   (∀ v σ2 H4,H4 D = some (.lst ys)→ys.length < sizeLine→Pv (i + 1) (ys ++ [v]) σ2 (upd H4 D (.lst (ys ++ [v])))→Kt v σ2 H4)→(∀ σ2 H3,Pv (i + 1) ys σ2 H3→Kf σ2 H3) →
   g x σ H fun σ2 H2=>tt σ2 H2 fun b H3=>if b = true then te σ2 H3 fun v H4=>Kt v σ2 H4 else Kf σ2 H3)
  (hd : ∀ ys σ H,Pv xs.length ys σ H→fin H) : eB (Itt K a) g tt te D fin σB H0:=by
 refine ⟨fun i m σ H=>m = xs.length - i∧i ≤ xs.length∧∃ ys,Pv i ys σ H,⟨xs.length,by simp,Nat.zero_le _,[],h0⟩,?_⟩
 rintro i m σ H ⟨rfl,hi,ys,p⟩
 have q:=hl i ys σ H hi p
 by_cases hlt : i < xs.length
 ·refine .inr ⟨⟨xs,xs[i],q,by simp [hlt]⟩,?_⟩
  rintro x H' ⟨rfl,y⟩
  exact hs i x ys σ _ (fun v σ2 H4=>∃ ys,H4 D = some (.lst ys)∧ys.length < sizeLine∧∃ m',m' < xs.length - i∧m' = xs.length - (i + 1)∧i + 1 ≤ xs.length∧∃ ys',Pv (i + 1) ys' σ2 (upd H4 D (.lst (ys ++ [v]))))
   (fun σ2 H3=>∃ m',m' < xs.length - i∧m' = xs.length - (i + 1)∧i + 1 ≤ xs.length∧∃ ys',Pv (i + 1) ys' σ2 H3) (y xs q) p
   (fun v σ2 H4 z1 z2 z3=>⟨ys,z1,z2,_,by lia,rfl,hlt,_,z3⟩) (fun σ2 H3 z=>⟨_,by lia,rfl,hlt,_,z⟩)
 ·have e : i = xs.length:=by lia
  subst e
  exact .inl ⟨⟨xs,q,Nat.le_refl _⟩,hd ys σ H p⟩
end L2
namespace K12
open PySem L2 NetM
abbrev sMo : Stmt:=top 40
abbrev sDr : Stmt:=top 43
theorem zT : (["_law_k", "_law_ties"] : List Str).Nodup:=by decide +kernel
section
variable {P : Program} {w : World} {K : PySem.W.Frag} {mg : Str→Option Value} {base : Heap}
theorem scMo : aS ["_law_pot_here", "_law_step", "_law_many", "_law_ties", "_law_one", "_law_other", "_law_full"] ["_law_pot_here", "_law_step", "_law_many", "_law_ties"] (aH sMo):=⟨rfl,rfl,rfl,by decide +kernel,rfl,by decide +kernel,by decide +kernel⟩
def spMo : Sp:=fun vs H Q _=>∃ (p : Addr) (sp n : Nat) (l : Addr) (zs : Zs),vs = [.ref p,.int sp,.int n,.ref l]∧aY H p∧Tl p H l n zs∧Sym (zp zs)∧∀ (r : Addr) (zs' : Zs) (H' : Hp),aU p H H'→aY H' p→Tl p H' r n zs'→Q (.ref r) H'
theorem aBO {f : Addr} {fd : FuncData} (F : Fun K "_law_more" "_law_more" sMo f fd) (B : Bl mg) (SM : Cal P w K mg base CX0 2 "_law_some" ["_law_pot_here", "_law_many", "_law_count"] fO) (RD : Cal P w K mg base CX0 3 "_law_round" ["_law_pot_here", "_law_many", "_law_ties"] kT) (EX : Cal P w K mg base CX0 2 "_law_exchanged" ["_law_pot_here", "_law_ties"] spEx) : FnOk P w K mg base CX0 4 f fd ["_law_pot_here", "_law_step", "_law_many", "_law_ties"] spMo:=by
 refine F.ok scMo (fun vs H Q E h=>?_) (fun cdv A outer s H vs Q E hr h=>?_)
 ·obtain ⟨p,sp,n,l,zs,rfl,_⟩:=h
  rfl
 ·obtain ⟨p,sp,n,l,zs,rfl,hp,tl,sy,q⟩:=h
  have h2 : Room 2 _:=hr.mono (by decide)
  have fi:=tl.t.fine
  have n1:=fi.n1
  have n2:=fi.n2
  have zl : zs.length ≤ 256:=by have:=fi.len; rwa [aP] at this
  refine' ⟨_,(aF (bV (aT cI (pv 1) aG (aX _)) (aF (eI (aN SM h2 aK (aA (pv 0) (aA (pv 2) (aA aG aB)))) (aBl rfl (bC (aL (i:=4) scMo.nd rfl (Or.inl rfl)) (bC (aL (i:=5) scMo.nd rfl (Or.inl rfl)) cR))))
    (aF (cN (i:=6) (g:=(aQ 0)) (tt:=(cD (tOp (rI0 fun i j=>.bl (decide (j < i))) (tCB (fun xs H Q=>∃ p ys,xs = [V.ref p]∧(SqL K H p ys∨SqT K H p ys)∧Q (.int ys.length) H) (bK (iA [none,some 0] (iU K (tVar 1)) (aQ 0) (cD (tOp (rEq) (tOp (rIxT K) (tVar 0) (tC (.int 0))) (tVar 1))) (tVar 0)) tNil)) (tC (.int 7))))) (te:=(tVar 0)) (NB:=["_law_house", "_law_ties"]) (src:=[none,some 3]) (bB (by kernel_rfl)) rfl (aBZ (bF (aA (pv 4) (aA (pv 5) aB)))) ?g1 ?t1 ?e1 scMo.nd rfl rfl rfl)
    (aJ (bV (PW.pt (xB (aT (fK hr.u) (bF (aA (pv 4) (aA (pv 5) aB))) (pv 3) rfl) (tK (aT (mD (e:=eqV) hr.u) (pv 6) (cC aB) (aX _))))) (aJ (aW (bA gH (pv 3) (cC (aA (bF (aA (pv 4) (aA (pv 5) aB))) (aA (bF (aA (pv 5) (aA (pv 4) aB))) aB)))))) bQ)))) bQ)
   (aF (bV (aT cI (pv 1) aG (aX _)) (aJ (aW (aN RD hr aK (aA (pv 0) (aA (pv 2) (aA (pv 3) aB)))))) bQ)
   (aF (bV (aT cI (pv 1) aG (aX _)) (aJ (aW (aN EX h2 aK (aA (pv 0) (aA (pv 3) aB))))) bQ)
   (aJ (aW (pv 3)))))),?_⟩
  case g1=>exact fun cl C s₃ H₃ fp=>(aL (i:=0) eU rfl (Or.inr rfl) (Or.inl rfl))
  case t1 =>
   intro cl C s₃ H₃ fp
   refine' bS (aT pO (aO aR (by rfl) B.len PySem.boot_len (aA ?c2 aB)) aG (aX _))
   case c2 =>
    refine' bJ (g:=(aQ 0)) (tt:=(cD (tOp (rEq) (tOp (rIxT K) (tVar 0) (tC (.int 0))) (tVar 1)))) (te:=(tVar 0)) (NB:=["_law_tie", "_law_house"]) (src:=[none,some 0]) (bB (by kernel_rfl)) rfl (bG (pv 1)) ?g ?t ?e
    case g=>exact fun cl C s₃ H₃ fp=>(aL (i:=0) hU rfl (Or.inl rfl) (Or.inr rfl))
    case t=>exact fun cl C s₃ H₃ fp=>bS (aT cI (bH eK (pv 0) aG (fun _ _=>rfl)) (pv 1) (aX _))
    case e=>exact fun cl C s₃ H₃ fp=>(pv 0)
  case e1=>exact fun cl C s₃ H₃ fp=>(pv 0)
  refine pS (fun σ Hc=>(∃ x4 x5 x6,σ = [some (.ref p),some (.int sp),some (.int n),some (.ref l),x4,x5,x6])∧aU p H Hc∧aY Hc p) ?_ ?_
  ·rintro σ Hc ⟨⟨x4,x5,x6,rfl⟩,sc,hpc⟩
   have tlc:=tl.sameE sc hp
   refine ⟨_,rfl,rfl,_,rfl,ite2 (fun c=>?_) (fun c=>?_)⟩
   ·exact ⟨_,rfl,_,rfl,_,rfl,p,n,l,zs,rfl,hpc,tlc,fun r zs' H' se hp' tl'=>q r zs' H' (sc.trans se) hp' tl'⟩
   ·refine ⟨_,rfl,rfl,_,rfl,ite2 (fun c=>?_) (fun c=>?_)⟩
    ·exact ⟨_,rfl,_,rfl,p,n,l,zs,rfl,hpc,tlc,sy,fun r zs' H' se hp' tl'=>q r zs' H' (sc.trans se) hp' tl'⟩
    ·exact ⟨_,rfl,q l zs Hc sc hpc tlc⟩
  ·intro N hN
   refine ⟨_,rfl,rfl,_,rfl,ite2 (fun c=>?_) (fun c=>hN _ _ ⟨⟨_,_,_,rfl⟩,aU.refl,hp⟩)⟩
   refine ⟨_,rfl,_,rfl,p,n,2,rfl,by lia,by lia,hp,fun O xs H1 s1 hp1 hO1 hO so lo=>?_⟩
   match xs,lo with
   | [x,y],_ =>
    have nd:=so.nd
    have nxy : x ≠ y:=fun e=>by rw [e] at nd; simp at nd
    have hx:=so.lt x (by simp)
    have hy:=so.lt y (by simp)
    have tl1:=tl.sameE s1 hp
    refine ⟨O,_,_,rfl,SqL.of hO,_,_,rfl,_,_,rfl,rfl,?_⟩
    refine ⟨_,rfl,_,rfl,by show 2 ≤ sizeLine; decide,fun T1 hT1=>⟨T1,rfl,⟨_,SqT.of aD⟩,fun D1 hD1=>?_⟩⟩
    have sT:=aE (o:=.tup [.int (x : Int),.int (y : Int)]) hT1
    have gT : (upd H1 T1 (.tup [.int (x : Int),.int (y : Int)])) T1 = some (.tup [.int (x : Int),.int (y : Int)]):=aD
    have tl2 : Tl p (upd H1 T1 (.tup [.int (x : Int),.int (y : Int)])) l n zs:=⟨tl1.t.same sT,tl1.ne⟩
    have hp2:=hp1.same sT
    have s02 : aU p H _:=s1.trans (aU.of sT)
    generalize upd H1 T1 _ = H2 at *
    refine aAE (xs:=[.int (x : Int),.int (y : Int)]) (fun i ys σ H3=>(∃ a,σ = [a,some (.ref l)])∧Same H2 H3∧H3 D1 = some (.lst ys)∧ys = NV (([x,y].take i).filter fun h=>decide (7 < deg (zp zs) (ci h)))) ⟨⟨_,rfl⟩,aE hD1,aD,rfl⟩ (fun i ys σ H3 _ z=>SqT.of (z.2.1 _ _ gT)) ?_ ?_
    ·rintro i v ys σ H3 Kt Kf hv ⟨⟨a,rfl⟩,sm,hD3,rfl⟩ kt kf
     obtain ⟨h,hh,rfl⟩ : ∃ h : Nat,[x,y][i]? = some h∧v = .int (h : Int):=by
      match i,hv with
      | 0,hv=>exact ⟨x,rfl,by simpa using hv.symm⟩
      | 1,hv=>exact ⟨y,rfl,by simpa using hv.symm⟩
     have tk : [x,y].take (i + 1) = [x,y].take i ++ [h]:=by rw [List.take_add_one,hh]; rfl
     have tl3:=tl2.t.same sm
     refine ⟨_,rfl,l,rfl,⟨_,SqL.of tl3.at_⟩,fun D3 hD3'=>?_⟩
     refine dI (fun u=>decide (u.1 = ci h)) (fun σ=>∃ a,σ = [a,some (.int (h : Int))]) tl3.at_ hD3' (by lia) ⟨_,rfl⟩ ?_ ?_
     ·rintro y σ H5 Kt' Kf' hy ⟨a'',rfl⟩ sm5 kt' kf'
      refine ⟨_,rfl,y.1,_,_,_,rfl,rfl,SqT.of (sm5 _ _ (tl3.po y hy)),bD (j:=0) rfl,_,rfl,rfl,_,rfl,?_⟩
      refine ite2 (fun e=>?_) (fun e=>?_)
      ·exact ⟨_,rfl,kt' _ _ ⟨_,rfl⟩ (Same.refl _) (by simpa using e)⟩
      ·exact kf' _ _ ⟨_,rfl⟩ (Same.refl _) (by simpa using e)
     ·intro H5 sm5 hD5
      have eL : (zr (zs.filter fun y=>decide (y.2.1 = ci h))).length = deg (zp zs) (ci h):=dW (c:=fun u=>decide (u.1 = ci h))
      refine ⟨D3,_,rfl,.inl (SqL.of hD5),_,_,rfl,rfl,_,rfl,?_⟩
      rw [eL]
      refine ite2 (fun e=>?_) (fun e=>?_)
      ·have e' : 7 < deg (zp zs) (ci h):=by have:=of_decide_eq_true e; lia
       refine ⟨_,rfl,kt _ _ _ (sm5 _ _ hD3) (by rw [cK]; exact Nat.lt_of_le_of_lt (List.length_filter_le _ _) (Nat.lt_of_le_of_lt (List.length_take_le' _ _) (by show 2 < sizeLine; decide))) ⟨⟨_,rfl⟩,bR (sm.trans sm5) hD1,aD,?_⟩⟩
       rw [tk,List.filter_append,List.filter_cons,if_pos (decide_eq_true e'),List.filter_nil,iR]
      ·have e' : ¬ 7 < deg (zp zs) (ci h):=fun z=>e (decide_eq_true (by lia))
       refine kf _ _ ⟨⟨_,rfl⟩,sm.trans sm5,sm5 _ _ hD3,?_⟩
       rw [tk,List.filter_append,List.filter_cons,if_neg (fun z=>e' (of_decide_eq_true z))]
       simp
    rintro ys σ H3 ⟨_,sm,hD3,rfl⟩
    have hD3 : H3 D1 = some (.lst (NV ([x,y].filter fun h=>decide (7 < deg (zp zs) (ci h))))):=hD3
    have s03:=s02.trans (aU.of sm)
    have hp3:=hp2.same sm
    have tl3 : Tl p H3 l n zs:=⟨tl2.t.same sm,tl2.ne⟩
    have back : ∀ {H' : Hp} {x4 x5 x6 : Option V},Same H3 H'→N [some (.ref p),some (.int sp),some (.int n),some (.ref l),x4,x5,x6] H':=fun {H' x4 x5 x6} sx=>hN _ _ ⟨⟨_,_,_,rfl⟩,s03.trans (aU.of sx),hp3.same sx⟩
    refine ⟨_,rfl,_,rfl,by show 2 ≤ sizeLine; decide,fun t1 ht1=>⟨_,rfl,fN (u:=(ci x,ci y)) aD (aE ht1 _ _ tl3.t.at_) (tl3.t.po.same (aE ht1)) ⟨_,rfl,ite2 (fun c1=>?_) (fun c1=>iteF (back (aE ht1)))⟩⟩⟩
    have st1:=aE (o:=prT (ci x,ci y)) ht1
    have c1 : (ci x,ci y) ∉ zp zs:=by have:=c1; simpa using this
    have c2 : (ci y,ci x) ∉ zp zs:=fun z=>c1 (sy _ z)
    have st1' : Same H3 (upd H3 t1 (.tup [.int (x : Int),.int (y : Int)])):=st1
    refine ⟨_,rfl,by show 0 ≤ sizeLine; decide,fun E1 hE1=>?_⟩
    have sE:=st1'.trans (aE (o:=.lst []) hE1)
    refine ⟨D1,E1,_,[],rfl,rfl,SqL.of (sE _ _ hD3),SqL.of aD,fun i h1 h2=>absurd h2 (by simp),_,rfl,?_⟩
    rw [if_neg (by decide),fP]
    by_cases em : NV ([x,y].filter fun h=>decide (7 < deg (zp zs) (ci h))) = []
    ·rw [decide_eq_true em]
     have em:=List.map_eq_nil_iff.mp em
     rw [List.filter_eq_nil_iff] at em
     have dx:=em x (by simp)
     have dy:=em y (by simp)
     simp only [decide_eq_true_eq] at dx dy
     have tl4:=tl3.t.same sE
     generalize upd (upd H3 t1 _) E1 _ = H4 at *
     refine iteT ⟨_,rfl,_,rfl,_,rfl,by show 2 ≤ sizeLine; decide,fun f1 hf1=>⟨_,rfl,_,rfl,by show 2 ≤ sizeLine; decide,fun f2 hf2=>⟨by show 2 ≤ sizeLine; decide,fun L2 hL2=>?_⟩⟩⟩
     have u1:=aE (o:=prT (ci x,ci y)) hf1
     have u2:=aE (o:=prT (ci y,ci x)) hf2
     have u3:=aE (o:=.lst [.ref f1,.ref f2]) hL2
     have u13:=(u1.trans u2).trans u3
     refine ⟨l,L2,_,_,rfl,rfl,u13 _ _ tl4.at_,aD,by rw [aZ]; exact Nat.le_trans (show zs.length + 2 ≤ 300 by lia) (by decide),fun Nw hNw=>?_⟩
     have u4:=aE (o:=.lst (zr zs ++ [.ref f1,.ref f2])) hNw
     have s34:=(sE.trans u13).trans u4
     refine q Nw (zs ++ [(f1,(ci x,ci y)),(f2,(ci y,ci x))]) _ (s03.trans (aU.of s34)) (hp3.same s34) ⟨⟨?_,by rw [aD,cA]; rfl,((tl4.po.same u13).append fun z hz=>?_).same u4⟩,hp3.ne ((sE.trans u13).free hNw)⟩
     ·rw [cH]
      have ne : ci x ≠ ci y:=fun e=>nxy (Int.ofNat.inj e)
      refine fi.app (kQ fi.pre (uR hx hy nxy) (fun t ht=>?_) fun h=>?_)
      ·rcases List.mem_cons.mp ht with rfl | ht
       ·exact c1
       ·rw [List.mem_singleton.mp ht]; exact c2
      ·show deg (zp zs) h + deg [(ci x,ci y),(ci y,ci x)] h ≤ 8
       rw [nY]
       have m:=fi.most h
       have m' : deg (zp zs) h ≤ 8:=m
       by_cases e1 : ci x = h
       ·subst e1
        rw [if_pos rfl,if_neg (fun e=>ne e.symm)]; omega
       ·by_cases e2 : ci y = h
        ·subst e2
         rw [if_neg e1,if_pos rfl]; omega
        ·rw [if_neg e1,if_neg e2]; omega
     ·rcases List.mem_cons.mp hz with rfl | hz
      ·exact u3 _ _ (u2 _ _ aD)
      ·rw [List.mem_singleton.mp hz]; exact u3 _ _ aD
    ·rw [decide_eq_false em]
     exact iteF (back sE)
end
end K12
namespace K12
open PySem L2 NetM
section
variable {P : Program} {w : World} {K : PySem.W.Frag} {mg : Str→Option Value} {base : Heap}
theorem scDr : aS ["_law_pot_here", "_law_way", "_law_step", "_law_many", "_law_ties"] ["_law_pot_here"] (aH sDr):=⟨rfl,rfl,rfl,by decide +kernel,rfl,by decide +kernel,by decide +kernel⟩
def spDr : Sp:=fun vs H Q _=>∃ (p : Addr),vs = [.ref p]∧aY H p∧∀ (t r : Addr) (n : Nat) (zs : Zs) (H' : Hp),aU p H H'→aY H' p→H' t = some (.tup [.int n,.ref r])→Tl p H' r n zs→Q (.ref t) H'
theorem aAF {f : Addr} {fd : FuncData} (F : Fun K "_law_drawn" "_law_drawn" sDr f fd) (B : Bl mg) (D : Cal P w K mg base CX0 1 "_law_digit" ["_law_pot_here", "_law_many"] dH) (SM : Cal P w K mg base CX0 2 "_law_some" ["_law_pot_here", "_law_many", "_law_count"] fO) (TR : Cal P w K mg base CX0 3 "_law_tree" ["_law_pot_here", "_law_many"] kE) (RI : Cal P w K mg base CX0 3 "_law_ring" ["_law_pot_here", "_law_many"] oH) (NE : Cal P w K mg base CX0 4 "_law_net" ["_law_pot_here"] wV) (MO : Cal P w K mg base CX0 4 "_law_more" ["_law_pot_here", "_law_step", "_law_many", "_law_ties"] spMo) : FnOk P w K mg base CX0 5 f fd ["_law_pot_here"] spDr:=by
 refine F.ok scDr (fun vs H Q E h=>?_) (fun cdv A outer s H vs Q E hr h=>?_)
 ·obtain ⟨p,rfl,_⟩:=h
  rfl
 ·obtain ⟨p,rfl,hp,q⟩:=h
  have h1 : Room 1 _:=hr.mono (by decide)
  have h2 : Room 2 _:=hr.mono (by decide)
  have h3 : Room 3 _:=hr.mono (by decide)
  refine' ⟨_,(aF (aV (i:=1) scDr.nd rfl (Or.inl rfl) (aN D h1 aK (aA (pv 0) (aA aG aB))))
   (aF (aV (i:=2) scDr.nd rfl (Or.inl rfl) (aN D h1 aK (aA (pv 0) (aA aG aB))))
   (aF (bV (aT cI (pv 1) aG (aX _)) (aJ (eI (aN NE hr aK (aA (pv 0) aB)) (dF (n:=2) rfl (bC (aL (i:=3) scDr.nd rfl (Or.inl rfl)) (bC (aL (i:=4) scDr.nd rfl (Or.inr rfl)) cR))))) (aF (aV (i:=3) scDr.nd rfl (Or.inl rfl) (bA dA aG (aN D h1 aK (aA (pv 0) (aA aG aB)))))
    (aF (aV (i:=4) scDr.nd rfl (Or.inr rfl) (pZ (aT cI (bA eZ (pv 1) aG) aG (aX _)) (aN TR h3 aK (aA (pv 0) (aA (pv 3) aB))) (aN RI h3 aK (aA (pv 0) (aA (pv 3) aB)))))
    (aJ (aV (i:=4) scDr.nd rfl (Or.inr rfl) (aN MO hr aK (aA (pv 0) (aA (pv 2) (aA (pv 3) (aA (pv 4) aB))))))))))
   (aJ (aW (bF (aA (pv 3) (aA ?c1 aB)))))))),?_⟩
  case c1 =>
   refine' bJ (g:=(aQ 0)) (te:=(tOp (rIxL K) (tVar 1) (tVar 0))) (NB:=["_law_k", "_law_ties"]) (src:=[none,some 4]) (bB (by kernel_rfl)) rfl (bG (aN SM h2 aK (aA (pv 0) (aA (aO aR (by rfl) B.len PySem.boot_len (aA (pv 4) aB)) (aA (aO aR (by rfl) B.len PySem.boot_len (aA (pv 4) aB)) aB))))) ?g ?t ?e
   case g=>exact fun cl C s₃ H₃ fp=>(aL (i:=0) zT rfl (Or.inl rfl) (Or.inr rfl))
   case t=>exact fun cl C s₃ H₃ fp=>cE
   case e=>exact fun cl C s₃ H₃ fp=>(bH bE (pv 1) (pv 0) (fun _ _=>rfl))
  refine ⟨_,rfl,p,5,rfl,by decide,by decide,hp,fun way H1 hw s1 hp1=>⟨_,rfl,p,6,rfl,by decide,by decide,hp1,fun step H2 hst s2 hp2=>?_⟩⟩
  have s02:=s1.trans s2
  dsimp only
  refine pS (fun σ Hc=>∃ (n : Nat) (L : Addr) (zs : Zs),σ = [some (.ref p),some (.int (way : Int)),some (.int (step : Int)),some (.int (n : Int)),some (.ref L)]∧aU p H Hc∧aY Hc p∧Tl p Hc L n zs) ?_ ?_
  ·rintro σ Hc ⟨n,L,zs,rfl,sc,hpc,tl⟩
   have hlen : zs.length ≤ 256:=by have:=tl.t.fine.len; rw [aP] at this; exact this
   refine ⟨_,rfl,_,rfl,_,rfl,L,_,rfl,.inl (SqL.of tl.t.at_),_,rfl,L,_,rfl,.inl (SqL.of tl.t.at_),p,zs.length,zs.length,by rw [aZ]; rfl,Nat.le_refl _,by lia,hpc,fun X xs H4 s4 hp4 hX4 hX so lx=>?_⟩
   have tl4:=tl.sameE s4 hpc
   refine ⟨X,rfl,⟨_,SqL.of hX⟩,fun D1 hD1=>?_⟩
   have pm:=so.all lx
   refine cQ (xs:=NV xs) (fun i ys σ H5=>(∃ a,σ = [a,some (.ref L)])∧Same H4 H5∧H5 D1 = some (.lst ys)∧ys = zr ((xs.take i).map fun k=>zs.getD k (0,(0,0)))) ⟨⟨_,rfl⟩,aE hD1,aD,rfl⟩ (fun i ys σ H5 _ z=>SqL.of (z.2.1 _ _ hX)) ?_ ?_
   ·rintro i x ys σ H5 Kt Kf hx ⟨⟨a,rfl⟩,sm5,hD5,rfl⟩ kt kf
    obtain ⟨v,hv,rfl⟩:=wM hx
    have hvl : v < zs.length:=so.lt v (List.mem_of_getElem? hv)
    have hi : i < xs.length:=(List.getElem?_eq_some_iff.mp hv).1
    have tk : xs.take (i + 1) = xs.take i ++ [v]:=by rw [List.take_add_one,hv]; rfl
    have gz : (zr zs)[v]? = some (.ref (zs.getD v (0,(0,0))).1):=by
     unfold zr
     rw [List.getElem?_map,List.getElem?_eq_getElem hvl,List.getD_eq_getElem?_getD,List.getElem?_eq_getElem hvl]; rfl
    refine ⟨_,rfl,_,rfl,L,_,_,_,rfl,rfl,SqL.of (sm5 _ _ tl4.t.at_),bD gz,kt _ _ _ hD5 ?_ ⟨⟨_,rfl⟩,bR sm5 hD1,aD,?_⟩⟩
    ·rw [aZ,List.length_map,List.length_take]
     exact Nat.lt_of_lt_of_le (show _ < 300 by lia) (by decide)
    ·rw [tk,List.map_append,cA]; rfl
   ·rintro ys σ H5 ⟨_,sm5,hD5,rfl⟩
    rw [cK,List.take_length] at hD5
    refine ⟨by show 2 ≤ sizeLine; decide,fun t ht=>?_⟩
    have s5 : Same H4 (upd H5 t (.tup [.int (n : Int),.ref D1])):=sm5.trans (aE ht)
    have pp:=pH (zs:=zs) pm
    have D1n : D1 ≠ p:=hp4.ne hD1
    refine q t D1 n (xs.map fun k=>zs.getD k (0,(0,0))) _ ((sc.trans s4).trans (aU.of s5)) (hp4.same s5) aD ⟨⟨tl.t.fine.perm (show (zp _).Perm (zp zs) from List.Perm.map _ pp),aE ht _ _ hD5,fun z hz=>s5 _ _ (tl4.t.po z (pp.mem_iff.mp hz))⟩,D1n⟩
  ·intro N hN
   refine ⟨_,rfl,rfl,_,rfl,ite2 (fun c=>?_) (fun c=>?_)⟩
   ·exact ⟨_,rfl,p,rfl,hp2,fun t r n zs H3 s3 hp3 ht3 tl3 _=>⟨t,_,rfl,SqT.of ht3,rfl,_,_,rfl,_,_,rfl,rfl,hN _ _ ⟨n,r,zs,rfl,s02.trans s3,hp3,tl3⟩⟩⟩
   ·refine ⟨_,rfl,p,31,rfl,by decide,by decide,hp2,fun d H3 hd s3 hp3=>⟨_,_,rfl,rfl,?_⟩⟩
    obtain ⟨n,en,n1,n2⟩ : ∃ n : Nat,(2 : Int) + (d : Int) = (n : Int)∧2 ≤ n∧n ≤ 32:=⟨2 + d,by lia,by lia,by lia⟩
    change aQ 3 (V.int (2 + (d : Int))) _ _ _
    rw [en]
    have s03:=s02.trans s3
    have mo : ∀ {H4 : Hp} {L : Addr} {zs : Zs},aU p H3 H4→aY H4 p→Tl p H4 L n zs→Sym (zp zs)→spMo [.ref p,.int (step : Int),.int (n : Int),.ref L] H4 (fun v H5=>aQ 4 v [some (.ref p),some (.int (way : Int)),some (.int (step : Int)),some (.int (n : Int)),some (.ref L)] H5 N) E:=fun {H4 L zs} s4 hp4 tl4 sy=>⟨p,step,n,L,zs,rfl,hp4,tl4,sy,fun r zs' H5 s5 hp5 tl5=>hN _ _ ⟨n,r,zs',rfl,(s03.trans s4).trans s5,hp5,tl5⟩⟩
    refine ⟨_,rfl,_,_,rfl,rfl,(by show (0 : Int) < 2; decide),rfl,_,rfl,ite2 (fun c2=>?_) (fun c2=>?_)⟩
    ·refine ⟨_,rfl,_,rfl,p,n,rfl,hp3,n1,n2,fun r zs H4 s4 hp4 tl4 ⟨ps,ep⟩ _=>?_⟩
     exact ⟨_,rfl,_,rfl,_,rfl,_,rfl,mo s4 hp4 tl4 (by rw [ep]; exact gB)⟩
    ·refine ⟨_,rfl,_,rfl,p,n,rfl,hp3,n1,n2,fun r zs H4 s4 hp4 tl4 sy=>?_⟩
     exact ⟨_,rfl,_,rfl,_,rfl,_,rfl,mo s4 hp4 tl4 sy⟩
end
end K12
namespace K12
open PySem L2 NetM
abbrev sRL : Stmt:=top 47
abbrev sTM : Stmt:=top 48
theorem aBP {lo : Int} {n : Nat} {D : Addr} {g : TG} {tt : TT} {te : TE} {fin : Hp→Prop} {σB : St} {H0 : Hp} (c : Nat→Bool) (shape : St→Prop) (hD : H0 D = none) (hn : n ≤ 1000) (h0 : shape σB)
  (hs : ∀ x σ H (Kt : V→St→Hp→Prop) (Kf : St→Hp→Prop),x < n→shape σ→Same H0 H→(∀ σ2 H2,shape σ2→Same H H2→c x = true→Kt (.int (lo + (x : Nat))) σ2 H2)→(∀ σ2 H2,shape σ2→Same H H2→c x = false→Kf σ2 H2) →
   g (.int (lo + (x : Nat))) σ H fun σ2 H2=>tt σ2 H2 fun b H3=>if b = true then te σ2 H3 fun v H4=>Kt v σ2 H4 else Kf σ2 H3)
  (hd : ∀ H,Same H0 H→H D = some (.lst (((List.range n).filter c).map fun (x : Nat)=>V.int (lo + (x : Int))))→fin H) : eB (Itr lo n) g tt te D fin σB (upd H0 D (.lst [])):=by
 refine dM (fun i ys σ H=>shape σ∧Same H0 H∧H D = some (.lst ys)∧ys = ((List.range i).filter c).map fun (x : Nat)=>V.int (lo + (x : Int))) ⟨h0,aE hD,aD,rfl⟩ ?_ ?_
 ·rintro i ys σ H Kt Kf hi ⟨sh,sm,hDl,rfl⟩ kt kf
  refine hs i σ H Kt Kf hi sh sm (fun σ2 H2 sh2 s2 e=>?_) (fun σ2 H2 sh2 s2 e=>?_)
  ·refine kt _ _ _ (s2 _ _ hDl) ?_ ⟨sh2,bR (sm.trans s2) hD,aD,?_⟩
   ·rw [List.length_map]
    refine Nat.lt_of_le_of_lt (List.length_filter_le _ _) ?_
    rw [List.length_range]
    exact Nat.lt_of_lt_of_le (show i < 1000 by lia) (by decide)
   ·rw [List.range_succ,List.filter_append,List.map_append]
    simp [List.filter_cons,e]
  ·refine kf _ _ ⟨sh2,sm.trans s2,s2 _ _ hDl,?_⟩
   rw [List.range_succ,List.filter_append]
   simp [List.filter_cons,e]
 ·rintro ys σ H ⟨_,sm,hDl,rfl⟩
  exact hd H sm hDl
def eS (p Pt : Addr) (H H' : Hp) : Prop:=∀ b o,H b = some o→b ≠ p→b ≠ Pt→H' b = some o
theorem eS.t {p Pt : Addr} {H H1 H2 : Hp} (a : eS p Pt H H1) (b : fU Pt H1 H2) : eS p Pt H H2:=fun c o h n m=>b c o (a c o h n m) m
theorem eS.s {p Pt : Addr} {H H1 H2 : Hp} (a : eS p Pt H H1) (b : Same H1 H2) : eS p Pt H H2:=fun c o h n m=>b c o (a c o h n m)
theorem aY.t {H H' : Hp} {p Pt : Addr} (h : aY H p) (tb : Tab Pt H) (s : fU Pt H H') : aY H' p:=let ⟨a,b,e,r⟩:=h; ⟨a,b,s _ _ e (tb.not e (by intro ps z; cases z)),r⟩
theorem Tab.keepE {p Pt : Addr} {H H' : Hp} (t : Tab Pt H) (s : aU p H H') (hp : aY H p) : Tab Pt H':=by
 obtain ⟨a,b,e,_⟩:=hp
 rcases t with z | ⟨c,z,y⟩
 ·exact .inl (s _ _ z (by rintro rfl; rw [z] at e; cases e))
 ·exact .inr ⟨c,s _ _ z (by rintro rfl; rw [z] at e; cases e),s _ _ y (by rintro rfl; rw [y] at e; cases e)⟩
theorem cF.keepT {C Pt : Addr} {H H' : Hp} {L : Addr→Prop} {p : Addr} {n : Nat} {ts : Ts} (N : cF C H L p n ts) (tb : Tab Pt H) (s : fU Pt H H') : cF C H' L p n ts:=by
 have k : ∀ b o,H b = some o→(∀ ps,o ≠ .tbl ps)→H' b = some o:=fun b o e nt=>s _ _ e (tb.not e nt)
 have rk : ∀ {l : Addr} {m : Nat} {r : Nat→List Nat},dU H L l m r→dU H' L l m r:=fun ⟨bs,a,b,c⟩=>⟨bs,k _ _ a (by intro ps z; cases z),b,c.mono fun j hj e=>k _ _ e (by intro ps z; cases z)⟩
 obtain ⟨dx,tl,ol,ds,a,l1,l2,b,c,⟨t1,zs,t2,t3,t4⟩⟩:=N.ob
 exact ⟨N.fine,dx,tl,ol,ds,k _ _ a (by intro ps z; cases z),l1,l2,rk b,rk c,t1,zs,k _ _ t2 (by intro ps z; cases z),fun z hz=>k _ _ (t3 z hz) (by intro ps z; cases z),t4⟩
theorem aCr {fs : List Nat} (h : 0 < fs.length) : atI (NV fs) (-1) = some (.int ((fs.getD (fs.length - 1) 0 : Nat) : Int)):=by
 have e : NV fs = NV (fs.take (fs.length - 1)) ++ [.int ((fs.getD (fs.length - 1) 0 : Nat) : Int)]:=by
  rw [iR]
  congr 1
  conv=>lhs; rw [← List.take_append_drop (fs.length - 1) fs]
  rw [List.drop_eq_getElem_cons (by lia),List.drop_eq_nil_of_le (by lia),bU (by lia)]
 rw [e]
 exact qI _ _
section
variable {P : Program} {w : World} {K : PySem.W.Frag} {mg : Str→Option Value} {base : Heap}
def iT (Pt : Addr) : Sp:=fun vs H Q _=>∃ p : Addr,vs = [.ref p]∧aY H p∧Tab Pt H∧∀ H',eS p Pt H H'→aY H' p→Tab Pt H'→Q (.bl true) H'
theorem scRL : aS ["_law_pot_here", "_law_many", "_law_house", "_law_net_here", "_law_line"] ["_law_pot_here"] (aH sRL):=⟨rfl,rfl,rfl,by decide +kernel,rfl,by decide +kernel,by decide +kernel⟩
theorem aC2 {f C Pt : Addr} {fd : FuncData} (F : Fun K "_law_ring_less" "_law_ring_less" sRL f fd) (D : Cal P w K mg base CX0 1 "_law_digit" ["_law_pot_here", "_law_many"] dH) (RN : Cal P w K mg base CX0 10 "ring_net" ["many"] (rO C Pt)) (WO : Cal P w K mg base CX0 9 "without" ["net", "one", "other"] (spWO C Pt)) (TO : Cal P w K mg base CX0 7 "_law_told" ["_law_net_here"] (kF C)) (IS : Cal P w K mg base CX0 1 "_law_is" ["_law_found", "_law_due"] spIs) : FnOk P w K mg base CX0 11 f fd ["_law_pot_here"] (iT Pt):=by
 refine F.ok scRL (fun vs H Q E h=>?_) (fun cdv A outer s H vs Q E hr h=>?_)
 ·obtain ⟨p,rfl,_⟩:=h
  rfl
 ·obtain ⟨p,rfl,hp,tb,q⟩:=h
  have h1 : Room 1 _:=hr.mono (by decide)
  have h7 : Room 7 _:=hr.mono (by decide)
  have h9 : Room 9 _:=hr.mono (by decide)
  refine ⟨_,(aF (aV (i:=1) scRL.nd rfl (Or.inl rfl) (bA dA aG (aN D h1 aK (aA (pv 0) (aA aG aB)))))
   (aF (aV (i:=2) scRL.nd rfl (Or.inl rfl) (aN D h1 aK (aA (pv 0) (aA (pv 1) aB))))
   (aF (aV (i:=3) scRL.nd rfl (Or.inl rfl) (aN RN hr aK (aA (pv 1) aB)))
   (aF (aV (i:=4) scRL.nd rfl (Or.inl rfl) (aN WO h9 aK (aA (pv 3) (aA (pv 2) (aA (bA eZ (bA dA (pv 2) aG) (pv 1)) aB)))))
   (aJ (aW (eC (aN IS h1 aK (aA (aN TO h7 aK (aA (pv 3) aB)) (aA (bF (aA dZ (aA dZ aB))) aB))) (eH (aN IS h1 aK (aA (aN TO h7 aK (aA (pv 4) aB)) (aA (bF (aA dZ (aA dZ aB))) aB))))))))))),?_⟩
  refine ⟨_,rfl,p,30,rfl,by decide,by decide,hp,fun d H1 hd s1 hp1=>⟨_,_,rfl,rfl,?_⟩⟩
  obtain ⟨n,en,n1,n2⟩ : ∃ n : Nat,(3 : Int) + (d : Int) = (n : Int)∧3 ≤ n∧n ≤ 32:=⟨3 + d,by lia,by lia,by lia⟩
  change aQ 1 (V.int (3 + (d : Int))) _ _ _
  rw [en]
  refine ⟨_,rfl,_,rfl,p,n,rfl,by lia,by lia,hp1,fun h H2 hh s2 hp2=>?_⟩
  have tb2:=(tb.keepE s1 hp).keepE s2 hp1
  have k2 : eS p Pt H H2:=fun b o e n m=>s2 _ _ (s1 _ _ e n) n
  refine ⟨_,rfl,n,rfl,n1,n2,tb2,fun px H3 npx N3 tb3 s3=>?_⟩
  have hp3:=hp2.t tb2 s3
  have k3:=k2.t s3
  have e2 : ((h : Int) + 1) % (n : Int) = (((h + 1) % n : Nat) : Int):=by lia
  have lf:=zI n1 n2 hh
  have le:=uU n1 hh
  have t1 : T (dbl ((eT n).map ci2)) h ((h + 1) % n):=dY.mpr (.inl (List.mem_map.mpr ⟨_,List.mem_map.mpr ⟨h,List.mem_range.mpr hh,rfl⟩,rfl⟩))
  refine ⟨_,rfl,_,rfl,_,rfl,_,_,rfl,rfl,_,rfl,_,_,rfl,rfl,(by show (0 : Int) < (n : Int); lia),_,px,n,_,h,(h + 1) % n,?_,N3,t1,gB _ t1,by rw [le]; exact lf.1,tb3,fun us pu pl H4 npl N4 tb4 s4=>?_⟩
  ·show [V.ref px,V.int (h : Int),V.int (((h : Int) + 1) % (n : Int))] = _
   rw [e2]
  rw [le] at pu
  have hp4:=hp3.t tb3 s4
  have k4:=k3.t s4
  have N34:=N3.keepT tb3 s4
  refine ⟨_,rfl,_,px,n,_,rfl,N34,fun r a b H5 s5 hr5 kd=>⟨by show 2 ≤ sizeLine; decide,fun t ht=>?_⟩⟩
  obtain ⟨rfl,rfl⟩:=kd.uniq (aBJ n1 n2)
  have st:=aE (o:=.tup [.bl false,.bl true]) ht
  refine ⟨r,t,false,true,rfl,st _ _ hr5,aD,true,rfl,iteT ?_⟩
  have s56:=s5.trans st
  refine ⟨_,rfl,_,pl,n,us,rfl,N4.same s56,fun r2 a2 b2 H6 s6 hr6 kd2=>⟨by show 2 ≤ sizeLine; decide,fun t2 ht2=>?_⟩⟩
  obtain ⟨rfl,rfl⟩:=kd2.uniq ((uT lf.1 gB lf.2).perm pu)
  have st2:=aE (o:=.tup [.bl true,.bl false]) ht2
  have s7:=(s56.trans s6).trans st2
  exact ⟨r2,t2,true,false,rfl,st2 _ _ hr6,aD,q _ (k4.s s7) (hp4.same s7) (tb4.same s7)⟩
theorem scTM : aS ["_law_pot_here", "_law_many", "_law_ties", "_law_pairs", "_law_ends", "_law_fresh", "_law_due"] ["_law_pot_here"] (aH sTM):=⟨rfl,rfl,rfl,by decide +kernel,rfl,by decide +kernel,by decide +kernel⟩
theorem aC3 {f C Pt : Addr} {fd : FuncData} (F : Fun K "_law_tree_more" "_law_tree_more" sTM f fd) (B : Bl mg) (D : Cal P w K mg base CX0 1 "_law_digit" ["_law_pot_here", "_law_many"] dH) (TR : Cal P w K mg base CX0 3 "_law_tree" ["_law_pot_here", "_law_many"] kE) (PN : Cal P w K mg base CX0 9 "pairs_net" ["many", "pairs"] (jB C Pt)) (TO : Cal P w K mg base CX0 7 "_law_told" ["_law_net_here"] (kF C)) (IS : Cal P w K mg base CX0 1 "_law_is" ["_law_found", "_law_due"] spIs) (KI : Cal P w K mg base CX0 1 "_law_kinds" ["_law_many", "_law_ties"] kU) : FnOk P w K mg base CX0 10 f fd ["_law_pot_here"] (iT Pt):=by
 refine F.ok scTM (fun vs H Q E h=>?_) (fun cdv A outer s H vs Q E hr h=>?_)
 ·obtain ⟨p,rfl,_⟩:=h
  rfl
 ·obtain ⟨p,rfl,hp,tb,q⟩:=h
  have h1 : Room 1 _:=hr.mono (by decide)
  have h3 : Room 3 _:=hr.mono (by decide)
  have h7 : Room 7 _:=hr.mono (by decide)
  refine' ⟨_,(aF (aV (i:=1) scTM.nd rfl (Or.inl rfl) (bA dA aG (aN D h1 aK (aA (pv 0) (aA aG aB)))))
   (aF (aV (i:=2) scTM.nd rfl (Or.inr rfl) (aN TR h3 aK (aA (pv 0) (aA (pv 1) aB))))
   (aF (cN (i:=3) (g:=(aQ 0)) (tt:=(cD (tOp (rI0 fun i j=>.bl (decide (i < j))) (tOp (rIxT K) (tVar 0) (tC (.int 0))) (tOp (rIxT K) (tVar 0) (tC (.int 1)))))) (te:=(tVar 0)) (NB:=["_law_tie"]) (src:=[none]) (bB (by kernel_rfl)) rfl (bG (pv 2)) ?g1 ?t1 ?e1 scTM.nd rfl rfl rfl)
   (aF (bV (cX (cP (aN IS h1 aK (aA (aN TO h7 aK (aA (aN PN hr aK (aA (pv 1) (aA (pv 3) aB))) aB)) (aA (bF (aA dZ (aA dZ aB))) aB))))) (aJ (aW dZ)) bQ)
   (aF (cN (i:=4) (g:=(aQ 0)) (tt:=(cD (tOp (rEq) (tCB (fun xs H Q=>∃ p ys,xs = [V.ref p]∧(SqL K H p ys∨SqT K H p ys)∧Q (.int ys.length) H) (bK (iA [none,some 0] (iU K (tVar 1)) (aQ 0) (cD (tOp (rEq) (tOp (rIxT K) (tVar 0) (tC (.int 0))) (tVar 1))) (tVar 0)) tNil)) (tC (.int 1))))) (te:=(tVar 0)) (NB:=["_law_house", "_law_ties"]) (src:=[none,some 2]) (bB (by kernel_rfl)) rfl (bZ rfl B.range (aA (pv 1) aB)) ?g2 ?t2 ?e2 scTM.nd rfl rfl rfl)
   (aF (aV (i:=5) scTM.nd rfl (Or.inl rfl) (bF (aA (bH bE (pv 4) aG (fun _ _=>rfl)) (aA (bH bE (pv 4) (vG qF aG) (fun _ _=>rfl)) aB))))
   (aF (aV (i:=6) scTM.nd rfl (Or.inl rfl) (aN KI h1 aK (aA (pv 1) (aA (bA gH (pv 2) (cC (aA (pv 5) (aA (uW (pv 5) (nE (vG qF aG))) aB)))) aB))))
   (aJ (aW (eC (aN IS h1 aK (aA (aN TO h7 aK (aA (aN PN hr aK (aA (pv 1) (aA (bA gH (pv 3) (cC (aA (pv 5) aB))) aB))) aB)) (aA (pv 6) aB))) (eH (cW aCl (bH eK (pv 6) aG (fun _ _=>rfl)) dZ (aX _))))))))))))),?_⟩
  case g1=>exact fun cl C s₃ H₃ fp=>(aL (i:=0) zQ rfl (Or.inl rfl) (Or.inr rfl))
  case t1=>exact fun cl C s₃ H₃ fp=>bS (aT kH (bH eK (pv 0) aG (fun _ _=>rfl)) (bH eK (pv 0) aG (fun _ _=>rfl)) (aX _))
  case e1=>exact fun cl C s₃ H₃ fp=>(pv 0)
  case g2=>exact fun cl C s₃ H₃ fp=>(aL (i:=0) eU rfl (Or.inr rfl) (Or.inl rfl))
  case t2 =>
   intro cl C s₃ H₃ fp
   refine' bS (aT cI (aO aR (by rfl) B.len PySem.boot_len (aA ?c3 aB)) aG (aX _))
   case c3 =>
    refine' bJ (g:=(aQ 0)) (tt:=(cD (tOp (rEq) (tOp (rIxT K) (tVar 0) (tC (.int 0))) (tVar 1)))) (te:=(tVar 0)) (NB:=["_law_tie", "_law_house"]) (src:=[none,some 0]) (bB (by kernel_rfl)) rfl (bG (pv 1)) ?g ?t ?e
    case g=>exact fun cl C s₃ H₃ fp=>(aL (i:=0) hU rfl (Or.inl rfl) (Or.inr rfl))
    case t=>exact fun cl C s₃ H₃ fp=>bS (aT cI (bH eK (pv 0) aG (fun _ _=>rfl)) (pv 1) (aX _))
    case e=>exact fun cl C s₃ H₃ fp=>(pv 0)
  case e2=>exact fun cl C s₃ H₃ fp=>(pv 0)
  refine ⟨_,rfl,p,20,rfl,by decide,by decide,hp,fun d H1 hd s1 hp1=>⟨_,_,rfl,rfl,?_⟩⟩
  obtain ⟨n,en,n1,n2⟩ : ∃ n : Nat,(3 : Int) + (d : Int) = (n : Int)∧3 ≤ n∧n ≤ 32:=⟨3 + d,by lia,by lia,by lia⟩
  change aQ 1 (V.int (3 + (d : Int))) _ _ _
  rw [en]
  refine ⟨_,rfl,_,rfl,p,n,rfl,hp1,by lia,n2,fun l zs H2 s2 hp2 tl ⟨ps,eps⟩ zlen=>?_⟩
  have tb2:=(tb.keepE s1 hp).keepE s2 hp1
  have k2 : eS p Pt H H2:=fun b o e n m=>s2 _ _ (s1 _ _ e n) n
  have fi:=tl.t.fine
  have zl : zs.length ≤ 256:=by have:=fi.len; rwa [aP] at this
  have sy : Sym (zp zs):=by rw [eps]; exact gB
  have zplen : (zp zs).length + 2 = 2 * n:=by rw [aP]; exact zlen
  have kdt:=uT fi sy zplen
  refine ⟨_,rfl,l,rfl,⟨_,SqL.of tl.t.at_⟩,fun Pr hPr=>?_⟩
  refine dI (fun u=>decide (u.1 < u.2)) (fun σ=>∃ a,σ = [a]) tl.t.at_ hPr (by lia) ⟨_,rfl⟩ ?_ ?_
  ·rintro z σ H3 Kt Kf hz ⟨a,rfl⟩ sm kt kf
   have gz:=sm _ _ (tl.t.po z hz)
   refine ⟨_,rfl,z.1,_,_,_,rfl,rfl,SqT.of gz,bD (j:=0) rfl,_,rfl,z.1,_,_,_,rfl,rfl,SqT.of gz,bD (j:=1) rfl,_,_,rfl,rfl,_,rfl,?_⟩
   exact ite2 (fun e=>⟨_,rfl,kt _ _ ⟨_,rfl⟩ (Same.refl _) e⟩) (fun e=>kf _ _ ⟨_,rfl⟩ (Same.refl _) (Bool.eq_false_iff.mpr e))
  intro H3 s3 hP3
  have ezq : zp (zs.filter fun z=>decide (z.2.1 < z.2.2)) = (zp zs).filter fun t=>decide (t.1 < t.2):=iC (c:=fun t=>decide (t.1 < t.2))
  have qp : (dbl (zp (zs.filter fun z=>decide (z.2.1 < z.2.2)))).Perm (zp zs):=by
   rw [ezq,eps]
   exact uV fun u hu=>fi.ne u (by rw [eps]; exact dY.mpr (.inl hu))
  have ql : (zs.filter fun z=>decide (z.2.1 < z.2.2)).length ≤ 256:=Nat.le_trans (List.length_filter_le _ _) zl
  have qsub : ∀ z∈zs.filter (fun z=>decide (z.2.1 < z.2.2)),z∈zs:=fun z hz=>(List.mem_filter.mp hz).1
  generalize zs.filter (fun z=>decide (z.2.1 < z.2.2)) = qs at *
  have po3:=tl.t.po.same s3
  have poq : PO H3 qs:=fun z hz=>po3 z (qsub z hz)
  have tb3:=tb2.same s3
  refine ⟨_,rfl,_,rfl,n,Pr,qs,rfl,hP3,poq,fi.perm qp,tb3,fun px H4 npx N4 tb4 s4=>?_⟩
  have kp4 : ∀ b o,H3 b = some o→(∀ ps,o ≠ .tbl ps)→H4 b = some o:=fun b o e nt=>s4 _ _ e (tb3.not e nt)
  refine ⟨_,px,n,_,rfl,N4,fun r a b H5 s5 hr5 kd=>⟨by show 2 ≤ sizeLine; decide,fun t ht=>?_⟩⟩
  obtain ⟨rfl,rfl⟩:=kd.uniq (kdt.perm qp)
  have st:=aE (o:=.tup [.bl true,.bl false]) ht
  have hl5 : ∀ b o,H3 b = some o→(∀ ps,o ≠ .tbl ps)→(upd H5 t (.tup [.bl true,.bl false])) b = some o:=fun b o e nt=>st _ _ (s5 _ _ (kp4 _ _ e nt))
  have gr5:=st _ _ hr5
  have hp5:=((hp2.same s3).t tb3 s4).same (s5.trans st)
  have tb5:=tb4.same (s5.trans st)
  have k5:=(((k2.s s3).t s4).s s5).s st
  refine ⟨r,t,true,false,rfl,gr5,aD,_,rfl,iteF ?_⟩
  generalize upd H5 t _ = H6 at *
  have at6:=hl5 _ _ (s3 _ _ tl.t.at_) (by intro ps z; cases z)
  have po6 : PO H6 zs:=fun z hz=>hl5 _ _ (po3 z hz) (by intro ps z; cases z)
  have hP6:=hl5 _ _ hP3 (by intro ps z; cases z)
  have poq6 : PO H6 qs:=fun z hz=>po6 z (qsub z hz)
  clear hl5 kp4 s5 st s4 s3 hr5 ht tb4 tb3 tb2 s1 s2 hP3 poq po3
  refine ⟨_,rfl,(n : Int),rfl,by lia,by lia,fun Ed hEd=>?_⟩
  refine aBP (lo:=0) (n:=n) (fun h=>decide (deg (zp zs) (ci h) = 1)) (fun σ=>∃ a,σ = [a,some (.ref l)]) hEd (by lia) ⟨_,rfl⟩ ?_ ?_
  ·rintro x σ H7 Kt Kf hx ⟨a,rfl⟩ sm kt kf
   rw [Int.zero_add] at kt ⊢
   refine ⟨_,rfl,l,rfl,⟨_,SqL.of (sm _ _ at6)⟩,fun D3 hD3=>?_⟩
   refine dI (fun u=>decide (u.1 = ci x)) (fun σ=>∃ a,σ = [a,some (.int (x : Int))]) (sm _ _ at6) hD3 (by lia) ⟨_,rfl⟩ ?_ ?_
   ·rintro y σ H8 Kt' Kf' hy ⟨a'',rfl⟩ sm5 kt' kf'
    refine ⟨_,rfl,y.1,_,_,_,rfl,rfl,SqT.of ((sm.trans sm5) _ _ (po6 y hy)),bD (j:=0) rfl,_,rfl,rfl,_,rfl,?_⟩
    refine ite2 (fun e=>?_) (fun e=>?_)
    ·exact ⟨_,rfl,kt' _ _ ⟨_,rfl⟩ (Same.refl _) (by simpa using e)⟩
    ·exact kf' _ _ ⟨_,rfl⟩ (Same.refl _) (by simpa using e)
   ·intro H8 sm8 hD8
    have eL : (zr (zs.filter fun y=>decide (y.2.1 = ci x))).length = deg (zp zs) (ci x):=dW (c:=fun u=>decide (u.1 = ci x))
    refine ⟨D3,_,rfl,.inl (SqL.of hD8),rfl,_,rfl,?_⟩
    rw [eL]
    refine ite2 (fun e=>?_) (fun e=>?_)
    ·have e' : deg (zp zs) (ci x) = 1:=by have:=V.int.inj (of_decide_eq_true e); omega
     exact ⟨_,rfl,kt _ _ ⟨_,rfl⟩ sm8 (decide_eq_true e')⟩
    ·exact kf _ _ ⟨_,rfl⟩ sm8 (decide_eq_false fun z=>e (decide_eq_true (by rw [z]; rfl)))
  intro H7 s7 hE7
  have e0 : (((List.range n).filter fun h=>decide (deg (zp zs) (ci h) = 1)).map fun (x : Nat)=>V.int (0 + (x : Int))) = NV ((List.range n).filter fun h=>decide (deg (zp zs) (ci h) = 1)):=List.map_congr_left fun x _=>by rw [Int.zero_add]
  rw [e0] at hE7
  have two:=wO fi zplen
  have fnd : ((List.range n).filter fun h=>decide (deg (zp zs) (ci h) = 1)).Nodup:=List.nodup_range.filter _
  have fmem : ∀ h∈(List.range n).filter (fun h=>decide (deg (zp zs) (ci h) = 1)),h < n∧deg (zp zs) (ci h) = 1:=fun h hh=>⟨List.mem_range.mp (List.mem_filter.mp hh).1,of_decide_eq_true (List.mem_filter.mp hh).2⟩
  generalize (List.range n).filter (fun h=>decide (deg (zp zs) (ci h) = 1)) = fs at *
  obtain ⟨ha,da⟩:=fmem (fs.getD 0 0) (by rw [bU (by lia)]; exact List.getElem_mem _)
  obtain ⟨hb,db⟩:=fmem (fs.getD (fs.length - 1) 0) (by rw [bU (by lia)]; exact List.getElem_mem _)
  have nab : fs.getD 0 0 ≠ fs.getD (fs.length - 1) 0:=fun e=>by
   rw [bU (by lia),bU (by lia)] at e
   have:=pC fnd (by lia) (by lia) e
   lia
  have g0 : atI (NV fs) 0 = some (.int ((fs.getD 0 0 : Nat) : Int)):=bD (j:=0) (by rw [bU (by lia)]; exact gW (by lia))
  have gL:=aCr (fs:=fs) (by lia)
  generalize fs.getD 0 0 = a at *
  generalize fs.getD (fs.length - 1) 0 = b at *
  refine ⟨_,rfl,Ed,_,_,_,rfl,rfl,SqL.of hE7,g0,_,rfl,_,rfl,Ed,_,_,_,rfl,rfl,SqL.of hE7,gL,by show 2 ≤ sizeLine; decide,fun fr hfr=>?_⟩
  have sF:=aE (o:=prT (ci a,ci b)) hfr
  have no1 : (ci a,ci b) ∉ zp zs:=wP fi sy n1 ha hb da db
  have no2 : (ci b,ci a) ∉ zp zs:=fun z=>no1 (sy _ z)
  have s68:=s7.trans sF
  have gF : (upd H7 fr (.tup [.int (a : Int),.int (b : Int)])) fr = some (prT (ci a,ci b)):=aD
  have s68 : Same H6 (upd H7 fr (.tup [.int (a : Int),.int (b : Int)])):=s68
  generalize upd H7 fr _ = H8 at *
  refine ⟨_,rfl,_,rfl,_,rfl,_,rfl,_,rfl,_,rfl,rfl,fr,_,_,rfl,SqT.of gF,fun rv hrv=>⟨by show 2 ≤ sizeLine; decide,fun L2 hL2=>?_⟩⟩
  have sR:=aE (o:=prT (ci b,ci a)) hrv
  have sL:=aE (o:=.lst [.ref fr,.ref rv]) hL2
  have s69:=(s68.trans sR).trans sL
  have hL2H : (upd (upd H8 rv (.tup [.int (b : Int),.int (a : Int)])) L2 (.lst [.ref fr,.ref rv])) L2 = some (.lst [.ref fr,.ref rv]):=aD
  have s69 : Same H6 (upd (upd H8 rv (.tup [.int (b : Int),.int (a : Int)])) L2 (.lst [.ref fr,.ref rv])):=s69
  have gR : (upd (upd H8 rv (.tup [.int (b : Int),.int (a : Int)])) L2 (.lst [.ref fr,.ref rv])) rv = some (prT (ci b,ci a)):=sL _ _ aD
  have gF9 : (upd (upd H8 rv (.tup [.int (b : Int),.int (a : Int)])) L2 (.lst [.ref fr,.ref rv])) fr = some (prT (ci a,ci b)):=sL _ _ (sR _ _ gF)
  generalize upd (upd H8 rv _) L2 _ = H9 at *
  refine ⟨l,L2,_,_,rfl,rfl,s69 _ _ at6,hL2H,by rw [aZ]; exact Nat.le_trans (show zs.length + 2 ≤ 300 by lia) (by decide),fun N hN=>?_⟩
  have sN:=aE (o:=.lst (zr zs ++ [.ref fr,.ref rv])) hN
  have e12 : zp (zs ++ [(fr,(ci a,ci b)),(rv,(ci b,ci a))]) = dbl (ps ++ [(ci a,ci b)]):=by rw [cH,eps,dQ]; rfl
  have d7 : ∀ h : Nat,deg (zp zs) (ci h) = 1→deg (dbl ps) (ci h) ≤ 7:=fun h e=>by rw [← eps,e]; decide
  have Fp : Fine n (dbl (ps ++ [(ci a,ci b)])):=by
   rw [eps] at fi no1 no2
   exact fi.pair ha hb nab (fun z=>no1 (dY.mpr (.inl z))) (fun z=>no2 (dY.mpr (.inl z))) (d7 a da) (d7 b db)
  have s610:=s69.trans sN
  refine ⟨n,N,zs ++ [(fr,(ci a,ci b)),(rv,(ci b,ci a))],rfl,⟨by rw [e12]; exact Fp,by rw [aD,cA]; rfl,((po6.same s69).append fun z hz=>?_).same sN⟩,fun du x y H11 s11 hdu kdd=>?_⟩
  ·rcases List.mem_cons.mp hz with rfl | hz
   ·exact gF9
   ·rw [List.mem_singleton.mp hz]; exact gR
  rw [e12] at kdd
  have s611:=s610.trans s11
  have gF11:=s11 _ _ (sN _ _ gF9)
  refine ⟨_,rfl,_,rfl,_,rfl,by show 1 ≤ sizeLine; decide,fun L3 hL3=>?_⟩
  have s3:=aE (o:=.lst [.ref fr]) hL3
  refine ⟨Pr,L3,_,_,rfl,rfl,s3 _ _ (s611 _ _ hP6),aD,by rw [aZ]; exact Nat.le_trans (show qs.length + 1 ≤ 300 by lia) (by decide),fun M hM=>?_⟩
  have s4:=aE (o:=.lst (zr qs ++ [.ref fr])) hM
  have s613:=(s611.trans s3).trans s4
  have pq : (dbl (zp (qs ++ [(fr,(ci a,ci b))]))).Perm (dbl (ps ++ [(ci a,ci b)])):=by
   rw [cH,dQ,dQ,← eps]
   exact qp.append (List.Perm.refl _)
  have tb13:=tb5.same s613
  refine ⟨n,M,qs ++ [(fr,(ci a,ci b))],rfl,by rw [aD,cA]; rfl,(poq6.same s613).append (PO.one (s4 _ _ (s3 _ _ gF11))),Fp.perm pq,tb13,fun px2 H14 npx2 N14 tb14 s14=>?_⟩
  have gdu : H14 du = some (.tup [.bl x,.bl y]):=s14 _ _ (s4 _ _ (s3 _ _ hdu)) (tb13.not (s4 _ _ (s3 _ _ hdu)) (by intro ps z; cases z))
  refine ⟨_,px2,n,_,rfl,N14,fun r2 x2 y2 H15 s15 hr15 kd2=>⟨_,rfl,?_⟩⟩
  obtain ⟨rfl,rfl⟩:=kd2.uniq (kdd.perm pq)
  refine ⟨r2,du,x2,y2,rfl,hr15,s15 _ _ gdu,true,rfl,iteT ?_⟩
  refine ⟨_,rfl,du,_,_,_,rfl,rfl,SqT.of (s15 _ _ gdu),bD (j:=0) rfl,x2,false,rfl,rfl,?_⟩
  have xf : x2 = false:=by
   cases hx : x2 with
   | false=>rfl
   | true =>
    have:=(kdd.1.mp hx).2
    rw [← e12,aP,List.length_append] at this
    simp only [List.length_cons,List.length_nil] at this
    omega
  rw [xf]
  exact q H15 (((k5.s s613).t s14).s s15) (((hp5.same s613).t tb13 s14).same s15) (tb14.same s15)
end
end K12
namespace K12
open PySem L2 NetM
abbrev sLaw : Stmt:=top 49
theorem aAG {n : Nat} {ts us vs : Ts} (F : Fine n ts) (p : us.Perm ts) (q : vs.Perm ts) (ou : Ord us) (ov : Ord vs) : us = vs:=by
 have n2:=F.n2
 have st : ∀ {ws : Ts},ws.Perm ts→Ord ws→ws.Pairwise (fun u v=>L2.pk u < L2.pk v):=fun {ws} pw ow=>by
  have:=ow.and (List.nodup_iff_pairwise_ne.mp (pw.nodup_iff.mpr F.nd))
  refine this.imp_of_mem fun {u v} hu hv z=>?_
  have r1:=(F.rg u (pw.mem_iff.mp hu)).2
  have r2:=(F.rg v (pw.mem_iff.mp hv)).2
  obtain ⟨z1,z2⟩:=z
  unfold L2.pk at z1 ⊢
  by_cases c : u.1 = v.1
  ·have : u.2 ≠ v.2:=fun d=>z2 (Prod.ext c d)
   lia
  ·lia
 exact iF (st p ou) (st q ov) fun x=>by rw [p.mem_iff,q.mem_iff]
theorem aCs {X : Cx} {H : Hp} {zs ys : Zs} (h1 : PO H zs) (h2 : PO H ys) (e : zp zs = zp ys) {i : Nat} (hi : i < (zr zs).length) : EqD X H 1 ((zr zs).getD i .non) ((zr ys).getD i .non):=by
 rw [aZ] at hi
 have hl : zs.length = ys.length:=by rw [← aP,e,aP]
 have hj : i < ys.length:=by lia
 have e1 : (zr zs).getD i .non = .ref zs[i].1:=by unfold zr; rw [List.getD_eq_getElem?_getD,List.getElem?_map,List.getElem?_eq_getElem hi]; rfl
 have e2 : (zr ys).getD i .non = .ref ys[i].1:=by unfold zr; rw [List.getD_eq_getElem?_getD,List.getElem?_map,List.getElem?_eq_getElem hj]; rfl
 have e3 : zs[i].2 = ys[i].2:=by
  have:=congrArg (fun l=>l[i]?) e
  unfold zp at this
  simp only [List.getElem?_map,List.getElem?_eq_getElem hi,List.getElem?_eq_getElem hj] at this
  exact Option.some.inj this
 rw [e1,e2]
 have g1:=h1 zs[i] (List.getElem_mem hi)
 have g2:=h2 ys[i] (List.getElem_mem hj)
 rw [← e3] at g2
 refine aBC (d:=0) (SqT.of g1) (SqT.of g2) rfl fun j hj _=>?_
 match j,hj with
 | 0,_=>exact uQ
 | 1,_=>exact uQ
 | j + 2,h=>exact absurd h (by simp)
section
variable {P : Program} {w : World} {K : PySem.W.Frag} {mg : Str→Option Value} {base : Heap}
def SqF (K : PySem.W.Frag) (H : Hp) (a : Addr) (xs : List V) : Prop:=(∃ o,H a = some (.frz o (.lst xs)))∨(∀ H' : Hp,SqL K H' a xs)
theorem SqF.seq {H : Hp} {a : Addr} {xs : List V} (h : SqF K H a xs) : SqL K H a xs:=by
 rcases h with ⟨o,h⟩ | h
 ·exact .inl (.inr ⟨o,h⟩)
 ·exact h H
theorem SqF.mono {H H' : Hp} {a : Addr} {xs : List V} (h : SqF K H a xs) (e : ∀ o u,H a = some (.frz o u)→H' a = some (.frz o u)) : SqF K H' a xs:=by
 rcases h with ⟨o,h⟩ | h
 ·exact .inl ⟨o,e _ _ h⟩
 ·exact .inr h
theorem jE : aS ["_law_script", "_law_k", "_law_pot_here", "_law_many", "_law_ties", "_law_net_here", "_law_due"] ["_law_script"] (aH sLaw):=⟨rfl,rfl,rfl,by decide +kernel,rfl,by decide +kernel,by decide +kernel⟩
def pW (K : PySem.W.Frag) (Pt : Addr) : Sp:=fun vs H Q _=>∃ (a : Addr) (ns : List Int),vs = [.ref a]∧SqF K H a (ns.map V.int)∧ns.length ≤ 63∧Tab Pt H∧∀ H',Q (.bl true) H'
theorem aCt {f C Pt fI : Addr} {fd fdI : FuncData} (F : Fun K "law" "law" sLaw f fd) (B : Bl mg) (T : NT K mg C) (M : Mk K C fI) (bI : eA K fdI ["self", "many", "ties"] []) (GI : FnOk P w K mg base CX0 7 fI fdI ["self", "many", "ties"] (kB C Pt))
  (PO : Cal P w K mg base CX0 1 "_law_pot" ["_law_script", "_law_k"] (wT K)) (DR : Cal P w K mg base CX0 5 "_law_drawn" ["_law_pot_here"] spDr) (KI : Cal P w K mg base CX0 1 "_law_kinds" ["_law_many", "_law_ties"] kU) (TO : Cal P w K mg base CX0 7 "_law_told" ["_law_net_here"] (kF C)) (IS : Cal P w K mg base CX0 1 "_law_is" ["_law_found", "_law_due"] spIs)
  (RL : Cal P w K mg base CX0 11 "_law_ring_less" ["_law_pot_here"] (iT Pt)) (TM : Cal P w K mg base CX0 10 "_law_tree_more" ["_law_pot_here"] (iT Pt)) (TI : MCal P w K mg base CX0 1 C "ties" ["self"] (kC C)) :
  FnOk P w K mg base CX0 12 f fd ["_law_script"] (pW K Pt):=by
 obtain ⟨_,_,mT,bT,GT⟩:=TI.ex
 refine F.ok jE (fun vs H Q E h=>?_) (fun cdv A outer s H vs Q E hr h=>?_)
 ·obtain ⟨a,ns,rfl,_⟩:=h
  rfl
 ·obtain ⟨a,ns,rfl,hS,hns,tb,q⟩:=h
  have h1 : Room 1 _:=hr.mono (by decide)
  have h5 : Room 5 _:=hr.mono (by decide)
  have h7 : Room 7 _:=hr.mono (by decide)
  have h8 : Room 8 _:=hr.mono (by decide)
  have h10 : Room 10 _:=hr.mono (by decide)
  refine ⟨_,(aF (gC PassesOwn.never rfl (bZ rfl B.range (aA (aO (oJ rfl) (by rfl) B.max PyProof.Rows.boot_max (aA aG (aA (aO (oK rfl) (by rfl) B.min PyProof.Rows.boot_min (aA aG (aA (aO aR (by rfl) B.len PySem.boot_len (aA (pv 0) aB)) aB))) aB))) aB)) (aL (i:=1) jE.nd rfl (Or.inl rfl))
    (aF (aV (i:=2) jE.nd rfl (Or.inl rfl) (aN PO h1 aK (aA (pv 0) (aA (pv 1) aB))))
    (aF (eI (aN DR h5 aK (aA (pv 2) aB)) (dF (n:=2) rfl (bC (aL (i:=3) jE.nd rfl (Or.inl rfl)) (bC (aL (i:=4) jE.nd rfl (Or.inl rfl)) cR))))
    (aF (aV (i:=5) jE.nd rfl (Or.inl rfl) (nA M GI h8 rfl T.mgC bI .nil aK (aA (pv 3) (aA (pv 4) aB))))
    (aF (aV (i:=6) jE.nd rfl (Or.inl rfl) (aN KI h1 aK (aA (pv 3) (aA (pv 4) aB))))
    (aF (bV (PW.pt (lP (cX (cP (aN IS h1 aK (aA (aN TO h7 aK (aA (pv 5) aB)) (aA (pv 6) aB))))) (lP (cX (cP (aN IS h1 aK (aA (aN TO h7 aK (aA (pv 5) aB)) (aA (pv 6) aB))))) (lO (aT (aBD (d:=1) hr.u) (dC (pv 5) T.cl mT GT h1 bT .nil aK) (aO mH (by rfl) B.sorted PyProof.Rows.boot_sorted (aA (pv 4) aB)) (aX _)))))) (aJ (aW dZ)) bQ)
    (aJ (bV (PW.pt (lP (cX (cP (aN RL hr aK (aA (pv 2) aB)))) (lO (cX (cP (aN TM h10 aK (aA (pv 2) aB))))))) (aJ (aW dZ)) bQ))))))))
   (aJ (aW dZ))),?_⟩
  refine ⟨_,rfl,a,_,rfl,.inl hS.seq,6,_,rfl,1,_,rfl,_,rfl,?_⟩
  obtain ⟨j,hj,j1⟩ : ∃ j : Int,(if (if (((ns.map V.int).length : Nat) : Int) < 6 then (((ns.map V.int).length : Nat) : Int) else 6) > 1 then (if (((ns.map V.int).length : Nat) : Int) < 6 then (((ns.map V.int).length : Nat) : Int) else 6) else 1) = j∧1 ≤ j∧j ≤ 6:=⟨_,rfl,by split <;> split <;> lia⟩
  rw [hj]
  refine ⟨by lia,by lia,hV (n:=j.toNat) (lo:=0) (fun k σ H2=>(∃ x1 x2 x3 x4 x5 x6,σ = [some (.ref a),x1,x2,x3,x4,x5,x6])∧SqF K H2 a (ns.map V.int)∧Tab Pt H2) ⟨⟨_,_,_,_,_,_,rfl⟩,hS,tb⟩ ?_ ?_⟩
  ·rintro k σ H2 hk ⟨⟨x1,x2,x3,x4,x5,x6,rfl⟩,S2,t2⟩
   refine ⟨_,rfl,_,rfl,a,ns,k,by rw [Int.zero_add]; rfl,S2.seq,by lia,fun p H3 s3 np p3=>?_⟩
   refine ⟨_,rfl,p,rfl,p3,fun t0 r0 n zs H4 s4 p4 ht4 tl=>?_⟩
   have t4:=(t2.same s3).keepE s4 p3
   refine ⟨t0,_,rfl,SqT.of ht4,rfl,_,_,rfl,_,_,rfl,rfl,?_⟩
   have fi:=tl.t.fine
   have zl : zs.length ≤ 256:=by have:=fi.len; rwa [aP] at this
   have k4 : ∀ b o,H2 b = some o→(∀ ps,o ≠ .tbl ps)→H4 b = some o:=fun b o e nt=>s4 _ _ (s3 _ _ e) (aM e np)
   refine ⟨_,rfl,_,rfl,fun px dx nx ndx nex=>?_⟩
   have sN : Same H4 (upd (upd H4 dx (.own px)) px (.ins C dx [])):=(aE (o:=.own px) ndx).trans (aE (D:=px) (o:=.ins C dx []) (by rw [aI nex.symm]; exact nx))
   have gpx : (upd (upd H4 dx (.own px)) px (.ins C dx [])) px = some (.ins C dx []):=aD
   have tN:=t4.same sN
   refine ⟨px,dx,n,r0,zs,rfl,gpx,tl.t.same sN,tN,fun H5 N5 t5 s5=>⟨rfl,?_⟩⟩
   have k45 : ∀ b o,H4 b = some o→(∀ ps,o ≠ .tbl ps)→H5 b = some o:=fun b o e nt=>s5 b o (sN _ _ e) (aM e nx) (tN.not (sN _ _ e) nt)
   have tl5 : cT H5 r0 n zs:=⟨fi,k45 _ _ tl.t.at_ (by intro ps z; cases z),fun z hz=>k45 _ _ (tl.t.po z hz) (by intro ps z; cases z)⟩
   have p5 : aY H5 p:=let ⟨x,y,e,r⟩:=p4; ⟨x,y,k45 _ _ e (by intro ps z; cases z),r⟩
   have S5 : SqF K H5 a (ns.map V.int):=S2.mono fun o u e=>k45 _ _ (k4 _ _ e (by intro ps z; cases z)) (by intro ps z; cases z)
   clear gpx sN tN k4 k45 s5
   refine ⟨_,rfl,_,rfl,n,r0,zs,rfl,tl5,fun du x y H6 s6 hdu kd=>?_⟩
   refine ⟨_,rfl,_,px,n,_,rfl,N5.same s6,fun r a1 b1 H7 s7 hr7 kd1=>⟨_,rfl,?_⟩⟩
   obtain ⟨rfl,rfl⟩:=kd1.uniq kd
   refine ⟨r,du,a1,b1,rfl,hr7,s7 _ _ hdu,_,rfl,iteF ?_⟩
   have s57:=s6.trans s7
   refine ⟨_,rfl,_,px,n,_,rfl,N5.same s57,fun r' a2 b2 H8 s8 hr8 kd2=>⟨_,rfl,?_⟩⟩
   obtain ⟨rfl,rfl⟩:=kd2.uniq kd
   have s58:=s57.trans s8
   refine ⟨r',du,a2,b2,rfl,hr8,(s7.trans s8) _ _ hdu,_,rfl,iteF ?_⟩
   have N8:=N5.same s58
   obtain ⟨dx2,tl',ol,ds,e1,_⟩:=N8.ob
   refine ⟨_,rfl,px,dx2,_,rfl,e1,wX _ _ _ _,_,px,n,_,rfl,N8,fun r3 zs3 H9 s9 _ hr9 po9 pm9 or9=>?_⟩
   have tl9:=tl5.same (s58.trans s9)
   refine ⟨_,rfl,?_⟩
   unfold tNil
   dsimp only
   refine uN tl9.at_ tl9.po (by lia) (fun u hu=>by have:=(fi.rg u hu).2; have:=fi.n2; lia) fun S4 zs4 hS4 pm4 or4=>?_
   have s10:=aE (o:=.lst (zr zs4)) hS4
   have ez : zp zs3 = zp zs4:=aAG fi pm9 (pm4.map _) or9 or4
   have po4 : K12.PO (upd H9 S4 (.lst (zr zs4))) zs4:=fun z hz=>s10 _ _ (tl9.po z (pm4.mem_iff.mp hz))
   have zl3 : (zr zs3).length = (zr zs4).length:=by rw [aZ,aZ,← aP,← aP,ez]
   refine ⟨r3,S4,_,_,rfl,rfl,SqL.of (s10 _ _ hr9),SqL.of aD,zl3,fun m hm _=>aCs ((po9.same s9).same s10) po4 ez hm,_,rfl,iteF ?_⟩
   have s510:=(s58.trans s9).trans s10
   have p10:=p5.same s510
   have t10:=t5.same s510
   have S10 : SqF K (upd H9 S4 (.lst (zr zs4))) a (ns.map V.int):=S5.mono fun o u e=>s510 _ _ e
   generalize upd H9 S4 _ = H10 at *
   have keep : ∀ {H H' : Hp},SqF K H a (ns.map V.int)→aY H p→Tab Pt H→eS p Pt H H'→SqF K H' a (ns.map V.int):=fun S hp t s=>S.mono fun o u e=>s _ _ e (by rintro rfl; obtain ⟨x,y,e',_⟩:=hp; rw [e] at e'; cases e') (t.not e (by intro ps z; cases z))
   refine ⟨_,rfl,p,rfl,p10,t10,fun H11 s11 p11 t11=>⟨_,rfl,iteF ?_⟩⟩
   refine ⟨_,rfl,p,rfl,p11,t11,fun H12 s12 p12 t12=>⟨_,rfl,iteF ?_⟩⟩
   exact ⟨⟨_,_,_,_,_,_,rfl⟩,keep (keep S10 p10 t10 s11) p11 t11 s12,t12⟩
  ·rintro σ H2 ⟨⟨x1,x2,x3,x4,x5,x6,rfl⟩,S2,t2⟩
   exact q H2
end
end K12
namespace K12
open PySem L2 NetM
def FD (K : PySem.W.Frag) (n : Str) (st : Stmt) : Prop:=∃ (f : Addr) (oc : Value) (od an : Option Addr) (sl : Array (Option Value)) (kV dc pm cd ct : Value),PySem.W.nsIn K mainGlobals n = some (some (.ref f))∧K.lookup f = some ⟨oc,od,.func (PySem.W.fnOf n n (cL st) (cB st) (aH st) .none kV dc pm an cd ct),sl⟩∧PySem.W.codeIn K cd n = true∧PySem.W.keepIn K (.ref f) = true
def FC (K : PySem.W.Frag) (n : Str) (st : Stmt) (c : Addr) : Prop:=∃ (f : Addr) (oc : Value) (od an : Option Addr) (sl : Array (Option Value)) (kV dc pm ct : Value),PySem.W.nsIn K mainGlobals n = some (some (.ref f))∧K.lookup f = some ⟨oc,od,.func (PySem.W.fnOf n n (cL st) (cB st) (aH st) .none kV dc pm an (.ref c) ct),sl⟩∧PySem.W.codeIn K (.ref c) n = true∧PySem.W.keepIn K (.ref f) = true
def MD (K : PySem.W.Frag) (C : Addr) (n q : Str) (st : Stmt) : Prop:=∃ (f : Addr) (oc : Value) (od an : Option Addr) (sl : Array (Option Value)) (kV dc pm cd ct : Value),PySem.W.findIn K (.ref C) n = some (some (.ref f))∧PySem.W.isFn K (.ref f) = true∧K.lookup f = some ⟨oc,od,.func (PySem.W.fnOf n q (cL st) (cB st) (aH st) .none kV dc pm an cd ct),sl⟩∧PySem.W.codeIn K cd q = true∧PySem.W.keepIn K (.ref f) = true
section
variable {P : Program} {w : World} {K : PySem.W.Frag} {mg : Str→Option Value} {base h : Heap} {n q : Str} {st : Stmt} {f c C : Addr} {oc kV dc pm cd ct : Value} {od an : Option Addr} {sl : Array (Option Value)} {CX : CXT} {k : Nat} {ps : List Str} {sp : Sp}
theorem FD.mk (a : PySem.W.nsIn K mainGlobals n = some (some (.ref f))) (l : K.lookup f = some ⟨oc,od,.func (PySem.W.fnOf n n (cL st) (cB st) (aH st) .none kV dc pm an cd ct),sl⟩) (d : PySem.W.codeIn K cd n = true) (k : PySem.W.keepIn K (.ref f) = true) : FD K n st:=⟨f,oc,od,an,sl,kV,dc,pm,cd,ct,a,l,d,k⟩
theorem FC.mk (a : PySem.W.nsIn K mainGlobals n = some (some (.ref f))) (l : K.lookup f = some ⟨oc,od,.func (PySem.W.fnOf n n (cL st) (cB st) (aH st) .none kV dc pm an (.ref c) ct),sl⟩) (d : PySem.W.codeIn K (.ref c) n = true) (k : PySem.W.keepIn K (.ref f) = true) : FC K n st c:=⟨f,oc,od,an,sl,kV,dc,pm,ct,a,l,d,k⟩
theorem MD.mk (a : PySem.W.findIn K (.ref C) n = some (some (.ref f))) (i : PySem.W.isFn K (.ref f) = true) (l : K.lookup f = some ⟨oc,od,.func (PySem.W.fnOf n q (cL st) (cB st) (aH st) .none kV dc pm an cd ct),sl⟩) (d : PySem.W.codeIn K cd q = true) (k : PySem.W.keepIn K (.ref f) = true) : MD K C n q st:=⟨f,oc,od,an,sl,kV,dc,pm,cd,ct,a,i,l,d,k⟩
def BD (n q : Str) (st : Stmt) (ps : List Str) : Prop:=∀ (kV doc pm : Value) (an : Option Addr) (cdv ct : Value) (us : List Value),us.length = ps.length→bindArgs (PySem.W.fnOf n q (cL st) (cB st) (aH st) .none kV doc pm an cdv ct) ⟨us,[]⟩ = pure (ps.zip us)
theorem FD.cal (X : K.In h) (G : h.Ns mainGlobals mg) (D : FD K n st) (b : BD n n st ps) (o : ∀ {f fd},Fun K n n st f fd→FnOk P w K mg base CX k f fd ps sp) : Cal P w K mg base CX k n ps sp :=
 let ⟨f,_,_,_,_,_,_,_,_,_,a,l,d,kp⟩:=D
 have F:=lY (x:=n) (qual:=n) (st:=st) l d kp
 ⟨⟨f,_,PySem.W.mg_of X G a,kp,F.binds b,o F⟩⟩
theorem FC.cal (X : K.In h) (G : h.Ns mainGlobals mg) (D : FC K n st c) (b : BD n n st ps) (o : ∀ {f fd},FunC K n n st f fd c→FnOk P w K mg base CX k f fd ps sp) : Cal P w K mg base CX k n ps sp :=
 let ⟨f,_,_,_,_,_,_,_,_,a,l,d,kp⟩:=D
 have F:=aBc (x:=n) (qual:=n) (st:=st) l d kp
 ⟨⟨f,_,PySem.W.mg_of X G a,kp,F.fun.binds b,o F⟩⟩
theorem MD.cal (D : MD K C n q st) (b : BD n q st ps) (o : ∀ {f fd},Fun K n q st f fd→FnOk P w K mg base CX k f fd ps sp) : MCal P w K mg base CX k C n ps sp :=
 let ⟨f,_,_,_,_,_,_,_,_,_,a,i,l,d,kp⟩:=D
 have F:=lY (x:=n) (qual:=q) (st:=st) l d kp
 ⟨⟨f,_,⟨a,i,kp⟩,F.binds b,o F⟩⟩
end
theorem aCu {l : PySem.W.OpenLaw} {w : World} {K : PySem.W.Frag} {h : Heap} {mg : Str→Option Value} {fa : Addr} (X : K.In h) (G : h.Ns mainGlobals mg) (hfa : mg "law" = some (.ref fa)) {C cO Pt : Addr} {t_FEWEST_HOUSES t_MOST_HOUSES t_MOST_TIES_OUT t_SMALLEST_RING : Tok} (aC : PySem.W.nsIn K mainGlobals "Net" = some (some (.ref C))) (h_whole : FD K "is_whole" rE) (h_within : FD K "is_whole_within" nR) (h_house : FD K "is_house" rF) (h_row : FD K "is_row" sRow) (h_unl : FD K "are_unlike_houses" sUnl) (h_tie : FD K "is_tie" sTie) (h_cties : FD K "check_ties" rK) (h_bal : FD K "check_balance" sBal) (h_outs : FC K "houses_out" mK cO) (h_dist : FD K "distances_from" wK) (h_reach : FD K "check_reached" rM) (h_isTree : FD K "is_tree" sIT) (h_isPlain : FD K "is_plain_ring" sIP) (h_pairsN : FD K "pairs_net" nW) (h_ringN : FD K "ring_net" wN) (h_at : FD K "are_tied" sAT) (h_wo : FD K "without" sWO) (h_pot : FD K "_law_pot" sPot) (h_digit : FD K "_law_digit" rX) (h_some : FD K "_law_some" wR) (h_round : FD K "_law_round" mS) (h_tree : FD K "_law_tree" wU) (h_net : FD K "_law_net" sNet) (h_ringL : FD K "_law_ring" sH) (h_joined : FD K "_law_joined" sJo) (h_ex : FD K "_law_exchanged" sEx) (h_more : FD K "_law_more" sMo) (h_drawn : FD K "_law_drawn" sDr) (h_kinds : FD K "_law_kinds" rY) (h_told : FD K "_law_told" wW) (h_is : FD K "_law_is" sIs) (h_rl : FD K "_law_ring_less" sRL) (h_tm : FD K "_law_tree_more" sTM) (h_law : FD K "law" sLaw) (m_init : MD K C "__init__" "Net.__init__" pT) (m_check : MD K C "check_house" "Net.check_house" rJ) (m_out : MD K C "out" "Net.out" sOut) (m_many : MD K C "many" "Net.many" wG) (m_ties : MD K C "ties" "Net.ties" wH) (m_two : MD K C "is_two_way" "Net.is_two_way" sTwo) (pg : PySem.W.plainGet K C Str.empty = true) (q_hd : PySem.W.hasDictIn K C = true) (po : PySem.W.plainOver K C = true) (sa : PySem.W.findIn K (.ref C) "__setattr__" = some (some (.builtin "object.__setattr__"))) (mk : PySem.W.makesIn K C = true) (kc : PySem.W.keepIn K (.ref C) = true) (nH : PySem.W.findIn K (.ref C) "house_count" = some none) (nT : PySem.W.findIn K (.ref C) "tie_list" = some none) (nO : PySem.W.findIn K (.ref C) "out_lists" = some none) (nD : PySem.W.findIn K (.ref C) "distances" = some none) (z_isinstance : PySem.W.nsIn K mainGlobals "isinstance" = some none) (z_int : PySem.W.nsIn K mainGlobals "int" = some none) (z_bool : PySem.W.nsIn K mainGlobals "bool" = some none) (z_tuple : PySem.W.nsIn K mainGlobals "tuple" = some none) (z_list : PySem.W.nsIn K mainGlobals "list" = some none) (z_str : PySem.W.nsIn K mainGlobals "str" = some none) (z_set : PySem.W.nsIn K mainGlobals "set" = some none) (z_len : PySem.W.nsIn K mainGlobals "len" = some none) (z_range : PySem.W.nsIn K mainGlobals "range" = some none) (z_sorted : PySem.W.nsIn K mainGlobals "sorted" = some none) (z_any : PySem.W.nsIn K mainGlobals "any" = some none) (z_max : PySem.W.nsIn K mainGlobals "max" = some none) (z_min : PySem.W.nsIn K mainGlobals "min" = some none) (z_ValueError : PySem.W.nsIn K mainGlobals "ValueError" = some none) (z_all : PySem.W.nsIn K mainGlobals "all" = some none) (z_repr : PySem.W.nsIn K mainGlobals "repr" = some none) (g_FEWEST_HOUSES : PySem.W.nsIn K mainGlobals "FEWEST_HOUSES" = some (some (.int 2 t_FEWEST_HOUSES))) (g_MOST_HOUSES : PySem.W.nsIn K mainGlobals "MOST_HOUSES" = some (some (.int 32 t_MOST_HOUSES))) (g_MOST_TIES_OUT : PySem.W.nsIn K mainGlobals "MOST_TIES_OUT" = some (some (.int 8 t_MOST_TIES_OUT))) (g_SMALLEST_RING : PySem.W.nsIn K mainGlobals "SMALLEST_RING" = some (some (.int 3 t_SMALLEST_RING))) (q_outs : PySem.W.codeHdIn K cO Pt = true) :
  ∃ fd : FuncData,(∀ (s : Shared) (v : Value),BindsTo s fd ⟨[v],[]⟩ [("_law_script",v)])∧∀ base : Heap,K.In base→base.Ns mainGlobals mg→BmOk mg base→FnOk l.prog w K mg base CX0 12 fa fd ["_law_script"] (pW K Pt):=by
 obtain ⟨f_law,oc,od,an,sl,kV,dc,pm,cd,ct,a_law,l_law,d_law,k_law⟩:=h_law
 have e:=hfa.symm.trans (PySem.W.mg_of X G a_law)
 cases e
 have F_law:=lY (x := "law") (qual := "law") (st:=sLaw) l_law d_law k_law
 obtain ⟨f_i,oci,odi,ani,sli,kVi,dci,pmi,cdi,cti,a_i,i_i,l_i,d_i,k_i⟩:=m_init
 have F_m_init:=lY (x := "__init__") (qual := "Net.__init__") (st:=pT) l_i d_i k_i
 have b_m_init:=F_m_init.binds (ps:=["self", "many", "ties"]) fun _ _ _ _ _ _ us hl=>match us,hl with | [_,_,_],_=>rfl
 have MK : Mk K C f_i:=⟨mk,a_i,i_i,kc⟩
 have B : Bl mg:=⟨PySem.W.mg_none_of X G z_isinstance,PySem.W.mg_none_of X G z_int,PySem.W.mg_none_of X G z_bool,PySem.W.mg_none_of X G z_tuple,PySem.W.mg_none_of X G z_list,PySem.W.mg_none_of X G z_str,PySem.W.mg_none_of X G z_set,PySem.W.mg_none_of X G z_len,PySem.W.mg_none_of X G z_range,PySem.W.mg_none_of X G z_sorted,PySem.W.mg_none_of X G z_any,PySem.W.mg_none_of X G z_max,PySem.W.mg_none_of X G z_min,PySem.W.mg_none_of X G z_ValueError,PySem.W.mg_none_of X G z_all⟩
 have T : NT K mg C:=⟨⟨pg,q_hd,po,sa⟩,nH,nT,nO,nD,PySem.W.mg_of X G aC⟩
 have B2 : Bl2 mg:=⟨PySem.W.mg_none_of X G z_repr⟩
 refine ⟨PySem.W.fnOf "law" "law" (cL sLaw) (cB sLaw) (aH sLaw) .none kV dc pm an cd ct,fun s v=>.of_eq rfl,fun base kb nb hb=>?_⟩
 have C_whole : Cal l.prog w K mg base CX0 1 "is_whole" ["thing"] (nS K):=FD.cal X G h_whole (fun _ _ _ _ _ _ us hl=>match us,hl with | [_],_=>rfl) fun F_whole=>aAn F_whole B
 have C_within : Cal l.prog w K mg base CX0 2 "is_whole_within" ["thing", "least", "most"] (gU K):=FD.cal X G h_within (fun _ _ _ _ _ _ us hl=>match us,hl with | [_,_,_],_=>rfl) fun F_within=>yZ F_within C_whole
 have C_house : Cal l.prog w K mg base CX0 3 "is_house" ["many", "thing"] (iP K):=FD.cal X G h_house (fun _ _ _ _ _ _ us hl=>match us,hl with | [_,_],_=>rfl) fun F_house=>aAp F_house C_within
 have C_row : Cal l.prog w K mg base CX0 1 "is_row" ["thing", "length"] (pR K):=FD.cal X G h_row (fun _ _ _ _ _ _ us hl=>match us,hl with | [_,_],_=>rfl) fun F_row=>aCb F_row B
 have C_unl : Cal l.prog w K mg base CX0 4 "are_unlike_houses" ["many", "one", "other"] wI:=FD.cal X G h_unl (fun _ _ _ _ _ _ us hl=>match us,hl with | [_,_,_],_=>rfl) fun F_unl=>aCc F_unl C_house
 have C_tie : Cal l.prog w K mg base CX0 5 "is_tie" ["many", "thing"] wJ:=FD.cal X G h_tie (fun _ _ _ _ _ _ us hl=>match us,hl with | [_,_],_=>rfl) fun F_tie=>aCd F_tie C_row C_unl
 have C_cties : Cal l.prog w K mg base CX0 6 "check_ties" ["many", "ties"] fZ:=FD.cal X G h_cties (fun _ _ _ _ _ _ us hl=>match us,hl with | [_,_],_=>rfl) fun F_cties=>aAr F_cties B ⟨_,PySem.W.mg_of X G g_FEWEST_HOUSES⟩ ⟨_,PySem.W.mg_of X G g_MOST_HOUSES⟩ C_within C_tie
 have C_bal : Cal l.prog w K mg base CX0 1 "check_balance" ["many", "ties"] fZ:=FD.cal X G h_bal (fun _ _ _ _ _ _ us hl=>match us,hl with | [_,_],_=>rfl) fun F_bal=>aCe F_bal B ⟨_,PySem.W.mg_of X G g_MOST_TIES_OUT⟩
 have C_outs : Cal l.prog w K mg base CX0 1 "houses_out" ["many", "ties", "house"] (mL Pt):=FC.cal X G h_outs (fun _ _ _ _ _ _ us hl=>match us,hl with | [_,_,_],_=>rfl) fun F_outs=>aBy F_outs B kb hb q_outs
 have C_dist : Cal l.prog w K mg base CX0 1 "distances_from" ["out_lists", "start"] mN:=FD.cal X G h_dist (fun _ _ _ _ _ _ us hl=>match us,hl with | [_,_],_=>rfl) fun F_dist=>aBz F_dist B
 have C_reach : Cal l.prog w K mg base CX0 1 "check_reached" ["distances"] nV:=FD.cal X G h_reach (fun _ _ _ _ _ _ us hl=>match us,hl with | [_],_=>rfl) fun F_reach=>aAt F_reach B
 have G_init : FnOk l.prog w K mg base CX0 7 f_i _ ["self", "many", "ties"] (kB C Pt):=aBB F_m_init T B C_cties C_bal C_outs C_dist C_reach
 have M_check : MCal l.prog w K mg base CX0 4 C "check_house" ["self", "thing"] (lL C):=MD.cal m_check (fun _ _ _ _ _ _ us hl=>match us,hl with | [_,_],_=>rfl) fun F_m_check=>zB F_m_check T C_house
 have M_out : MCal l.prog w K mg base CX0 5 C "out" ["self", "house"] (jZ C):=MD.cal m_out (fun _ _ _ _ _ _ us hl=>match us,hl with | [_,_],_=>rfl) fun F_m_out=>aBu F_m_out T B M_check
 have M_many : MCal l.prog w K mg base CX0 1 C "many" ["self"] (iS C):=MD.cal m_many (fun _ _ _ _ _ _ us hl=>match us,hl with | [_],_=>rfl) fun F_m_many=>aBE F_m_many T
 have M_ties : MCal l.prog w K mg base CX0 1 C "ties" ["self"] (kC C):=MD.cal m_ties (fun _ _ _ _ _ _ us hl=>match us,hl with | [_],_=>rfl) fun F_m_ties=>aBF F_m_ties T B
 have M_two : MCal l.prog w K mg base CX0 1 C "is_two_way" ["self"] (pV C):=MD.cal m_two (fun _ _ _ _ _ _ us hl=>match us,hl with | [_],_=>rfl) fun F_m_two=>aCj F_m_two T B
 have C_isTree : Cal l.prog w K mg base CX0 2 "is_tree" ["net"] (spOf C rTr):=FD.cal X G h_isTree (fun _ _ _ _ _ _ us hl=>match us,hl with | [_],_=>rfl) fun F_isTree=>zP F_isTree T B M_two M_ties M_many
 have C_isPlain : Cal l.prog w K mg base CX0 6 "is_plain_ring" ["net"] (spOf C rPl):=FD.cal X G h_isPlain (fun _ _ _ _ _ _ us hl=>match us,hl with | [_],_=>rfl) fun F_isPlain=>wY F_isPlain T B M_two M_out M_many
 have C_pairsN : Cal l.prog w K mg base CX0 9 "pairs_net" ["many", "pairs"] (jB C Pt):=FD.cal X G h_pairsN (fun _ _ _ _ _ _ us hl=>match us,hl with | [_,_],_=>rfl) fun F_pairsN=>zE F_pairsN B T MK b_m_init G_init C_row
 have C_ringN : Cal l.prog w K mg base CX0 10 "ring_net" ["many"] (rO C Pt):=FD.cal X G h_ringN (fun _ _ _ _ _ _ us hl=>match us,hl with | [_],_=>rfl) fun F_ringN=>aBG F_ringN B ⟨_,PySem.W.mg_of X G g_SMALLEST_RING⟩ ⟨_,PySem.W.mg_of X G g_MOST_HOUSES⟩ C_within C_pairsN
 have C_at : Cal l.prog w K mg base CX0 6 "are_tied" ["net", "one", "other"] (spAT C):=FD.cal X G h_at (fun _ _ _ _ _ _ us hl=>match us,hl with | [_,_,_],_=>rfl) fun F_at=>aCY F_at T C_house M_out M_many
 have C_wo : Cal l.prog w K mg base CX0 9 "without" ["net", "one", "other"] (spWO C Pt):=FD.cal X G h_wo (fun _ _ _ _ _ _ us hl=>match us,hl with | [_,_,_],_=>rfl) fun F_wo=>aCZ F_wo T MK b_m_init G_init C_at M_ties M_many
 have C_pot : Cal l.prog w K mg base CX0 1 "_law_pot" ["_law_script", "_law_k"] (wT K):=FD.cal X G h_pot (fun _ _ _ _ _ _ us hl=>match us,hl with | [_,_],_=>rfl) fun F_pot=>aCm F_pot B
 have C_digit : Cal l.prog w K mg base CX0 1 "_law_digit" ["_law_pot_here", "_law_many"] dH:=FD.cal X G h_digit (fun _ _ _ _ _ _ us hl=>match us,hl with | [_,_],_=>rfl) fun F_digit=>aAz F_digit
 have C_some : Cal l.prog w K mg base CX0 2 "_law_some" ["_law_pot_here", "_law_many", "_law_count"] fO:=FD.cal X G h_some (fun _ _ _ _ _ _ us hl=>match us,hl with | [_,_,_],_=>rfl) fun F_some=>aBL F_some B C_digit
 have C_round : Cal l.prog w K mg base CX0 3 "_law_round" ["_law_pot_here", "_law_many", "_law_ties"] kT:=FD.cal X G h_round (fun _ _ _ _ _ _ us hl=>match us,hl with | [_,_,_],_=>rfl) fun F_round=>aAA F_round B C_digit C_some
 have C_tree : Cal l.prog w K mg base CX0 3 "_law_tree" ["_law_pot_here", "_law_many"] kE:=FD.cal X G h_tree (fun _ _ _ _ _ _ us hl=>match us,hl with | [_,_],_=>rfl) fun F_tree=>aBM F_tree B C_digit C_some
 have C_net : Cal l.prog w K mg base CX0 4 "_law_net" ["_law_pot_here"] wV:=FD.cal X G h_net (fun _ _ _ _ _ _ us hl=>match us,hl with | [_],_=>rfl) fun F_net=>aCo F_net B C_digit C_some C_tree C_round
 have C_ringL : Cal l.prog w K mg base CX0 3 "_law_ring" ["_law_pot_here", "_law_many"] oH:=FD.cal X G h_ringL (fun _ _ _ _ _ _ us hl=>match us,hl with | [_,_],_=>rfl) fun F_ringL=>aAD F_ringL B C_some
 have C_joined : Cal l.prog w K mg base CX0 1 "_law_joined" ["_law_many", "_law_ties"] lN:=FD.cal X G h_joined (fun _ _ _ _ _ _ us hl=>match us,hl with | [_,_],_=>rfl) fun F_joined=>zR F_joined B
 have C_ex : Cal l.prog w K mg base CX0 2 "_law_exchanged" ["_law_pot_here", "_law_ties"] spEx:=FD.cal X G h_ex (fun _ _ _ _ _ _ us hl=>match us,hl with | [_,_],_=>rfl) fun F_ex=>aC1 F_ex B C_digit C_joined
 have C_more : Cal l.prog w K mg base CX0 4 "_law_more" ["_law_pot_here", "_law_step", "_law_many", "_law_ties"] spMo:=FD.cal X G h_more (fun _ _ _ _ _ _ us hl=>match us,hl with | [_,_,_,_],_=>rfl) fun F_more=>aBO F_more B C_some C_round C_ex
 have C_drawn : Cal l.prog w K mg base CX0 5 "_law_drawn" ["_law_pot_here"] spDr:=FD.cal X G h_drawn (fun _ _ _ _ _ _ us hl=>match us,hl with | [_],_=>rfl) fun F_drawn=>aAF F_drawn B C_digit C_some C_tree C_ringL C_net C_more
 have C_kinds : Cal l.prog w K mg base CX0 1 "_law_kinds" ["_law_many", "_law_ties"] kU:=FD.cal X G h_kinds (fun _ _ _ _ _ _ us hl=>match us,hl with | [_,_],_=>rfl) fun F_kinds=>aAC F_kinds B
 have C_told : Cal l.prog w K mg base CX0 7 "_law_told" ["_law_net_here"] (kF C):=FD.cal X G h_told (fun _ _ _ _ _ _ us hl=>match us,hl with | [_],_=>rfl) fun F_told=>aBN F_told C_isTree C_isPlain
 have C_is : Cal l.prog w K mg base CX0 1 "_law_is" ["_law_found", "_law_due"] spIs:=FD.cal X G h_is (fun _ _ _ _ _ _ us hl=>match us,hl with | [_,_],_=>rfl) fun F_is=>aCX F_is B2
 have C_rl : Cal l.prog w K mg base CX0 11 "_law_ring_less" ["_law_pot_here"] (iT Pt):=FD.cal X G h_rl (fun _ _ _ _ _ _ us hl=>match us,hl with | [_],_=>rfl) fun F_rl=>aC2 F_rl C_digit C_ringN C_wo C_told C_is
 have C_tm : Cal l.prog w K mg base CX0 10 "_law_tree_more" ["_law_pot_here"] (iT Pt):=FD.cal X G h_tm (fun _ _ _ _ _ _ us hl=>match us,hl with | [_],_=>rfl) fun F_tm=>aC3 F_tm B C_digit C_tree C_pairsN C_told C_is C_kinds
 exact aCt F_law B T MK b_m_init G_init C_pot C_drawn C_kinds C_told C_is C_rl C_tm M_ties
theorem aC4 {K : PySem.W.Frag} {P : Addr} (h : ((List.range 2000).any fun c=>PySem.W.codeHdIn K c P) = true) : ∃ c,PySem.W.codeHdIn K c P = true :=
 let ⟨c,_,e⟩:=List.any_eq_true.mp h; ⟨c,e⟩
theorem aCv {K : PySem.W.Frag} {H : Hp} {a : Addr} {xs : List V} {ts : List Addr} (hO : pQ ts H) (h : SqL K H a xs) : SqF K H a xs:=by
 rcases h with h | h
 ·rcases h with h | ⟨o,h⟩
  ·rcases hO.2 a with z | ⟨_,z⟩ | ⟨o,ys,z⟩ <;> · rw [h] at z; cases z
  ·exact .inl ⟨o,h⟩
 ·exact .inr fun H'=>.inr h
theorem walk {l : PySem.W.OpenLaw} {q : Program} {loose : List Str} {XP : (Str→Option Value)→Heap→Prop} {YP : World→Heap→Prop} {d : DefRec} {K : Params→PySem.W.Frag} {Pt : Addr} (hn : l.most = some 63) (hdf : d.params.defaults = [])
  (hY : ∀ (w : World) (h : Heap),YP w h→(K w.params).In h) (hT : ∀ (w : World) (h : Heap),YP w h→∀ P∈[Pt],h.get? P = some (PySem.W.tabObj #[]))
  (hcd : ∀ (w : World),((List.range 2000).any fun c=>PySem.W.codeHdIn (K w.params) c Pt) = true) (hkt : ∀ (w : World),(K w.params).lookup Pt = none)
  (F : ∀ (w : World) (mg : Str→Option Value) (fa : Addr) (h : Heap),(K w.params).In h→h.Ns mainGlobals mg→mg d.name = some (.ref fa) →
   ∃ fd : FuncData,(∀ (s : Shared) (u : Value),BindsTo s fd ⟨[u],[]⟩ [("_law_script",u)])∧∀ base : Heap,(K w.params).In base→base.Ns mainGlobals mg→BmOk mg base→FnOk l.prog w (K w.params) mg base CX0 12 fa fd ["_law_script"] (pW (K w.params) Pt)) :
  PySem.W.WalkO q loose XP YP l.row.toRowW d [] (fun f vs=>PySem.call f vs) :=
 aAh (n:=63) (k:=12) (x := "_law_script") (ts:=[Pt]) (K:=K) (CX:=fun _=>CX0) (sp:=fun w=>(pW (K w.params) Pt)) hn (by decide) hdf ⟨rfl,by decide,by decide,rfl⟩ hY hT
  (fun w P hP=>by rw [List.mem_singleton.mp hP]; exact aC4 (hcd w)) (fun w P hP=>by rw [List.mem_singleton.mp hP]; exact hkt w) F
  (fun w H a ns hl hO hS=>⟨a,ns,rfl,aCv hO hS,hl,.inl (hO.1 _ (by simp)),fun _=>rfl⟩) fun _ _ _ _ _ z=>z
end K12
open PySem PySem.W PyProof.Rows
namespace PySem.W.Fast
theorem tw10566809535007329736:True:=⟨⟩
theorem tw1878682833496718387:True:=⟨⟩
theorem tw2799888148367775097:True:=⟨⟩
theorem tw7063633494356994789:True:=⟨⟩
theorem tw1341083873846177659:True:=⟨⟩
theorem tw17272353458046961312:True:=⟨⟩
theorem tw10129729474746358730:True:=⟨⟩
theorem tw14276319256022619650:True:=⟨⟩
theorem tw10800538401049536358:True:=⟨⟩
theorem tw14965133583850167254:True:=⟨⟩
theorem tw16575153246641971929:True:=⟨⟩
theorem tw18029149847372975991:True:=⟨⟩
theorem tw9962708442342875108:True:=⟨⟩
theorem tw6454035490431091349:True:=⟨⟩
theorem tw4914966199726811043:True:=⟨⟩
theorem tw4772106263870722627:True:=⟨⟩
theorem tw7670797647657059999:True:=⟨⟩
theorem tw6935903509672669321:True:=⟨⟩
theorem tw599584239747545285:True:=⟨⟩
theorem tw4109524675361714196:True:=⟨⟩
theorem tw9073828304242909052:True:=⟨⟩
theorem tw5274798133269915363:True:=⟨⟩
theorem tw47876827162860865:True:=⟨⟩
theorem tw3469503053212213131:True:=⟨⟩
theorem tw15096716032359781909:True:=⟨⟩
theorem tw7080440100438552680:True:=⟨⟩
theorem tw5506581051848476521:True:=⟨⟩
theorem tw10064198757661207558:True:=⟨⟩
theorem tw18252297779855917546:True:=⟨⟩
theorem tw16605835760022940799:True:=⟨⟩
theorem tw3070197242396451067:True:=⟨⟩
theorem tw2557497789151176476:True:=⟨⟩
theorem tw9752501710702587143:True:=⟨⟩
theorem tw8492207908012111678:True:=⟨⟩
theorem tw3671252124142906035:True:=⟨⟩
theorem tw16232129866941731135:True:=⟨⟩
theorem tw5502876902808881955:True:=⟨⟩
theorem tw16977791930486178318:True:=⟨⟩
theorem tw1679631766341831183:True:=⟨⟩
theorem tw8999599846366383633:True:=⟨⟩
theorem tw10941528593125671785:True:=⟨⟩
theorem tw13455244521955015606:True:=⟨⟩
theorem tw14300228434274772240:True:=⟨⟩
theorem tw12743658492482995554:True:=⟨⟩
theorem tw13015009774732176479:True:=⟨⟩
theorem tw6118494027465339955:True:=⟨⟩
theorem tw15058650443592605601:True:=⟨⟩
theorem tw14769632197835050679:True:=⟨⟩
theorem tw2319748214061215922:True:=⟨⟩
theorem tw1996169561362626428:True:=⟨⟩
theorem tw13662580516839734926:True:=⟨⟩
theorem tw5935075448892748525:True:=⟨⟩
theorem tw18128548641905296456:True:=⟨⟩
theorem tw1337638168562723475:True:=⟨⟩
theorem tw11256603401183688815:True:=⟨⟩
theorem tw3705661239144649985:True:=⟨⟩
theorem tw8147255788754311073:True:=⟨⟩
theorem tw5230903591934227245:True:=⟨⟩
theorem tw12094770440181580909:True:=⟨⟩
theorem tw2797048323218434909:True:=⟨⟩
theorem tw15682270790089804056:True:=⟨⟩
theorem tw18039271149427073532:True:=⟨⟩
theorem tw17159416247343117115:True:=⟨⟩
theorem tw17254389551818811749:True:=⟨⟩
theorem tw6932518464413247631:True:=⟨⟩
theorem tw15279824803906866955:True:=⟨⟩
theorem tw3262866659293792861:True:=⟨⟩
theorem tw5766057482993994504:True:=⟨⟩
theorem tw12461907206794789435:True:=⟨⟩
theorem tw16713511751611038913:True:=⟨⟩
theorem tw3372132170695163354:True:=⟨⟩
theorem tw9175469056616601080:True:=⟨⟩
theorem tw5185253755700853437:True:=⟨⟩
theorem tw9444523432015255477:True:=⟨⟩
theorem tw8295308731578658823:True:=⟨⟩
theorem tw17434090505525181558:True:=⟨⟩
theorem tw9125417678273534501:True:=⟨⟩
theorem tw6119555052117182009:True:=⟨⟩
theorem tw3400798892251078893:True:=⟨⟩
theorem tw17651191652660280461:True:=⟨⟩
theorem tw10438698981216314392:True:=⟨⟩
theorem tw1179704056314361135:True:=⟨⟩
theorem tw9701767367767294376:True:=⟨⟩
theorem tw4062390162036078735:True:=⟨⟩
theorem tw13106792732210656826:True:=⟨⟩
theorem tw8682880829477770889:True:=⟨⟩
theorem tw11142319156417707287:True:=⟨⟩
theorem tw4632525231206456103:True:=⟨⟩
theorem tw7943123336170499376:True:=⟨⟩
theorem tw2778795716868716091:True:=⟨⟩
theorem tw10949040940760372493:True:=⟨⟩
theorem tw4316189749447258797:True:=⟨⟩
theorem tw4825636432138611826:True:=⟨⟩
theorem tw17579278272704034652:True:=⟨⟩
theorem tw10550879430157640565:True:=⟨⟩
theorem tw15816657502020590264:True:=⟨⟩
theorem tw412036249489389310:True:=⟨⟩
theorem tw12205627289844308341:True:=⟨⟩
theorem tw5792492137084281296:True:=⟨⟩
theorem tw1729219806443585140:True:=⟨⟩
theorem tw945141502786880758:True:=⟨⟩
theorem tw16285359022140963435:True:=⟨⟩
theorem tw9479076604337060979:True:=⟨⟩
theorem tw15559559622210672069:True:=⟨⟩
theorem tw4150404414592867004:True:=⟨⟩
theorem tw14370125243398708024:True:=⟨⟩
theorem tw17047682658264512570:True:=⟨⟩
theorem tw11910519878199027420:True:=⟨⟩
theorem tw9519834832447801509:True:=⟨⟩
theorem tw9504323340487832077:True:=⟨⟩
theorem tw5039965573807606468:True:=⟨⟩
theorem tw14192842210498369041:True:=⟨⟩
theorem tw13364670403346017947:True:=⟨⟩
theorem tw12443046052281713404:True:=⟨⟩
theorem tw1431379475101759410:True:=⟨⟩
theorem tw1201723508408713769:True:=⟨⟩
theorem tw14703539318240540716:True:=⟨⟩
theorem tw10692972639083223636:True:=⟨⟩
theorem tw17937990648753885024:True:=⟨⟩
theorem tw8997397268877185878:True:=⟨⟩
theorem tw2769072875232142676:True:=⟨⟩
theorem tw13094317318484433214:True:=⟨⟩
theorem tw2124641253408837095:True:=⟨⟩
theorem tw8491953939046062633:True:=⟨⟩
theorem tw14032334168093669821:True:=⟨⟩
theorem tw9225590498023544875:True:=⟨⟩
theorem tw11480432489515420997:True:=⟨⟩
theorem tw8313345457736145552:True:=⟨⟩
theorem tw13288635070748052490:True:=⟨⟩
theorem tw5508714207694923286:True:=⟨⟩
theorem tw3827524208686512990:True:=⟨⟩
theorem tw8284385163664035404:True:=⟨⟩
theorem tw2996946019229821766:True:=⟨⟩
theorem tw7782351798933994058:True:=⟨⟩
theorem tw6806848255149438088:True:=⟨⟩
theorem tw2937671435815981499:True:=⟨⟩
theorem tw4124035268431261104:True:=⟨⟩
theorem tw7507056447466502283:True:=⟨⟩
theorem tw15387880027900477255:True:=⟨⟩
theorem tw9100286491640655541:True:=⟨⟩
theorem tw10319093947568870626:True:=⟨⟩
theorem tw13274223587654851444:True:=⟨⟩
theorem tw5949868195651094963:True:=⟨⟩
theorem tw18346994200273340736:True:=⟨⟩
theorem tw9914452784441197508:True:=⟨⟩
theorem tw8195072155286604217:True:=⟨⟩
theorem tw8319356915770543660:True:=⟨⟩
theorem tw4322149712120575826:True:=⟨⟩
theorem tw8137015449800117153:True:=⟨⟩
theorem tw5388660902465338422:True:=⟨⟩
theorem tw13034356709067229383:True:=⟨⟩
theorem tw14117638255835876853:True:=⟨⟩
theorem tw6342696271313669759:True:=⟨⟩
theorem tw1251624847886351474:True:=⟨⟩
theorem tw4015616680669108042:True:=⟨⟩
theorem tw715212569873516287:True:=⟨⟩
theorem tw10865855680705091068:True:=⟨⟩
theorem tw17781230502853291131:True:=⟨⟩
theorem tw5813718711527407586:True:=⟨⟩
theorem tw11563005167341344809:True:=⟨⟩
theorem tw14228178545842182381:True:=⟨⟩
theorem tw6369697031398281363:True:=⟨⟩
theorem tw12235017455054492658:True:=⟨⟩
theorem tw9100313668803755961:True:=⟨⟩
theorem tw10031574248720472220:True:=⟨⟩
theorem tw16030822590785797966:True:=⟨⟩
theorem tw10160750066865815777:True:=⟨⟩
theorem tw13638844586573838588:True:=⟨⟩
theorem tw2993304168438953050:True:=⟨⟩
theorem tw16071587066975493194:True:=⟨⟩
theorem tw2414634837622355411:True:=⟨⟩
theorem tw10977890113982868166:True:=⟨⟩
theorem tw8341407922069764464:True:=⟨⟩
theorem tw18296914648376298134:True:=⟨⟩
theorem tw15216655021926832787:True:=⟨⟩
theorem tw10566166358825307508:True:=⟨⟩
theorem tw8524188586207694057:True:=⟨⟩
theorem tw2556452620022750884:True:=⟨⟩
theorem tw2807693387585493361:True:=⟨⟩
theorem tw18241327792362776565:True:=⟨⟩
theorem tw13948292680323216854:True:=⟨⟩
theorem tw14891035900933502235:True:=⟨⟩
theorem tw4137228387913840504:True:=⟨⟩
theorem tw7739085090374230731:True:=⟨⟩
theorem tw10005286895179673306:True:=⟨⟩
theorem tw9781997905042629130:True:=⟨⟩
theorem tw11469992056790331026:True:=⟨⟩
theorem tw12562696170639420760:True:=⟨⟩
theorem tw620634757394427538:True:=⟨⟩
theorem tw10478546679000171558:True:=⟨⟩
theorem tw11804629567352119213:True:=⟨⟩
theorem tw12057149749134276906:True:=⟨⟩
theorem tw10694471993020356864:True:=⟨⟩
theorem tw16171940561597576976:True:=⟨⟩
theorem tw14609176671715541864:True:=⟨⟩
theorem tw15660189981437357868:True:=⟨⟩
theorem tw8192330013587458725:True:=⟨⟩
theorem tw11255870274451212923:True:=⟨⟩
theorem tw12779368323005090028:True:=⟨⟩
theorem tw3474435637848476692:True:=⟨⟩
theorem tw11870714355420989311:True:=⟨⟩
theorem tw17183544787607869618:True:=⟨⟩
theorem tw9691156427366694237:True:=⟨⟩
theorem tw11128372281736561004:True:=⟨⟩
theorem tw4469588408272604992:True:=⟨⟩
theorem tw8053577393119535373:True:=⟨⟩
theorem tw12106548786810476882:True:=⟨⟩
theorem tw2122491104480667303:True:=⟨⟩
theorem tw3854495393863766626:True:=⟨⟩
theorem tw10542034159869918136:True:=⟨⟩
theorem tw4947883252863952077:True:=⟨⟩
theorem tw14206116727964760248:True:=⟨⟩
theorem tw2824533597171651636:True:=⟨⟩
theorem tw9041283280434851310:True:=⟨⟩
theorem tw13799763116905971451:True:=⟨⟩
theorem tw15145771054724107126:True:=⟨⟩
theorem tw5363357055616441429:True:=⟨⟩
theorem tw9941896980146439422:True:=⟨⟩
theorem tw11682288411070007796:True:=⟨⟩
theorem tw2770595313917705694:True:=⟨⟩
theorem tw7542313588542092283:True:=⟨⟩
theorem tw11407843660331437589:True:=⟨⟩
theorem tw11544370408174484428:True:=⟨⟩
theorem tw1554767264138604193:True:=⟨⟩
theorem tw16468281851241817910:True:=⟨⟩
theorem tw11177553929941434158:True:=⟨⟩
theorem tw3990111622262461009:True:=⟨⟩
theorem tw8617974521324566377:True:=⟨⟩
theorem tw3051204097353853025:True:=⟨⟩
theorem tw478344529843434933:True:=⟨⟩
theorem tw18298009477073499552:True:=⟨⟩
theorem tw6672412754270432588:True:=⟨⟩
theorem tw5091436822800782678:True:=⟨⟩
theorem tw315873068218906903:True:=⟨⟩
theorem tw4878872998967044034:True:=⟨⟩
theorem tw12015909506439059695:True:=⟨⟩
theorem tw5016554318425902491:True:=⟨⟩
theorem tw5513033769426068155:True:=⟨⟩
theorem tw12631472064418549069:True:=⟨⟩
theorem tw7159867019303741611:True:=⟨⟩
theorem tw2771505674221428868:True:=⟨⟩
theorem tw12071155583802212086:True:=⟨⟩
theorem tw4603427762382879021:True:=⟨⟩
theorem tw1386523597520017697:True:=⟨⟩
theorem tw4343115366614272728:True:=⟨⟩
theorem tw1631543739030462721:True:=⟨⟩
theorem tw13159575938474311081:True:=⟨⟩
theorem tw3959744399075125420:True:=⟨⟩
theorem tw779296158937048502:True:=⟨⟩
theorem tw3778324056177417190:True:=⟨⟩
theorem tw12667256011629679634:True:=⟨⟩
theorem tw2138770351282966127:True:=⟨⟩
theorem tw14202794557709789243:True:=⟨⟩
theorem tw17220102785419609076:True:=⟨⟩
theorem tw11556083984931546068:True:=⟨⟩
theorem tw16478158876051195612:True:=⟨⟩
theorem tw5376532727971516046:True:=⟨⟩
theorem tw13881734879953862092:True:=⟨⟩
theorem tw6121289586511308110:True:=⟨⟩
theorem tw4100408013981838504:True:=⟨⟩
theorem tw9984019484684628359:True:=⟨⟩
theorem tw14362937243548995098:True:=⟨⟩
theorem tw15754025949527951768:True:=⟨⟩
theorem tw2731275883940018625:True:=⟨⟩
theorem tw2463146124821361736:True:=⟨⟩
theorem tw1104828851412041235:True:=⟨⟩
theorem tw1025729412025686213:True:=⟨⟩
theorem tw13209928722732753245:True:=⟨⟩
theorem tw12201920376525562879:True:=⟨⟩
theorem tw9537823589402978721:True:=⟨⟩
theorem tw15560927419174112556:True:=⟨⟩
theorem tw18193661556859541644:True:=⟨⟩
theorem tw8342273772614092362:True:=⟨⟩
theorem tw16291214836346580216:True:=⟨⟩
theorem tw14597469324141585124:True:=⟨⟩
theorem tw8332467395482663496:True:=⟨⟩
theorem tw10904831882527563051:True:=⟨⟩
theorem tw13131005397364578399:True:=⟨⟩
theorem tw15316418515337343459:True:=⟨⟩
theorem tw3611735692179151915:True:=⟨⟩
theorem tw6864092157842808724:True:=⟨⟩
theorem tw14334398843196390904:True:=⟨⟩
theorem tw3913713786238314540:True:=⟨⟩
theorem tw17993912774873503424:True:=⟨⟩
theorem tw15786769774703593409:True:=⟨⟩
theorem tw11291492719021084320:True:=⟨⟩
theorem tw10972277965376722302:True:=⟨⟩
theorem tw6269348227619751841:True:=⟨⟩
theorem tw12155990224764866032:True:=⟨⟩
theorem tw18018021938000445713:True:=⟨⟩
theorem tw9046815016183252444:True:=⟨⟩
theorem tw6542883239808072692:True:=⟨⟩
theorem tw17869588291817676750:True:=⟨⟩
theorem tw17238118698346800155:True:=⟨⟩
theorem tw13781623486425550621:True:=⟨⟩
theorem tw9955828719148197919:True:=⟨⟩
theorem tw9898686586476972433:True:=⟨⟩
theorem tw18210969576642778299:True:=⟨⟩
theorem tw5422395375921037229:True:=⟨⟩
theorem tw3740406763593451525:True:=⟨⟩
theorem tw714721415182468619:True:=⟨⟩
theorem tw16971260757505258552:True:=⟨⟩
theorem tw11273963834311979730:True:=⟨⟩
theorem tw17682978115018185188:True:=⟨⟩
theorem tw7171815457003187428:True:=⟨⟩
theorem tw11402405736151403265:True:=⟨⟩
theorem tw1890824015885424956:True:=⟨⟩
theorem tw10280236182421950822:True:=⟨⟩
theorem tw3301329294532379733:True:=⟨⟩
theorem tw9530674503573711391:True:=⟨⟩
theorem tw9949253648621803896:True:=⟨⟩
theorem tw12202540009491611580:True:=⟨⟩
theorem tw6704193839330508054:True:=⟨⟩
theorem tw5650762628086649164:True:=⟨⟩
theorem tw7334262189353461236:True:=⟨⟩
theorem tw4524253919818590189:True:=⟨⟩
theorem tw3083700361899076845:True:=⟨⟩
theorem tw15285293247103162893:True:=⟨⟩
theorem tw88548758994283626:True:=⟨⟩
theorem tw10366370903315077755:True:=⟨⟩
theorem tw12885271135848721697:True:=⟨⟩
theorem tw6854221933304480325:True:=⟨⟩
theorem tw12757378711048698616:True:=⟨⟩
theorem tw4058440268438421766:True:=⟨⟩
theorem tw6475893203390553215:True:=⟨⟩
theorem tw6442555502314252324:True:=⟨⟩
theorem tw2859235919344431061:True:=⟨⟩
theorem tw10683104968710120846:True:=⟨⟩
theorem tw505312721774006855:True:=⟨⟩
theorem tw2068344580077427061:True:=⟨⟩
theorem tw14855439998586720926:True:=⟨⟩
theorem tw9994492027605782820:True:=⟨⟩
theorem tw3425767016577230565:True:=⟨⟩
theorem tw18430469037947543184:True:=⟨⟩
theorem tw7747378014580720807:True:=⟨⟩
theorem tw6196691923929860603:True:=⟨⟩
theorem tw3928368703380707696:True:=⟨⟩
theorem tw326734637536428309:True:=⟨⟩
end PySem.W.Fast
set_option maxRecDepth 100000 in
set_option maxHeartbeats 0 in
theorem PySem.Challenge.cw_neverwait_k16_trees_and_plain_rings_holds : PySem.Challenge.rw_neverwait_k16_trees_and_plain_rings.Holds := by
 w_on; o_law; k_head; (case hw=>w_witness2)
 k_fill
 refine K12.walk (l:=PySem.Challenge.rw_neverwait_k16_trees_and_plain_rings) (Pt:=_) rfl rfl (fun w h Y=>PySem.W.km_in_of Y) (fun w h Y=>PySem.W.km_tabs_of Y) ?cd ?kt ?F
 case F =>
  intro w mg fa h KX G hmg
  refine' K12.aCu (Pt:=_) KX G hmg ?_ ?_ ?_ ?_ ?_ ?_ ?_ ?_ ?_ ?_ ?_ ?_ ?_ ?_ ?_ ?_ ?_ ?_ ?_ ?_ ?_ ?_ ?_ ?_ ?_ ?_ ?_ ?_ ?_ ?_ ?_ ?_ ?_ ?_ ?_ ?_ ?_ ?_ ?_ ?_ ?_ ?_ ?_ ?_ ?_ ?_ ?_ ?_ ?_ ?_ ?_ ?_ ?_ ?_ ?_ ?_ ?_ ?_ ?_ ?_ ?_ ?_ ?_ ?_ ?_ ?_ ?_ ?_ ?_ ?_ ?_ ?_
  all_goals first
   | (refine' K12.FD.mk ?a ?l ?d ?k; (case a=>k_is); (case l=>k_is); (case d=>k_is); (case k=>k_is))
   | (refine' K12.FC.mk ?a ?l ?d ?k; (case a=>k_is); (case l=>k_is); (case d=>k_is); (case k=>k_is))
   | (refine' K12.MD.mk ?a ?i ?l ?d ?k; (case a=>k_is); (case i=>k_is); (case l=>k_is); (case d=>k_is); (case k=>k_is))
   | k_is
   | kernel_rfl
   | exact ⟨by kernel_rfl,by k_is,by k_is,by k_is,by k_is,by k_is,by k_is,by kernel_rfl⟩
   | skip
 case kt=>intro w; kernel_rfl
 case cd=>intro w; kernel_rfl
