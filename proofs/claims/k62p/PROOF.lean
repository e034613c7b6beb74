import PyProof.Rows.All
import Wide.All
import OpenK.AllK
import Wide.FinOn
import Lean
import PyProof.EqAt
import PyProof.EqKinds
import PyProof.TupleCall
import PySem.Challenge.RW_neverwait_k62_straight_judged
set_option Elab.async false
set_option linter.all false
set_option maxRecDepth 100000
set_option maxHeartbeats 8000000
namespace L2
open PySem PySem.Spec PyProof.Rows
abbrev Key:=Sum Int Str
def lZ : Key→Value→Bool
 | .inl k,v=>Value.isInt k v
 | .inr x,v=>Value.isStrOf x v
def keyH (w : World) : Key→Int
 | .inl k=>hashInt k
 | .inr x=>hashStr w x
theorem cR : ∀ {k : Key} {v : Value},lZ k v = true→(∃ i t,k = Sum.inl i∧v = Value.int i t)∨(∃ x t,k = Sum.inr x∧v = Value.str x t)
 | .inl i,v,h=>by
  obtain ⟨t,e⟩:=Value.isInt_shape (k:=i) (v:=v) h
  exact .inl ⟨i,t,rfl,e⟩
 | .inr x,v,h=>by
  obtain ⟨t,e⟩:=Value.isStrOf_shape (x:=x) (v:=v) h
  exact .inr ⟨x,t,rfl,e⟩
theorem yB (i : Int) (t : Tok) : lZ (.inl i) (.int i t) = true:=by simp [lZ,Value.isInt]
theorem yC (x : Str) (t : Tok) : lZ (.inr x) (.str x t) = true:=by simp [lZ,Value.isStrOf]
theorem aCL (a b : Int) : decide ((Sum.inl a : Key) = Sum.inl b) = (a == b):=by
 by_cases e : a = b
 ·subst e; simp
 ·have h : ¬ (Sum.inl a : Key) = Sum.inl b:=fun q=>e (Sum.inl.inj q)
  rw [decide_eq_false h]
  exact (beq_eq_false_iff_ne.mpr e).symm
theorem aCM (a b : Str) : decide ((Sum.inr a : Key) = Sum.inr b) = decide (a = b):=by
 by_cases e : a = b
 ·subst e; simp
 ·have h : ¬ (Sum.inr a : Key) = Sum.inr b:=fun q=>e (Sum.inr.inj q)
  rw [decide_eq_false h,decide_eq_false e]
theorem aCN (a : Int) (b : Str) : decide ((Sum.inl a : Key) = Sum.inr b) = false:=decide_eq_false (fun q=>nomatch q)
theorem aCO (a : Str) (b : Int) : decide ((Sum.inr a : Key) = Sum.inl b) = false:=decide_eq_false (fun q=>nomatch q)
def bK (prog : Program) (w : World) : PySem.KeyKind prog w Key where
 is:=lZ
 hash:=keyH w
 inj:=fun v a b ha hb=>by
  rcases cR ha with ⟨i,t,rfl,rfl⟩ | ⟨x,t,rfl,rfl⟩
  ·rcases cR hb with ⟨j,u,rfl,e⟩ | ⟨y,u,rfl,e⟩
   ·injection e with e1 _; rw [e1]
   ·exact nomatch e
  ·rcases cR hb with ⟨j,u,rfl,e⟩ | ⟨y,u,rfl,e⟩
   ·exact nomatch e
   ·injection e with e1 _; rw [e1]
 byValue:=fun k v h=>by
  rcases cR h with ⟨i,t,rfl,rfl⟩ | ⟨x,t,rfl,rfl⟩ <;> rfl
 pyHash:=fun hv h=>by
  rcases cR hv with ⟨i,t,rfl,rfl⟩ | ⟨x,t,rfl,rfl⟩
  ·exact wpAny_pyHash_int h
  ·exact wpAny_pyHash_str h
 eqBool:=fun hu hv h=>by
  rcases cR hu with ⟨i,t,rfl,rfl⟩ | ⟨x,t,rfl,rfl⟩
  ·rcases cR hv with ⟨j,u,rfl,rfl⟩ | ⟨y,u,rfl,rfl⟩
   ·rw [aCL] at h; exact wpAny_eqBool_int h
   ·rw [aCN] at h; exact SeqAt.EqAt.int_str i t y u _ _ _ _ h
  ·rcases cR hv with ⟨j,u,rfl,rfl⟩ | ⟨y,u,rfl,rfl⟩
   ·rw [aCO] at h; exact SeqAt.EqAt.str_int x t j u _ _ _ _ h
   ·rw [aCM] at h; exact wpAny_eqBool_str h
 «strs»:=fun k x t v h=>by
  rcases cR h with ⟨i,u,rfl,e⟩ | ⟨y,u,rfl,e⟩
  ·exact nomatch e
  ·injection e with e1 _
   subst e1
   cases v <;> rfl
theorem uN (prog : Program) (w : World) (i : Int) (t : Tok) : (bK prog w).is (.inl i) (.int i t) = true:=yB i t
theorem uO (prog : Program) (w : World) (x : Str) (t : Tok) : (bK prog w).is (.inr x) (.str x t) = true:=yC x t
end L2
namespace L2
open PySem PySem.Spec PyProof.Rows
inductive V where
 | non | bl (b : Bool) | int (i : Int) | str (x : Str) | byt (b : Array UInt8) | flt (b : UInt64) | ref (a : Addr) | ty (n : String)
 deriving DecidableEq
def RelV : V→Value→Prop
 | .non,u=>u = Value.none
 | .bl b,u=>u = Value.bool b
 | .int i,u=>∃ t,u = Value.int i t
 | .str x,u=>∃ t,u = Value.str x t
 | .byt b,u=>∃ t,u = Value.bytes b t
 | .flt b,u=>∃ t,u = Value.float b t
 | .ref a,u=>u = Value.ref a
 | .ty n,u=>u = Value.type n
abbrev Vals : List V→List Value→Prop:=Paired RelV
theorem Vals.length {xs : List V} {us : List Value} (r : Vals xs us) : xs.length = us.length:=Paired.length r
theorem Vals.get : ∀ {xs : List V} {us : List Value} {i : Nat} {x : V},Vals xs us→xs[i]? = some x→∃ u,us[i]? = some u∧RelV x u
 | _,_,_,_,.nil,e=>by simp at e
 | _,_,0,_,.cons r _,e=>by simp at e; subst e; exact ⟨_,rfl,r⟩
 | _,_,i + 1,x,.cons _ t,e=>by
  obtain ⟨u,h1,h2⟩:=Vals.get (i:=i) (x:=x) t (by simpa using e)
  exact ⟨u,by simpa using h1,h2⟩
theorem Vals.set {x : V} {u : Value} (r : RelV x u) : ∀ {xs : List V} {us : List Value} (i : Nat),Vals xs us→Vals (xs.set i x) (us.set i u)
 | _,_,_,.nil=>.nil
 | _,_,0,.cons _ t=>.cons r t
 | _,_,i + 1,.cons q t=>.cons q (Vals.set r i t)
theorem Vals.append : ∀ {xs ys : List V} {us ws : List Value},Vals xs us→Vals ys ws→Vals (xs ++ ys) (us ++ ws)
 | _,_,_,_,.nil,s=>s
 | _,_,_,_,.cons r t,s=>.cons r (Vals.append t s)
theorem Vals.take : ∀ {xs : List V} {us : List Value} (n : Nat),Vals xs us→Vals (xs.take n) (us.take n)
 | _,_,0,_=>.nil
 | _,_,_ + 1,.nil=>.nil
 | _,_,n + 1,.cons r t=>.cons r (Vals.take n t)
theorem Vals.drop : ∀ {xs : List V} {us : List Value} (n : Nat),Vals xs us→Vals (xs.drop n) (us.drop n)
 | _,_,0,r=>r
 | _,_,_ + 1,.nil=>.nil
 | _,_,n + 1,.cons _ t=>Vals.drop n t
def RelO : Option V→Option Value→Prop
 | some v,some u=>RelV v u
 | none,none=>True
 | _,_=>False
def KV {κ : Type} : List (κ × V)→List (κ × Value)→Prop:=Paired fun (p : κ × V) (q : κ × Value)=>p.1 = q.1∧RelV p.2 q.2
def kV : Key→V
 | .inl i=>.int i
 | .inr x=>.str x
inductive HO where
 | lst (xs : List V)
 | tup (xs : List V)
 | dK (kvs : List (Key × V)) | dT (kvs : List (List Key × V))
 | set (S : Int→Bool) (n : Nat)
 | ins (C dx : Addr) (fs : List (Str × V))
 | own (x : Addr)
 | xd (fs : List (Str × V))
 | met (f x : Addr)
 | rng (lo hi : Int)
 | frz (o : Obj) (u : HO)
 | tbl (ps : Array Value)
 | ext (φ : Heap→Prop)
abbrev Hp:=Addr→Option HO
def upd (H : Hp) (a : Addr) (o : HO) : Hp:=fun b=>if b = a then some o else H b
theorem aB {H : Hp} {a : Addr} {o : HO} : upd H a o a = some o:=by unfold upd; rw [if_pos rfl]
theorem aD {H : Hp} {a b : Addr} {o : HO} (h : b ≠ a) : upd H a o b = H b:=by unfold upd; rw [if_neg h]
theorem dR {H : Hp} {a : Addr} {o u : HO} : upd (upd H a o) a u = upd H a u:=by
 funext b; unfold upd; split <;> rfl
theorem bO {H : Hp} {a b : Addr} {o u : HO} (h : H a = some o) (h' : H b = some u) (d : o ≠ u) : a ≠ b:=by
 intro e; subst e; rw [h] at h'; exact d (Option.some.inj h')
theorem aF {H : Hp} {a b : Addr} {o : HO} (h : H a = some o) (h' : H b = none) : a ≠ b:=by
 intro e; subst e; rw [h] at h'; cases h'
section
variable (P : Program) (w : World)
def bH (H : Hp) (h : Heap) (a : Addr) : HO→Prop
 | .lst xs=>xs.length ≤ sizeLine∧∃ (its : List Value) (n : Nat),Vals xs its∧h.get? a = some { cls:=.type "list",data:=.seq its.toArray n }
 | .tup xs=>xs.length ≤ sizeLine∧∃ its : List Value,Vals xs its∧IsTup h a its.toArray
 | .dK kvs=>kvs.length ≤ sizeLine∧(a == sysModules) = false∧∃ vs,KV kvs vs∧h.DictOf (bK P w) a vs
 | .dT kvs=>kvs.length ≤ sizeLine∧(a == sysModules) = false∧∃ xs : List (List Key × Addr × Value),
   Paired (fun (p : List Key × V) (q : List Key × Addr × Value)=>p.1 = q.1∧H q.2.1 = some (.tup (p.1.map kV))∧RelV p.2 q.2.2) kvs xs ∧
   ∃ o es ep,h.get? a = some o∧o.ExactDict∧o.data = .dict es ep∧es.toList = xs.map (entryOfKey (tupleKind (bK P w)))∧(xs.map (·.1)).Nodup
 | .set S n=>h.SetOf (intKind P w) a S n
 | .ins C dx fs=>H dx = some (.own a)∧fs.length ≤ 1000∧dx ≠ a∧h.get? a = some (PySem.W.instObj C dx) ∧
   ∃ mA,h.Ns1 dx mA∧(∀ f,RelO (fs.lookup f) (mA f))∧PySem.Within mA (fs.map (·.1))
 | .own _=>∃ o,h.get? a = some o
 | .xd fs=>∃ mA,h.Ns1 a mA∧∀ f,RelO (fs.lookup f) (mA f)
 | .rng lo hi=>∃ t u v,h.get? a = some { cls:=.type "range",data:=.fields #[.int lo t,.int hi u,.int 1 v] }
 | .frz o u=>h.get? a = some o∧bH H h a u
 | .tbl ps=>h.get? a = some { cls:=.none,data:=.fields ps }
 | .met f x=>h.get? a = some (PySem.W.methodObj (.ref f) (.ref x))
 | .ext φ=>φ h∧(∃ o,h.get? a = some o)∧∀ h1 h2 : Heap,φ h1→(∀ o,h1.get? a = some o→h2.get? a = some o)→φ h2
def HOk (H : Hp) (h : Heap) : Prop:=∀ a o,H a = some o→bH P w H h a o
end
section
variable {P : Program} {w : World} {H H' : Hp} {h h' : Heap} {a : Addr} {o : HO}
theorem bH.lt (x : bH P w H h a o) : a < h.objs.size:=by
 cases o with
 | lst xs=>obtain ⟨_,_,_,_,e⟩:=x; exact Heap.lt_size e
 | tup xs=>obtain ⟨_,_,_,p⟩:=x; exact p.lt
 | dK kvs=>obtain ⟨_,_,_,_,o,_,_,e,_⟩:=x; exact Heap.lt_size e
 | dT kvs=>obtain ⟨_,_,_,_,o,_,_,e,_⟩:=x; exact Heap.lt_size e
 | set S n=>obtain ⟨o,_,_,_,e,_⟩:=x; exact Heap.lt_size e
 | ins C dx fs=>obtain ⟨_,_,_,e,_⟩:=x; exact Heap.lt_size e
 | own y=>obtain ⟨_,e⟩:=x; exact Heap.lt_size e
 | xd fs=>obtain ⟨_,⟨_,_,_,e,_⟩,_⟩:=x; exact Heap.lt_size e
 | rng lo hi=>obtain ⟨_,_,_,e⟩:=x; exact Heap.lt_size e
 | frz ob u=>obtain ⟨e,_⟩:=x; exact Heap.lt_size e
 | tbl ps=>exact Heap.lt_size (show h.get? a = some _ from x)
 | met f y=>exact Heap.lt_size (show h.get? a = some _ from x)
 | ext φ=>obtain ⟨_,⟨_,e⟩,_⟩:=x; exact Heap.lt_size e
theorem Paired.mapP {α β : Type} {F G : α→β→Prop} : ∀ {l₁ : List α} {l₂ : List β},Paired F l₁ l₂→(∀ a b,F a b→G a b)→Paired G l₁ l₂
 | _,_,.nil,_=>.nil
 | _,_,.cons r t,f=>.cons (f _ _ r) (Paired.mapP t f)
theorem bH.stay (x : bH P w H h a o) (k : ∀ b u,(b = a∨H b = some (.own a))→h.get? b = some u→h'.get? b = some u)
  (ho : ∀ b,H b = some (.own a)→H' b = some (.own a)) (ht : ∀ b xs,H b = some (.tup xs)→H' b = some (.tup xs)) : bH P w H' h' a o:=by
 induction o with
 | lst xs=>obtain ⟨z,its,n,r,e⟩:=x; exact ⟨z,its,n,r,k _ _ (.inl rfl) e⟩
 | tup xs=>obtain ⟨z,its,r,ob,e,c⟩:=x; exact ⟨z,its,r,ob,k _ _ (.inl rfl) e,c⟩
 | dK kvs=>obtain ⟨z,y,vs,r,ob,es,ep,e,c⟩:=x; exact ⟨z,y,vs,r,ob,es,ep,k _ _ (.inl rfl) e,c⟩
 | dT kvs =>
  obtain ⟨z,y,xs,r,ob,es,ep,e,c⟩:=x
  exact ⟨z,y,xs,Paired.mapP r fun p q z=>⟨z.1,ht _ _ z.2.1,z.2.2⟩,ob,es,ep,k _ _ (.inl rfl) e,c⟩
 | set S n=>obtain ⟨ob,es,ep,t,e,c⟩:=x; exact ⟨ob,es,ep,t,k _ _ (.inl rfl) e,c⟩
 | ins C dx fs =>
  obtain ⟨d,z,ne,e,mA,⟨od,es,ep,e2,c⟩,r⟩:=x
  exact ⟨ho _ d,z,ne,k _ _ (.inl rfl) e,mA,⟨od,es,ep,k _ _ (.inr d) e2,c⟩,r⟩
 | own y=>obtain ⟨ob,e⟩:=x; exact ⟨ob,k _ _ (.inl rfl) e⟩
 | xd fs=>obtain ⟨mA,⟨od,es,ep,e,c⟩,r⟩:=x; exact ⟨mA,⟨od,es,ep,k _ _ (.inl rfl) e,c⟩,r⟩
 | rng lo hi=>obtain ⟨t,u,v,e⟩:=x; exact ⟨t,u,v,k _ _ (.inl rfl) e⟩
 | frz ob u ih=>obtain ⟨e,q⟩:=x; exact ⟨k _ _ (.inl rfl) e,ih q⟩
 | tbl ps =>
  have e : h.get? a = some { cls:=.none,data:=.fields ps }:=x
  show h'.get? a = some { cls:=.none,data:=.fields ps }
  exact k a _ (.inl rfl) e
 | met f y =>
  have e : h.get? a = some (PySem.W.methodObj (.ref f) (.ref y)):=x
  show h'.get? a = some (PySem.W.methodObj (.ref f) (.ref y))
  exact k a _ (.inl rfl) e
 | ext φ=>obtain ⟨p,⟨o,e⟩,st⟩:=x; exact ⟨st _ _ p fun o q=>k _ _ (.inl rfl) q,⟨o,k _ _ (.inl rfl) e⟩,st⟩
theorem HOk.lt (x : HOk P w H h) (e : H a = some o) : a < h.objs.size:=(x a o e).lt
theorem HOk.fresh (x : HOk P w H h) (e : h.objs.size ≤ a) : H a = none:=by
 cases q : H a with
 | none=>rfl
 | some u=>exact absurd (Nat.lt_of_lt_of_le (x.lt q) e) (Nat.lt_irrefl _)
theorem HOk.kept (x : HOk P w H h) (k : ∀ b u,h.get? b = some u→h'.get? b = some u) : HOk P w H h':=fun a o e =>
 (x a o e).stay (fun b u _ q=>k b u q) (fun _ q=>q) fun _ _ q=>q
theorem HOk.laid (x : HOk P w H h) (k : ∀ b u,h.get? b = some u→h'.get? b = some u) (hp : h.objs.size ≤ a) (new : bH P w (upd H a o) h' a o) : HOk P w (upd H a o) h':=fun b u e=>by
 have hn:=x.fresh hp
 by_cases hb : b = a
 ·subst hb; rw [aB] at e; cases e; exact new
 ·rw [aD hb] at e
  exact (x b u e).stay (fun c v _ q=>k c v q) (fun c q=>by rw [aD (aF q hn)]; exact q) fun c xs q=>by rw [aD (aF q hn)]; exact q
end
def Rd (H : Hp) (a : Addr) (u : HO) : Prop:=H a = some u∨∃ o,H a = some (.frz o u)
theorem Rd.ok {P : Program} {w : World} {H : Hp} {h : Heap} {a : Addr} {u : HO} (r : Rd H a u) (x : HOk P w H h) : bH P w H h a u:=by
 rcases r with r | ⟨o,r⟩
 ·exact x a u r
 ·obtain ⟨_,q⟩:=x a _ r
  exact q
def Mut : Option HO→Prop
 | some (.lst _)=>True
 | some (.dK _)=>True
 | some (.dT _)=>True
 | some (.set _ _)=>True
 | some (.ins _ _ _)=>True
 | some (.ext _)=>True
 | _=>False
section
variable {P : Program} {w : World} {H : Hp} {h h' : Heap} {x e : Addr} {o' : HO}
theorem HOk.write (ok : HOk P w H h) (mu : Mut (H x)) (he : e = x∨H e = some (.own x)) (k : ∀ b u,b ≠ e→h.get? b = some u→h'.get? b = some u) (heo : ∃ u,h'.get? e = some u)
  (new : bH P w (upd H x o') h' x o') : HOk P w (upd H x o') h':=fun b u q=>by
 have nown : ∀ c y,H c = some (.own y)→c ≠ x:=fun c y r z=>by subst z; rw [r] at mu; exact mu
 have ntup : ∀ c xs,H c = some (.tup xs)→c ≠ x:=fun c xs r z=>by subst z; rw [r] at mu; exact mu
 by_cases hb : b = x
 ·subst hb; rw [aB] at q; cases q; exact new
 ·rw [aD hb] at q
  by_cases hbe : b = e
  ·have q' : H b = some (.own x):=by
    rcases he with z | z
    ·exact absurd (hbe.trans z) hb
    ·rw [hbe]; exact z
   rw [q] at q'; cases q'
   obtain ⟨v,hv⟩:=heo
   exact ⟨v,by rw [hbe]; exact hv⟩
  ·refine (ok b u q).stay (fun c v hc r=>k c v ?_ r) (fun c r=>by rw [aD (nown c b r)]; exact r) fun c xs r=>by rw [aD (ntup c xs r)]; exact r
   rcases hc with rfl | hc
   ·exact hbe
   ·rintro rfl
    rcases he with z | z
    ·exact nown c b hc z
    ·rw [hc] at z; cases z; exact hb rfl
end
structure Un (fs ex : List Addr) (H H' : Hp) (h h' : Heap) : Prop where
 keep : ∀ b o,h.get? b = some o→H b = none→b ∉ fs→b ∉ ex→h'.get? b = some o
 slot : ∀ b o,h.get? b = some o→H b = none→b∈fs→b ∉ ex→∃ sl,h'.get? b = some { o with slots:=sl }
 free : ∀ b o,h.get? b = some o→H b = none→b ∉ ex→H' b = none
 there : ∀ b o,h.get? b = some o→b ∉ ex→∃ o',h'.get? b = some o'
 tups : ∀ b xs,H b = some (.tup xs)→H' b = some (.tup xs)
 frzs : ∀ b o u,H b = some (.frz o u)→H' b = some (.frz o u)
 tbls : ∀ b ps,H b = some (.tbl ps)→∃ more,H' b = some (.tbl (ps ++ more))
section
variable {fs fs' ex ex' : List Addr} {H H1 H2 : Hp} {h h1 h2 h' : Heap} {a x e : Addr} {o : HO}
theorem Un.any (u : Un fs ex H H1 h h1) {b : Addr} {ob : Obj} (q : h.get? b = some ob) (n : H b = none) (hx : b ∉ ex) : ∃ sl,h1.get? b = some { ob with slots:=sl }:=by
 by_cases hb : b∈fs
 ·exact u.slot b ob q n hb hx
 ·exact ⟨ob.slots,u.keep b ob q n hb hx⟩
theorem Un.kept (k : ∀ b u,h.get? b = some u→h'.get? b = some u) : Un fs ex H H h h' :=
 ⟨fun b ob q _ _ _=>k b ob q,fun b ob q _ _ _=>⟨ob.slots,k b ob q⟩,fun _ _ _ n _=>n,fun b ob q _=>⟨ob,k b ob q⟩,fun _ _ q=>q,fun _ _ _ q=>q,fun _ ps q=>⟨#[],by rw [q]; simp⟩⟩
theorem Un.refl : Un fs ex H H h h:=Un.kept fun _ _ q=>q
theorem Un.laid (k : ∀ b u,h.get? b = some u→h'.get? b = some u) (hp : h.objs.size ≤ a) (hn : H a = none) : Un fs ex H (upd H a o) h h' where
 keep:=fun b u q _ _ _=>k b u q
 slot:=fun b u q _ _ _=>⟨u.slots,k b u q⟩
 free:=fun b u q n _=>by rw [aD (Nat.ne_of_lt (Nat.lt_of_lt_of_le (Heap.lt_size q) hp))]; exact n
 there:=fun b u q _=>⟨u,k b u q⟩
 tups:=fun b xs q=>by rw [aD (aF q hn)]; exact q
 frzs:=fun b u xs q=>by rw [aD (aF q hn)]; exact q
 tbls:=fun b ps q=>⟨#[],by rw [aD (aF q hn),q]; simp⟩
theorem Un.write (mu : Mut (H x)) (he : e = x∨H e = some (.own x)) (k : ∀ b u,b ≠ e→h.get? b = some u→h'.get? b = some u) (heo : ∃ u,h'.get? e = some u) : Un fs ex H (upd H x o) h h':=by
 have hx : ∀ b,H b = none→b ≠ x:=fun b n z=>by subst z; rw [n] at mu; exact mu
 have hb : ∀ b,H b = none→b ≠ e:=fun b n z=>by
  subst z
  rcases he with r | r
  ·exact hx b n r
  ·rw [n] at r; cases r
 have hm : ∀ b u,H b = some u→¬ Mut (some u)→b ≠ x:=fun b u q nm z=>by subst z; rw [q] at mu; exact nm mu
 refine ⟨fun b u q n _ _=>k b u (hb b n) q,fun b u q n _ _=>⟨u.slots,k b u (hb b n) q⟩,fun b u q n _=>by rw [aD (hx b n)]; exact n,fun b u q _=>?_,
  fun b xs q=>by rw [aD (hm b _ q fun z=>z)]; exact q,fun b u xs q=>by rw [aD (hm b _ q fun z=>z)]; exact q,fun b ps q=>⟨#[],by rw [aD (hm b _ q fun z=>z),q]; simp⟩⟩
 by_cases hbe : b = e
 ·subst hbe; exact heo
 ·exact ⟨u,k b u hbe q⟩
end
def trk (h : Heap) (H : Hp) : List Addr:=(List.range h.objs.size).filter fun a=>(H a).isSome
def hidT (h : Heap) (H : Hp) : Heap:=PySem.W.hideAll h (trk h H)
theorem yD (h : Heap) (H : Hp) : (hidT h H).objs.size = h.objs.size:=PySem.W.hideAll_size _ _
theorem aAC {h : Heap} {H : Hp} {b : Addr} {o : Obj} (e : h.get? b = some o) (n : H b = none) : (hidT h H).get? b = some o :=
 PySem.W.hideAll_get _ e fun hm=>by
  have q : (H b).isSome = true:=(List.mem_filter.mp hm).2
  rw [n] at q; simp at q
theorem aBG {h : Heap} {H : Hp} {b : Addr} {o : Obj} (e : (hidT h H).get? b = some o) : h.get? b = some o∧H b = none:=by
 have e' : h.get? b = some o:=PySem.W.of_hideAll (trk h H) e
 refine ⟨e',?_⟩
 cases q : H b with
 | none=>rfl
 | some x =>
  have hm : b∈trk h H:=List.mem_filter.mpr ⟨List.mem_range.mpr (Heap.lt_size e'),by simp [q]⟩
  have z : (hidT h H).get? b = none:=PySem.W.hideAll_none (trk h H) hm
  rw [z] at e; cases e
def gN (g h : Heap) (L : Addr) : List (Addr × Obj):=(List.range h.objs.size).filterMap fun a=>if a = L∨(g.get? a).isSome = true then none else (h.get? a).map fun o=>(a,o)
theorem kA {g h : Heap} {L a : Addr} {o : Obj} (h1 : a ≠ L) (h2 : g.get? a = none) (h3 : h.get? a = some o) : (a,o)∈gN g h L :=
 List.mem_filterMap.mpr ⟨a,List.mem_range.mpr (Heap.lt_size h3),by simp [h1,h2,h3]⟩
theorem pK {g h : Heap} {L : Addr} {p : Addr × Obj} (hp : p∈gN g h L) : p.1 ≠ L∧g.get? p.1 = none∧h.get? p.1 = some p.2:=by
 obtain ⟨b,_,e⟩:=List.mem_filterMap.mp hp
 split at e
 ·cases e
 ·rename_i hn
  cases q : h.get? b with
  | none=>rw [q] at e; simp at e
  | some u =>
   rw [q] at e
   simp only [Option.map_some,Option.some.injEq] at e
   subst e
   refine ⟨fun z=>hn (.inl z),?_,q⟩
   show g.get? b = none
   cases r : g.get? b with
   | none=>rfl
   | some v=>exact (hn (.inr (by simp [r]))).elim
theorem aAD {g h : Heap} {L : Addr} : News g L h (gN g h L):=fun p hp=>let ⟨a,b,c⟩:=pK hp; ⟨c,a,b⟩
end L2
namespace L2
open PySem PySem.Spec PyProof.Rows
structure Mod (K : PySem.W.Frag) (mg : Str→Option Value) (base : Heap) : Prop where
 kin : K.In base
 glob : base.Ns mainGlobals mg
 blt : ∃ mb,base.Ns builtinsNs mb∧∀ x : Str,x ≠ "__name__" → mb x = bootBuiltins x
 nolimit : base.NoLimit
structure Cx where
 prog : Program
 w : World
 K : PySem.W.Frag
 mg : Str→Option Value
 base : Heap
 A : Around
 N : List Str
 s₀ : Shared
 H₀ : Hp
 env : Env
 outer : List Env
 stack : List Env
 ex : List Addr
 fn : Str→Bool
 calm : Bool
 pn : List (Addr × Obj)
 xe : Value→Shared→Prop
def frs (l : List Env) : List Addr:=l.filterMap (·.frame)
abbrev Cx.fs (X : Cx) : List Addr:=frs X.outer
def Vis (sc : Scope) (x : Str) : Prop:=sc.names.lookup x = some .local∨sc.names.lookup x = some .cell∨sc.names.lookup x = some .free
def Loc (sc : Scope) (x : Str) : Prop:=sc.names.lookup x = some .local∨sc.names.lookup x = some .cell
def Look (env : Env) (h : Heap) (m : Str→Option Value) (x : Str) (u : Value) : Prop :=
 (env.kindOf x = some .local∧m x = some u)∨((env.kindOf x = some .cell∨env.kindOf x = some .free)∧∃ c,env.cells.lookup x = some c∧h.IsCell c (some u))
structure Cx.Ok (X : Cx) : Prop where
 mod : Mod X.K X.mg X.base
 kind : X.env.scope.kind = .function
 glob : X.env.globals = mainGlobals
 blt : X.env.builtins = builtinsNs
 above : X.s₀.heap.objs.size ≤ X.env.locals
 inj : ∀ x y c,X.env.cells.lookup x = some c→X.env.cells.lookup y = some c→x = y
 has : ∀ x,(X.env.kindOf x = some .cell∨X.env.kindOf x = some .free)→∃ c,X.env.cells.lookup x = some c
 cab : ∀ x c,X.fn x = true→X.env.cells.lookup x = some c→X.s₀.heap.objs.size ≤ c
 hd : X.calm = true→X.A.handled = none
 frames : X.A.frames = some X.stack
 stk : X.stack = X.outer∨(X.stack = X.env :: X.outer∧X.env.frame = some X.env.locals)
 exf : ∀ b∈X.ex,b ≠ X.env.locals∧∀ x c,X.env.cells.lookup x = some c→c ≠ b
 bs : ∀ b o,X.base.get? b = some o→X.s₀.heap.get? b = some o∧X.H₀ b = none
 bsz : X.base.objs.size ≤ X.s₀.heap.objs.size
 noex : ∀ b o,X.base.get? b = some o→b ∉ X.ex
 exfs : ∀ b∈X.ex,b ∉ X.fs
 funs : X.s₀.heap.FunFrames X.base X.outer
 frf : ∀ b∈X.fs,X.H₀ b = none
structure Inv (X : Cx) (pins : List (Addr × Obj)) (σ : List (Option V)) (H : Hp) (s : Shared) : Prop where
 ok : X.Ok
 os : s.os = X.s₀.os
 bare : AllBare s.gens
 base : Un X.fs X.ex X.H₀ H X.s₀.heap s.heap
 loc : ∃ m,s.heap.Ns X.env.locals m∧∀ (i : Nat) (x : Str) (v : V),X.N[i]? = some x→σ[i]? = some (some v)→Vis X.env.scope x→∃ u,RelV v u∧Look X.env s.heap m x u
 cell : ∀ x c,X.env.cells.lookup x = some c→∃ v,s.heap.IsCell c v
 free : H X.env.locals = none
 freeC : ∀ x c,X.env.cells.lookup x = some c→H c = none
 pin : ∀ p∈X.pn ++ pins,s.heap.get? p.1 = some p.2∧H p.1 = none∧p.1 ≠ X.env.locals∧p.1 ∉ X.fs∧∀ v,p.2.data ≠ .cell v
 hok : HOk X.prog X.w H s.heap
 len : σ.length = X.N.length
section
variable {X : Cx} {pins : List (Addr × Obj)} {σ : List (Option V)} {H H' : Hp} {s : Shared} {h' : Heap}
theorem Cx.Ok.nofr (ok : X.Ok) {b : Addr} {o : Obj} (e : X.base.get? b = some o) : b ∉ X.fs:=fun hb=>by
 have:=(ok.funs.mem hb).1
 rw [e] at this; cases this
theorem Inv.bs (I : Inv X pins σ H s) : ∀ b o,X.base.get? b = some o→s.heap.get? b = some o∧H b = none:=fun b o e =>
 ⟨I.base.keep b o (I.ok.bs b o e).1 (I.ok.bs b o e).2 (I.ok.nofr e) (I.ok.noex b o e),I.base.free b o (I.ok.bs b o e).1 (I.ok.bs b o e).2 (I.ok.noex b o e)⟩
theorem Inv.bk (I : Inv X pins σ H s) : ∀ b o,X.base.get? b = some o→s.heap.get? b = some o:=fun b o e=>(I.bs b o e).1
theorem Inv.mod (I : Inv X pins σ H s) : Mod X.K X.mg X.base:=I.ok.mod
theorem Inv.kIn (I : Inv X pins σ H s) : X.K.In s.heap:=I.ok.mod.kin.keeps I.bk
theorem Inv.fr (I : Inv X pins σ H s) : ∃ m,Fr X.base X.env.locals s.heap m :=
 let ⟨m,hn,_⟩:=I.loc
 ⟨m,hn,I.bk,Nat.le_trans I.ok.bsz I.ok.above⟩
theorem Inv.lt (I : Inv X pins σ H s) : X.env.locals < s.heap.objs.size:=let ⟨_,hn,_⟩:=I.loc; hn.lt
theorem Inv.sz (I : Inv X pins σ H s) : X.s₀.heap.objs.size ≤ s.heap.objs.size:=Nat.le_trans I.ok.above (Nat.le_of_lt I.lt)
theorem Inv.nofs (I : Inv X pins σ H s) {a : Addr} (h : s.heap.objs.size ≤ a) : a ∉ X.fs:=fun hb=>by
 obtain ⟨_,o,ho,_⟩:=I.ok.funs.mem hb
 exact absurd (Nat.lt_of_lt_of_le (Heap.lt_size ho) (Nat.le_trans I.sz h)) (Nat.lt_irrefl _)
theorem Inv.cne (I : Inv X pins σ H s) : ∀ x c,X.env.cells.lookup x = some c→c ≠ X.env.locals:=fun x c e z=>by
 obtain ⟨v,o,ho,hd⟩:=I.cell x c e
 obtain ⟨m,⟨o',es,ep,ho',hd',_⟩,_⟩:=I.loc
 rw [z,ho'] at ho; cases ho; rw [hd'] at hd; cases hd
theorem Inv.funs (I : Inv X pins σ H s) : s.heap.FunFrames X.base X.outer:=by
 have all : ∀ (l : List Env),(∀ b∈frs l,b∈X.fs)→X.s₀.heap.FunFrames X.base l→s.heap.FunFrames X.base l:=by
  intro l
  induction l with
  | nil=>intro _ _; trivial
  | cons env r ih =>
   intro hs hl
   obtain ⟨hk,⟨L,o,hf,hn,ho,hd⟩,hr⟩:=hl
   have hL : L∈X.fs:=hs L (by unfold frs; rw [List.filterMap_cons,hf]; exact List.mem_cons_self)
   obtain ⟨sl,e⟩:=I.base.slot L o ho (I.ok.frf L hL) hL fun z=>I.ok.exfs L z hL
   exact ⟨hk,⟨L,_,hf,hn,e,hd⟩,ih (fun b hb=>hs b (by unfold frs; rw [List.filterMap_cons,hf]; exact List.mem_cons_of_mem _ hb)) hr⟩
 exact all X.outer (fun _ hb=>hb) I.ok.funs
theorem Inv.stack (I : Inv X pins σ H s) : s.heap.FunFrames X.base X.stack:=by
 rcases I.ok.stk with e | ⟨e,hf⟩
 ·rw [e]; exact I.funs
 ·rw [e]
  obtain ⟨m,hn,_⟩:=I.loc
  refine .cons (by rw [I.ok.kind]; decide) hf hn ?_ I.funs
  exact Heap.get?_none_of_le (Nat.le_trans I.ok.bsz I.ok.above)
theorem Inv.stkSub (I : Inv X pins σ H s) : ∀ b∈frs X.stack,b∈X.env.locals :: X.fs:=fun b hb=>by
 rcases I.ok.stk with e | ⟨e,hf⟩
 ·rw [e] at hb; exact List.mem_cons_of_mem _ hb
 ·rw [e] at hb
  unfold frs at hb
  rw [List.filterMap_cons,hf] at hb
  exact hb
theorem Inv.stkFree (I : Inv X pins σ H s) : ∀ b∈frs X.stack,H b = none:=fun b hb=>by
 rcases List.mem_cons.mp (I.stkSub b hb) with e | hb
 ·rw [e]; exact I.free
 ·obtain ⟨_,o,ho,_⟩:=I.ok.funs.mem hb
  exact I.base.free b o ho (I.ok.frf b hb) fun z=>I.ok.exfs b z hb
theorem Inv.step {g' : Array GenState} {t' : Nat} {d' : Drawn} {ch : List Addr} (I : Inv X pins σ H s)
  (hch : ∀ b∈ch,(b∈X.ex∨X.s₀.heap.objs.size ≤ b)∧b ≠ X.env.locals∧(∀ x c,X.env.cells.lookup x = some c→c ≠ b)∧∀ p∈X.pn ++ pins,p.1 ≠ b)
  (keep : ∀ b o,b ≠ X.env.locals→b ∉ X.fs→b ∉ ch→s.heap.get? b = some o→H b = none→h'.get? b = some o)
  (slot : ∀ b o,b ≠ X.env.locals→b∈X.fs→b ∉ ch→s.heap.get? b = some o→H b = none→∃ sl,h'.get? b = some { o with slots:=sl }) (free : ∀ b o,b ∉ ch→s.heap.get? b = some o→H b = none→H' b = none)
  (there : ∀ b o,b ∉ ch→s.heap.get? b = some o→∃ o',h'.get? b = some o')
  (tups : ∀ b xs,H b = some (.tup xs)→H' b = some (.tup xs)) (frzs : ∀ b o u,H b = some (.frz o u)→H' b = some (.frz o u)) (tbls : ∀ b ps,H b = some (.tbl ps)→∃ more,H' b = some (.tbl (ps ++ more)))
  (ns : ∀ m,s.heap.Ns X.env.locals m→h'.Ns X.env.locals m) (hok : HOk X.prog X.w H' h') (hg : AllBare g') :
  Inv X pins σ H' { s with heap:=h',gens:=g',drawn:=d',toks:=t' }:=by
 have neL : ∀ b o,X.s₀.heap.get? b = some o→b ≠ X.env.locals:=fun b o e=>Nat.ne_of_lt (Nat.lt_of_lt_of_le (Heap.lt_size e) I.ok.above)
 have neC : ∀ b o,X.s₀.heap.get? b = some o→b ∉ X.ex→b ∉ ch:=fun b o e hx hb=>by
  rcases (hch b hb).1 with z | z
  ·exact hx z
  ·exact absurd (Nat.lt_of_lt_of_le (Heap.lt_size e) z) (Nat.lt_irrefl _)
 have cellK : ∀ x c,X.env.cells.lookup x = some c→∀ v,s.heap.IsCell c v→h'.IsCell c v:=fun x c e v ⟨o,ho,hd⟩=>by
  have nch : c ∉ ch:=fun z=>(hch c z).2.2.1 x c e rfl
  by_cases hc : c∈X.fs
  ·obtain ⟨sl,q⟩:=slot c o (I.cne x c e) hc nch ho (I.freeC x c e)
   exact ⟨_,q,hd⟩
  ·exact ⟨o,keep c o (I.cne x c e) hc nch ho (I.freeC x c e),hd⟩
 refine ⟨I.ok,I.os,hg,⟨fun b o e n hb hx=>?_,fun b o e n hb hx=>?_,fun b o e n hx=>?_,fun b o e hx=>?_,fun b xs e=>tups b xs (I.base.tups b xs e),fun b o xs e=>frzs b o xs (I.base.frzs b o xs e),fun b ps e=>?_⟩,?_,fun x c e=>?_,?_,fun x c e=>?_,fun p hp=>?_,hok,I.len⟩
 ·exact keep b o (neL b o e) hb (neC b o e hx) (I.base.keep b o e n hb hx) (I.base.free b o e n hx)
 ·obtain ⟨sl,e1⟩:=I.base.slot b o e n hb hx
  obtain ⟨sl',e2⟩:=slot b _ (neL b o e) hb (neC b o e hx) e1 (I.base.free b o e n hx)
  exact ⟨sl',e2⟩
 ·obtain ⟨o',e1⟩:=I.base.there b o e hx
  exact free b o' (neC b o e hx) e1 (I.base.free b o e n hx)
 ·obtain ⟨o',e1⟩:=I.base.there b o e hx
  exact there b o' (neC b o e hx) e1
 ·obtain ⟨m1,e1⟩:=I.base.tbls b ps e
  obtain ⟨m2,e2⟩:=tbls b _ e1
  exact ⟨m1 ++ m2,by rw [e2,Array.append_assoc]⟩
 ·obtain ⟨m,hn,hl⟩:=I.loc
  refine ⟨m,ns m hn,fun i x v e1 e2 e3=>?_⟩
  obtain ⟨u,r,l⟩:=hl i x v e1 e2 e3
  refine ⟨u,r,?_⟩
  rcases l with l | ⟨k,c,e,z⟩
  ·exact .inl l
  ·exact .inr ⟨k,c,e,cellK x c e _ z⟩
 ·obtain ⟨v,z⟩:=I.cell x c e
  exact ⟨v,cellK x c e v z⟩
 ·obtain ⟨m,⟨o,_,_,ho,_⟩,_⟩:=I.loc
  exact free _ o (fun z=>(hch _ z).2.1 rfl) ho I.free
 ·obtain ⟨v,o,ho,hd⟩:=I.cell x c e
  exact free c o (fun z=>(hch c z).2.2.1 x c e rfl) ho (I.freeC x c e)
 ·obtain ⟨e,n,ne,nf,d⟩:=I.pin p hp
  have nch : p.1 ∉ ch:=fun z=>(hch p.1 z).2.2.2 p hp rfl
  exact ⟨keep p.1 p.2 ne nf nch e n,free p.1 p.2 nch e n,ne,nf,d⟩
theorem Inv.un {t' : Nat} (I : Inv X pins σ H s) (u : Un X.fs [] H H' s.heap h') (hok : HOk X.prog X.w H' h') : Inv X pins σ H' { s with heap:=h',toks:=t' }:=by
 obtain ⟨m,⟨o,es,ep,ho,r⟩,_⟩:=id I.loc
 obtain ⟨sl,hL⟩:=u.any ho I.free (by simp)
 exact I.step (g':=s.gens) (d':=s.drawn) (ch:=[]) (fun _ z=>nomatch z) (fun b o _ hb _ e n=>u.keep b o e n hb (by simp)) (fun b o _ hb _ e n=>u.slot b o e n hb (by simp)) (fun b o _ e n=>u.free b o e n (by simp)) (fun b o _ e=>u.there b o e (by simp)) u.tups u.frzs u.tbls (fun m' hm=>by
  obtain ⟨o',es',ep',ho',r'⟩:=hm
  rw [ho] at ho'; cases ho'
  exact ⟨_,es',ep',hL,r'⟩) hok I.bare
theorem Inv.call {g' : Array GenState} {t' : Nat} {d' : Drawn} {ch : List Addr} (I : Inv X pins σ H s) (u : Un (frs X.stack) ch H H' s.heap h') (hok : HOk X.prog X.w H' h') (hg : AllBare g')
  (hch : ∀ b∈ch,(b∈X.ex∨X.s₀.heap.objs.size ≤ b)∧b ≠ X.env.locals∧(∀ x c,X.env.cells.lookup x = some c→c ≠ b)∧∀ p∈X.pn ++ pins,p.1 ≠ b) :
  Inv X pins σ H' { s with heap:=h',gens:=g',drawn:=d',toks:=t' }:=by
 obtain ⟨m,⟨o,es,ep,ho,r⟩,_⟩:=id I.loc
 obtain ⟨sl,hL⟩:=u.any ho I.free fun z=>(hch _ z).2.1 rfl
 exact I.step (ch:=ch) hch (fun b o hL hb hc e n=>u.keep b o e n (fun z=>(List.mem_cons.mp (I.stkSub b z)).elim hL hb) hc) (fun b o _ _ hc e n=>u.any e n hc) (fun b o hc e n=>u.free b o e n hc) (fun b o hc e=>u.there b o e hc) u.tups u.frzs u.tbls (fun m' hm=>by
  obtain ⟨o',es',ep',ho',r'⟩:=hm
  rw [ho] at ho'; cases ho'
  exact ⟨_,es',ep',hL,r'⟩) hok hg
theorem Inv.turned {t' : Nat} {it : Addr} (I : Inv X pins σ H s) (k : ∀ b o,b ≠ it→s.heap.get? b = some o→h'.get? b = some o) (hn : H it = none) (hL : it ≠ X.env.locals)
  (h1 : it∈X.ex∨X.s₀.heap.objs.size ≤ it) (h2 : ∀ x c,X.env.cells.lookup x = some c→c ≠ it) (h3 : ∀ p∈X.pn ++ pins,p.1 ≠ it) : Inv X pins σ H { s with heap:=h',toks:=t' }:=by
 have nit : ∀ b u,H b = some u→b ≠ it:=fun b u e z=>by rw [z,hn] at e; cases e
 refine I.step (g':=s.gens) (d':=s.drawn) (ch:=[it]) (fun b hb=>?_) (fun b o _ _ hc e _=>k b o (fun z=>hc (by simp [z])) e) (fun b o _ _ hc e _=>⟨o.slots,k b o (fun z=>hc (by simp [z])) e⟩) (fun _ _ _ _ n=>n)
  (fun b o hc e=>⟨o,k b o (fun z=>hc (by simp [z])) e⟩) (fun _ _ e=>e) (fun _ _ _ e=>e) (fun b ps e=>⟨#[],by rw [e]; simp⟩) (fun m hm=>?_) (fun b u e=>?_) I.bare
 ·have e : b = it:=by simpa using hb
  subst e
  exact ⟨h1,hL,h2,h3⟩
 ·obtain ⟨o,es,ep,ho,r⟩:=hm
  exact ⟨o,es,ep,k _ o (Ne.symm hL) ho,r⟩
 ·refine (I.hok b u e).stay (fun c v hc q=>k c v ?_ q) (fun _ q=>q) fun _ _ q=>q
  rcases hc with z | z
  ·rw [z]; exact nit b u e
  ·exact nit c _ z
theorem Inv.tok (I : Inv X pins σ H s) (t : Nat) : Inv X pins σ H { s with toks:=t }:=I.un (h':=s.heap) (t':=t) Un.refl I.hok
theorem Inv.kept {t' : Nat} (I : Inv X pins σ H s) (k : ∀ b u,s.heap.get? b = some u→h'.get? b = some u) : Inv X pins σ H { s with heap:=h',toks:=t' }:=I.un (Un.kept k) (I.hok.kept k)
theorem Inv.laid {a : Addr} {o : HO} {t' : Nat} (I : Inv X pins σ H s) (k : ∀ b u,s.heap.get? b = some u→h'.get? b = some u) (hp : s.heap.objs.size ≤ a) (new : bH X.prog X.w (upd H a o) h' a o) :
  Inv X pins σ (upd H a o) { s with heap:=h',toks:=t' }:=I.un (Un.laid k hp (I.hok.fresh hp)) (I.hok.laid k hp new)
theorem Inv.write {x e : Addr} {o : HO} {t' : Nat} (I : Inv X pins σ H s) (mu : Mut (H x)) (he : e = x∨H e = some (.own x)) (k : ∀ b u,b ≠ e→s.heap.get? b = some u→h'.get? b = some u) (heo : ∃ u,h'.get? e = some u)
  (new : bH X.prog X.w (upd H x o) h' x o) : Inv X pins σ (upd H x o) { s with heap:=h',toks:=t' }:=I.un (Un.write mu he k heo) (I.hok.write mu he k heo new)
theorem Inv.pins_of {pins' : List (Addr × Obj)} (I : Inv X pins σ H s) (h : ∀ p∈pins',s.heap.get? p.1 = some p.2∧H p.1 = none∧p.1 ≠ X.env.locals∧p.1 ∉ X.fs∧∀ v,p.2.data ≠ .cell v) : Inv X pins' σ H s :=
 ⟨I.ok,I.os,I.bare,I.base,I.loc,I.cell,I.free,I.freeC,fun p hp=>(List.mem_append.mp hp).elim (fun z=>I.pin p (List.mem_append_left _ z)) (h p),I.hok,I.len⟩
theorem sD {N : List Str} (hN : N.Nodup) {i j : Nat} {x : Str} (a : N[i]? = some x) (b : N[j]? = some x) : i = j:=by
 obtain ⟨h1,e1⟩:=List.getElem?_eq_some_iff.mp a
 obtain ⟨h2,e2⟩:=List.getElem?_eq_some_iff.mp b
 exact (List.getElem_inj hN).mp (e1.trans e2.symm)
theorem qN {M : Model} {A : Around} {E : Value→Shared→Prop} {i : Nat} {x : Str} {v : V} {u : Value} {Q : Unit→Shared→Prop} (I : Inv X pins σ H s) (hN : X.N.Nodup) (hi : X.N[i]? = some x) (hx : Loc X.env.scope x) (r : RelV v u)
  (h : ∀ s',Inv X pins (σ.set i (some v)) H s'→(∃ a,Heap.SameBut a s.heap s'.heap∧(a = X.env.locals∨X.env.cells.lookup x = some a))→Q () s') (hf : X.fn x = true∨X.env.scope.names.lookup x = some .local:=by first | exact .inl rfl | exact .inr rfl | assumption) : wpAny M A (storeName X.env x u) Q E s:=by
 obtain ⟨m,hn,hl⟩:=id I.loc
 have hcls : (X.env.scope.kind == .class || (X.env.scope.kind == .module && X.env.locals != X.env.globals)) = false:=by rw [I.ok.kind]; rfl
 have hiσ : i < σ.length:=by rw [I.len]; exact (List.getElem?_eq_some_iff.mp hi).1
 have cne:=I.cne
 have tracked : ∀ {a : Addr} {h' : Heap},(∃ o,s.heap.get? a = some o∧H a = none)→Heap.SameBut a s.heap h'→HOk X.prog X.w H h':=fun {a h'} ha hs b ob e=>by
  obtain ⟨_,_,hfree⟩:=ha
  refine (I.hok b ob e).stay (fun c w' hc q=>(hs.2 c ?_).trans q) (fun _ q=>q) fun _ _ q=>q
  rintro rfl
  rcases hc with rfl | hc
  ·rw [hfree] at e; cases e
  ·rw [hfree] at hc; cases hc
 rcases hx with hk | hk
 ·refine wpAny_storeName_local hk hn (fun h' hn' hs=>?_) hcls
  obtain ⟨oL,_,_,hoL,_⟩:=id hn
  refine h _ ⟨I.ok,I.os,I.bare,⟨fun b o e n hb hx=>?_,fun b o e n hb hx=>?_,I.base.free,fun b o e hx=>?_,I.base.tups,I.base.frzs,I.base.tbls⟩,⟨_,hn',fun j y v' e1 e2 e3=>?_⟩,fun y c e=>?_,I.free,I.freeC,fun p hp=>?_,tracked ⟨oL,hoL,I.free⟩ hs,by simpa using I.len⟩ ⟨_,hs,.inl rfl⟩
  ·exact (hs.2 b (Nat.ne_of_lt (Nat.lt_of_lt_of_le (Heap.lt_size e) I.ok.above))).trans (I.base.keep b o e n hb hx)
  ·obtain ⟨sl,e1⟩:=I.base.slot b o e n hb hx
   exact ⟨sl,(hs.2 b (Nat.ne_of_lt (Nat.lt_of_lt_of_le (Heap.lt_size e) I.ok.above))).trans e1⟩
  ·obtain ⟨o',e1⟩:=I.base.there b o e hx
   exact ⟨o',(hs.2 b (Nat.ne_of_lt (Nat.lt_of_lt_of_le (Heap.lt_size e) I.ok.above))).trans e1⟩
  ·by_cases hj : j = i
   ·subst hj
    rw [hi] at e1; cases e1
    rw [List.getElem?_set_self hiσ] at e2
    cases e2
    exact ⟨u,r,.inl ⟨hk,by simp⟩⟩
   ·rw [List.getElem?_set_ne (Ne.symm hj)] at e2
    obtain ⟨u',r',q⟩:=hl j y v' e1 e2 e3
    refine ⟨u',r',?_⟩
    rcases q with ⟨k,e⟩ | ⟨k,c,e,z⟩
    ·refine .inl ⟨k,?_⟩
     have : y ≠ x:=fun e=>hj (sD hN e1 (e ▸ hi))
     simp [this,e]
    ·exact .inr ⟨k,c,e,z.sameBut hs (cne y c e)⟩
  ·obtain ⟨w',z⟩:=I.cell y c e
   exact ⟨w',z.sameBut hs (cne y c e)⟩
  ·obtain ⟨e,n,ne,nf,d⟩:=I.pin p hp
   exact ⟨(hs.2 p.1 ne).trans e,n,ne,nf,d⟩
 ·have hfn : X.fn x = true:=by
   rcases hf with z | z
   ·exact z
   ·rw [z] at hk; cases hk
  obtain ⟨c,hc⟩:=I.ok.has x (.inl hk)
  obtain ⟨w',z⟩:=I.cell x c hc
  refine wpAny_storeName_cell I.ok.kind hk hc z (fun h' hc' hs=>?_)
  obtain ⟨oc,hoc,hocd⟩:=id z
  refine h { s with heap:=h' } ⟨I.ok,I.os,I.bare,⟨fun b o e n hb hx=>?_,fun b o e n hb hx=>?_,I.base.free,fun b o e hx=>?_,I.base.tups,I.base.frzs,I.base.tbls⟩,⟨m,hn.sameBut hs (Ne.symm (cne x c hc)),fun j y v' e1 e2 e3=>?_⟩,fun y c' e=>?_,I.free,I.freeC,fun p hp=>?_,tracked ⟨oc,hoc,I.freeC x c hc⟩ hs,by simpa using I.len⟩ ⟨c,hs,.inr hc⟩
  ·exact (hs.2 b (Nat.ne_of_lt (Nat.lt_of_lt_of_le (Heap.lt_size e) (I.ok.cab x c hfn hc)))).trans (I.base.keep b o e n hb hx)
  ·obtain ⟨sl,e1⟩:=I.base.slot b o e n hb hx
   exact ⟨sl,(hs.2 b (Nat.ne_of_lt (Nat.lt_of_lt_of_le (Heap.lt_size e) (I.ok.cab x c hfn hc)))).trans e1⟩
  ·obtain ⟨o',e1⟩:=I.base.there b o e hx
   exact ⟨o',(hs.2 b (Nat.ne_of_lt (Nat.lt_of_lt_of_le (Heap.lt_size e) (I.ok.cab x c hfn hc)))).trans e1⟩
  ·by_cases hj : j = i
   ·subst hj
    rw [hi] at e1; cases e1
    rw [List.getElem?_set_self hiσ] at e2
    cases e2
    exact ⟨u,r,.inr ⟨.inl hk,c,hc,hc'⟩⟩
   ·rw [List.getElem?_set_ne (Ne.symm hj)] at e2
    obtain ⟨u',r',q⟩:=hl j y v' e1 e2 e3
    refine ⟨u',r',?_⟩
    rcases q with q | ⟨k,c',e,z'⟩
    ·exact .inl q
    ·refine .inr ⟨k,c',e,z'.sameBut hs ?_⟩
     rintro rfl
     exact hj (sD hN e1 (I.ok.inj _ _ _ e hc ▸ hi))
  ·by_cases hcc : c' = c
   ·subst hcc; exact ⟨_,hc'⟩
   ·obtain ⟨w2,z2⟩:=I.cell y c' e
    exact ⟨w2,z2.sameBut hs hcc⟩
  ·obtain ⟨e,n,ne,nf,d⟩:=I.pin p hp
   refine ⟨(hs.2 p.1 ?_).trans e,n,ne,nf,d⟩
   intro q
   rw [q,hoc] at e
   have q' : oc = p.2:=Option.some.inj e
   exact d w' (by rw [← q']; exact hocd)
theorem mY {M : Model} {A : Around} {E : Value→Shared→Prop} {i : Nat} {x : Str} {v : V} {u : Value} {Q : Unit→Shared→Prop} (I : Inv X pins σ H s) (hN : X.N.Nodup) (hi : X.N[i]? = some x) (hx : Loc X.env.scope x) (r : RelV v u)
  (h : ∀ s',Inv X pins (σ.set i (some v)) H s'→Q () s') (hf : X.fn x = true∨X.env.scope.names.lookup x = some .local:=by first | exact .inl rfl | exact .inr rfl | assumption) : wpAny M A (storeName X.env x u) Q E s :=
 qN I hN hi hx r (fun s' I' _=>h s' I') hf
theorem Inv.call' {s' : Shared} {ch : List Addr} (I : Inv X pins σ H s) (ho : s'.os = s.os) (u : Un (frs X.stack) ch H H' s.heap s'.heap) (hok : HOk X.prog X.w H' s'.heap) (hg : AllBare s'.gens)
  (hch : ∀ b∈ch,(b∈X.ex∨X.s₀.heap.objs.size ≤ b)∧b ≠ X.env.locals∧(∀ x c,X.env.cells.lookup x = some c→c ≠ b)∧∀ p∈X.pn ++ pins,p.1 ≠ b) : Inv X pins σ H' s':=by
 obtain ⟨h',g',d',t',o'⟩:=s'
 have e : o' = s.os:=ho
 subst e
 exact I.call (g':=g') (t':=t') (d':=d') u hok hg hch
end
abbrev XK:=Value→Option Addr→Hp→Prop
abbrev St:=List (Option V)
abbrev VK:=V→Hp→Prop
abbrev TE:=St→Hp→VK→Prop
abbrev TT:=St→Hp→(Bool→Hp→Prop)→Prop
abbrev TA:=St→Hp→(List V→Hp→Prop)→Prop
structure Ends where
 nx : St→Hp→Prop
 rt : VK
 bk : St→Hp→Prop:=fun _ _=>False
 ct : St→Hp→Prop:=fun _ _=>False
abbrev TS:=Ends→St→Hp→Prop
def EP (X : Cx) (pins : List (Addr × Obj)) (σ : St) (Q : VK) (u : Value) (s' : Shared) : Prop:=∃ v H',Inv X pins σ H' s'∧RelV v u∧Q v H'
def TP (X : Cx) (pins : List (Addr × Obj)) (σ : St) (Q : Bool→Hp→Prop) (b : Bool) (s' : Shared) : Prop:=∃ H',Inv X pins σ H' s'∧Q b H'
def AP (X : Cx) (pins : List (Addr × Obj)) (σ : St) (Q : List V→Hp→Prop) (us : List Value) (s' : Shared) : Prop:=∃ vs H',Inv X pins σ H' s'∧Vals vs us∧Q vs H'
def SP (X : Cx) (pins : List (Addr × Obj)) (D : Ends) (f : Flow) (s' : Shared) : Prop :=
 match f with
 | .next=>∃ σ' H',Inv X pins σ' H' s'∧D.nx σ' H'
 | .brk=>∃ σ' H',Inv X pins σ' H' s'∧D.bk σ' H'
 | .cont=>∃ σ' H',Inv X pins σ' H' s'∧D.ct σ' H'
 | .ret u=>∃ v σ' H',Inv X pins σ' H' s'∧RelV v u∧D.rt v H'
def PE (X : Cx) (e : Expr) (t : TE) : Prop :=
 ∀ (pins : List (Addr × Obj)) (s : Shared) (σ : St) (H : Hp) (Q : VK),Inv X pins σ H s→t σ H Q→wpAny (model X.prog X.w) X.A (eval e X.env) (EP X pins σ Q) X.xe s
def PT (X : Cx) (e : Expr) (t : TT) : Prop :=
 ∀ (pins : List (Addr × Obj)) (s : Shared) (σ : St) (H : Hp) (Q : Bool→Hp→Prop),Inv X pins σ H s→t σ H Q→wpAny (model X.prog X.w) X.A (isTrue e X.env (eval e X.env)) (TP X pins σ Q) X.xe s
def PW (X : Cx) (e : Expr) (t : TT) : Prop :=
 ∀ (whole : Sem Value) (pins : List (Addr × Obj)) (s : Shared) (σ : St) (H : Hp) (Q : Bool→Hp→Prop),Inv X pins σ H s→t σ H Q→wpAny (model X.prog X.w) X.A (isTrue e X.env whole) (TP X pins σ Q) X.xe s
theorem PW.pt {X : Cx} {e : Expr} {t : TT} (h : PW X e t) : PT X e t:=h _
def PA (X : Cx) (es : List Expr) (t : TA) : Prop :=
 ∀ (pos : Pos) (pins : List (Addr × Obj)) (s : Shared) (σ : St) (H : Hp) (Q : List V→Hp→Prop),Inv X pins σ H s→t σ H Q→wpAny (model X.prog X.w) X.A (spliced (backTo pos (starEach es X.env))) (AP X pins σ Q) X.xe s
def PS (X : Cx) (st : Stmt) (t : TS) : Prop :=
 ∀ (pins : List (Addr × Obj)) (s : Shared) (σ : St) (H : Hp) (D : Ends),Inv X pins σ H s→t D σ H→wpAny (model X.prog X.w) X.A (exec st X.env) (SP X pins D) X.xe s
def PSs (X : Cx) (st : List Stmt) (t : TS) : Prop :=
 ∀ (pins : List (Addr × Obj)) (s : Shared) (σ : St) (H : Hp) (D : Ends),Inv X pins σ H s→t D σ H→wpAny (model X.prog X.w) X.A (execs st X.env) (SP X pins D) X.xe s
theorem thn {α : Type} {t : Sem α} {Q Q' : α→Shared→Prop} {M : Model} {A : Around} {E : Value→Shared→Prop} {s : Shared} (h : wpAny M A t Q E s) (hQ : ∀ a s,Q a s→Q' a s) : wpAny M A t Q' E s:=wpAny_mono h hQ fun _ _ x=>x
end L2
namespace L2
open PySem PySem.Spec PyProof.Rows
section
variable {X : Cx}
def tVar (i : Nat) : TE:=fun σ H Q=>∃ v,σ[i]? = some (some v)∧Q v H
def tC (v : V) : TE:=fun _ H Q=>Q v H
theorem aCP {i : Nat} {x : Str} {pos : Pos} (hN : X.N[i]? = some x) (hv : Vis X.env.scope x) (hd : (x == ("__debug__" : Str)) = false:=by decide) (hcd : (x == ("__classdict__" : Str)) = false:=by decide) : PE X (.Name x pos) (tVar i):=by
 intro pins s σ H Q I h
 obtain ⟨v,e,h⟩:=h
 obtain ⟨m,hn,hl⟩:=I.loc
 obtain ⟨u,r,l⟩:=hl i x v hN e hv
 have fin : EP X pins σ Q u s:=⟨v,H,I,r,h⟩
 rcases l with ⟨hk,hm⟩ | ⟨hk,c,hc,hcell⟩
 ·exact wpAny_Name (wpAny_loadName_local I.ok.kind hk hn hm fin) hd
 ·rcases hk with hk | hk
  ·exact wpAny_Name (wpAny_loadName_cell I.ok.kind hk hc hcell fin) hd
  ·exact wpAny_Name (wpAny_loadName_free I.ok.kind hk hc hcell fin hcd) hd
theorem aJ {i j pos} : PE X (.Constant (.int i) j pos) (tC (.int i)):=fun _ _ _ H _ I h=>wpAny_Constant_int ⟨.int i,H,I.tok _,⟨_,rfl⟩,h⟩
theorem hJ {b j pos} : PE X (.Constant (.bool b) j pos) (tC (.bl b)):=fun _ _ _ H _ I h=>Constant_bool ⟨.bl b,H,I,rfl,h⟩
theorem kD {j pos} : PE X (.Constant .none j pos) (tC .non):=fun _ _ _ H _ I h=>Constant_none ⟨.non,H,I,rfl,h⟩
def Gl (X : Cx) (x : Str) : Prop:=X.env.kindOf x = some .globalImplicit
theorem pL {E : Value→Shared→Prop} {pins : List (Addr × Obj)} {s : Shared} {σ : St} {H : Hp} {x : Str} {u : Value} {pos : Pos} {Q : Value→Shared→Prop} (I : Inv X pins σ H s) (hg : Gl X x) (hm : X.mg x = some u) (h : Q u s)
  (hd : (x == ("__debug__" : Str)) = false:=by decide) : wpAny (model X.prog X.w) X.A (eval (.Name x pos) X.env) Q E s :=
 Calls.Name_function_global I.ok.kind hg (Calls.loadGlobal_global (by rw [I.ok.glob]; exact I.mod.glob.keeps I.bk) hm h) hd
theorem iB {E : Value→Shared→Prop} {pins : List (Addr × Obj)} {s : Shared} {σ : St} {H : Hp} {x : Str} {u : Value} {pos : Pos} {Q : Value→Shared→Prop} (I : Inv X pins σ H s) (hg : Gl X x) (hm : X.mg x = none) (hv : bootBuiltins x = some u) (h : Q u s)
  (hn : x ≠ "__name__" := by decide) (hd : (x == ("__debug__" : Str)) = false:=by decide) : wpAny (model X.prog X.w) X.A (eval (.Name x pos) X.env) Q E s:=by
 obtain ⟨mb,h1,h2⟩:=I.mod.blt
 exact Calls.Name_function_global I.ok.kind hg (Calls.loadGlobal_builtin (by rw [I.ok.glob]; exact I.mod.glob.keeps I.bk) hm (by rw [I.ok.blt]; exact h1.keeps I.bk) ((h2 x hn).trans hv) h) hd
theorem pM {x : Str} {v : V} {u : Value} {pos : Pos} (hg : Gl X x) (hm : X.mg x = some u) (r : RelV v u) (hd : (x == ("__debug__" : Str)) = false:=by decide) : PE X (.Name x pos) (tC v) :=
 fun _ _ _ H _ I h=>pL I hg hm ⟨v,H,I,r,h⟩ hd
theorem fV {x : Str} {v : V} {u : Value} {pos : Pos} (hg : Gl X x) (hm : X.mg x = none) (hv : bootBuiltins x = some u) (r : RelV v u) (hn : x ≠ "__name__" := by decide) (hd : (x == ("__debug__" : Str)) = false:=by decide) : PE X (.Name x pos) (tC v) :=
 fun _ _ _ H _ I h=>iB I hg hm hv ⟨v,H,I,r,h⟩ hn hd
variable {a b : Expr} {ta tb : TE} {pos : Pos}
def PC (X : Cx) (op : CmpOp) (a b : Expr) (t : TE) : Prop :=
 ∀ (pins : List (Addr × Obj)) (s : Shared) (σ : St) (H : Hp) (Q : VK),Inv X pins σ H s→t σ H Q →
  wpAny (model X.prog X.w) X.A (eval a X.env) (fun v s₁=>wpAny (model X.prog X.w) X.A (eval b X.env) (fun u s₂=>wpAny (model X.prog X.w) X.A (compareOp op v u) (EP X pins σ Q) X.xe s₂) X.xe s₁) X.xe s
theorem sF (b : Expr) {op : CmpOp} (h : op ≠ .In) (h2 : op ≠ .NotIn) : behindInMarks op b = false:=by
 have e1 : (op == CmpOp.In) = false:=by cases op <;> first | rfl | exact absurd rfl h
 have e2 : (op == CmpOp.NotIn) = false:=by cases op <;> first | rfl | exact absurd rfl h2
 cases b <;> simp [behindInMarks,e1,e2]
def tIsN (ta : TE) : TE:=fun σ H Q=>ta σ H fun x H1=>Q (.bl (decide (x = .non))) H1
def aBn (ta : TE) : TE:=fun σ H Q=>ta σ H fun x H1=>Q (.bl (!decide (x = .non))) H1
theorem RelV.none_iff {x : V} {v : Value} (r : RelV x v) : (v == Value.none) = decide (x = .non):=by
 cases x with
 | non=>cases r; rfl
 | bl _=>cases r; rfl
 | int _=>obtain ⟨t,rfl⟩:=r; rfl
 | str _=>obtain ⟨t,rfl⟩:=r; rfl
 | byt _=>obtain ⟨t,rfl⟩:=r; rfl
 | flt _=>obtain ⟨t,rfl⟩:=r; rfl
 | ref _=>cases r; rfl
 | ty _=>cases r; rfl
theorem nR {j pos'} (ha : PE X a ta) : PC X .Is a (.Constant .none j pos') (tIsN ta):=by
 intro pins s σ H Q I h
 refine thn (ha pins s σ H _ I h) fun v s1 ⟨x,H1,I1,r1,q1⟩=>?_
 exact Constant_none (is_none_gen ⟨.bl _,H1,I1,by rw [r1.none_iff]; rfl,q1⟩)
theorem vG {j pos'} (ha : PE X a ta) : PC X .IsNot a (.Constant .none j pos') (aBn ta):=by
 intro pins s σ H Q I h
 refine thn (ha pins s σ H _ I h) fun v s1 ⟨x,H1,I1,r1,q1⟩=>?_
 exact Constant_none (isnot_none_gen ⟨.bl _,H1,I1,by rw [r1.none_iff]; rfl,q1⟩)
def tB (t : TE) : TT:=fun σ H Q=>t σ H fun x H1=>∃ c,x = .bl c∧Q c H1
theorem aCQ {op : CmpOp} {t : TE} (h : PC X op a b t) (h1 : behindInMarks op b = false:=by first | exact sF _ (by decide) (by decide) | rfl) : PE X (.Compare a [op] [b] pos) t:=fun pins s σ H Q I hw=>wpAny_Compare1 (h pins s σ H Q I hw) h1
theorem iC {op : CmpOp} {t : TE} (h : PC X op a b t) (h1 : behindInMarks op b = false:=by first | exact sF _ (by decide) (by decide) | rfl) : PT X (.Compare a [op] [b] pos) (tB t):=by
 intro pins s σ H Q I hw
 refine wpAny_isTrue_Compare1 (thn (h pins s σ H _ I hw) fun v s1 h1=>thn h1 fun u s2 h2=>thn h2 fun c s3 ⟨x,H1,I1,r1,q1⟩=>?_) h1
 obtain ⟨d,rfl,q⟩:=q1
 cases r1
 exact wpAny_truthy_bool ⟨H1,I1,q⟩
theorem cV {e : Expr} {t : TE} (h : PE X e t) (he : ∀ whole,isTrue e X.env whole = (do let v ← whole; standAt e.pos; holding [v] (truthy v)):=by intro _; rfl) : PT X e (tB t):=by
 intro pins s σ H Q I hw
 refine isTrue_plain (thn (h pins s σ H _ I hw) fun v s1 ⟨x,H1,I1,r1,q1⟩=>?_) (he _)
 obtain ⟨d,rfl,q⟩:=q1
 cases r1
 exact wpAny_truthy_bool ⟨H1,I1,q⟩
variable {tA tB' : TT} {rest : List Expr}
def tAnd (t u : TT) : TT:=fun σ H Q=>t σ H fun c H1=>if c = true then u σ H1 Q else Q false H1
def tOr (t u : TT) : TT:=fun σ H Q=>t σ H fun c H1=>if c = true then Q true H1 else u σ H1 Q
def tNot (t : TT) : TT:=fun σ H Q=>t σ H fun c H1=>Q (!c) H1
theorem iQ (ha : PT X a tA) : PW X (.BoolOp .And [a] pos) tA:=by
 intro wh pins s σ H Q I h
 refine isTrue_and (thn (ha pins s σ H Q I h) fun c s1 e=>?_)
 cases c with
 | true=>exact isTrue_and_nil e
 | false=>exact e
theorem gA (ha : PT X a tA) : PW X (.BoolOp .Or [a] pos) tA:=by
 intro wh pins s σ H Q I h
 refine isTrue_or (thn (ha pins s σ H Q I h) fun c s1 e=>?_)
 cases c with
 | false=>exact isTrue_or_nil e
 | true=>exact e
theorem iZ (ha : PT X a tA) (hb : PW X (.BoolOp .And (b :: rest) pos) tB') : PW X (.BoolOp .And (a :: b :: rest) pos) (tAnd tA tB'):=by
 intro wh pins s σ H Q I h
 refine isTrue_and (thn (ha pins s σ H _ I h) fun c s1 ⟨H1,I1,q1⟩=>?_)
 cases c with
 | true=>exact hb wh pins s1 σ H1 Q I1 q1
 | false=>exact ⟨H1,I1,q1⟩
theorem eY (ha : PT X a tA) (hb : PW X (.BoolOp .Or (b :: rest) pos) tB') : PW X (.BoolOp .Or (a :: b :: rest) pos) (tOr tA tB'):=by
 intro wh pins s σ H Q I h
 refine isTrue_or (thn (ha pins s σ H _ I h) fun c s1 ⟨H1,I1,q1⟩=>?_)
 cases c with
 | true=>exact ⟨H1,I1,q1⟩
 | false=>exact hb wh pins s1 σ H1 Q I1 q1
theorem dS (ha : PT X a tA) : PT X (.UnaryOp .Not a pos) (tNot tA):=by
 intro pins s σ H Q I h
 exact isTrue_not (ha pins s σ H (fun c H1=>Q (!c) H1) I h)
def aBo (ta tb : TE) : TE:=fun σ H Q=>ta σ H fun x H1=>∃ c,x = .bl c∧if c = true then tb σ H1 Q else Q (.bl false) H1
def aDF (ta : TE) : TE:=fun σ H Q=>ta σ H fun x H1=>∃ c,x = .bl c∧Q (.bl (!c)) H1
theorem eT {op} {t : TE} (h : PE X a t) : PE X (.BoolOp op [a] pos) t:=fun pins s σ H Q I hw=>BoolOp_one (h pins s σ H Q I hw)
theorem eI (ha : PE X a ta) (hb : PE X (.BoolOp .And (b :: rest) pos) tb) : PE X (.BoolOp .And (a :: b :: rest) pos) (aBo ta tb):=by
 intro pins s σ H Q I h
 refine BoolOp_and (thn (ha pins s σ H _ I h) fun v s1 ⟨x,H1,I1,r1,q1⟩=>?_)
 obtain ⟨c,rfl,q1⟩:=q1
 cases r1
 refine wpAny_truthy_bool ?_
 cases c with
 | true=>exact hb pins s1 σ H1 Q I1 q1
 | false=>exact ⟨.bl false,H1,I1,rfl,q1⟩
theorem yE (ha : PE X a ta) : PE X (.UnaryOp .Not a pos) (aDF ta):=by
 intro pins s σ H Q I h
 refine UnaryOp_ (thn (ha pins s σ H _ I h) fun v s1 ⟨x,H1,I1,r1,q1⟩=>?_)
 obtain ⟨c,rfl,q1⟩:=q1
 cases r1
 exact not_of (wpAny_truthy_bool ⟨.bl (!c),H1,I1,rfl,q1⟩)
def tIf (t : TT) (ta tb : TE) : TE:=fun σ H Q=>t σ H fun c H1=>if c = true then ta σ H1 Q else tb σ H1 Q
theorem aAE {c : Expr} (hc : PT X c tA) (ha : PE X a ta) (hb : PE X b tb) : PE X (.IfExp c a b pos) (tIf tA ta tb):=by
 intro pins s σ H Q I h
 refine wpAny_IfExp (thn (hc pins s σ H _ I h) fun d s1 ⟨H1,I1,q1⟩=>?_)
 cases d with
 | true=>exact ha pins s1 σ H1 Q I1 q1
 | false=>exact hb pins s1 σ H1 Q I1 q1
end
end L2
namespace L2
open PySem PySem.Spec PyProof.Rows
def SqL (K : PySem.W.Frag) (H : Hp) (a : Addr) (xs : List V) : Prop :=
 Rd H a (.lst xs) ∨
  ∃ (o : Obj) (its : Array Value) (n : Nat),K.lookup a = some o∧o.cls = .type "list" ∧ o.dict = none∧o.data = .seq its n∧its.size ≤ sizeLine∧Vals xs its.toList
def SqT (K : PySem.W.Frag) (H : Hp) (a : Addr) (xs : List V) : Prop :=
 Rd H a (.tup xs) ∨
  ∃ (o : Obj) (its : Array Value) (n : Nat),K.lookup a = some o∧o.cls = .type "tuple" ∧ o.data = .seq its n∧its.size ≤ sizeLine∧Vals xs its.toList
def absV : Value→Option V
 | .none=>some .non
 | .bool b=>some (.bl b)
 | .int i _=>some (.int i)
 | .str x _=>some (.str x)
 | .bytes b _=>some (.byt b)
 | .float b _=>some (.flt b)
 | .ref a=>some (.ref a)
 | .type n=>some (.ty n)
 | _=>none
theorem RelV.abs {x : V} {u : Value} (r : RelV x u) : absV u = some x:=by
 cases x with
 | non=>cases r; rfl
 | bl _=>cases r; rfl
 | int _=>obtain ⟨t,rfl⟩:=r; rfl
 | str _=>obtain ⟨t,rfl⟩:=r; rfl
 | byt _=>obtain ⟨t,rfl⟩:=r; rfl
 | flt _=>obtain ⟨t,rfl⟩:=r; rfl
 | ref _=>cases r; rfl
 | ty _=>cases r; rfl
theorem RelV.inj {x y : V} {u : Value} (r : RelV x u) (q : RelV y u) : x = y:=Option.some.inj (r.abs.symm.trans q.abs)
theorem Vals.inj : ∀ {xs ys : List V} {us : List Value},Vals xs us→Vals ys us→xs = ys
 | _,_,_,.nil,.nil=>rfl
 | _,_,_,.cons r t,.cons r' t'=>by rw [r.inj r',Vals.inj t t']
section
variable {X : Cx} {pins : List (Addr × Obj)} {σ : St} {H : Hp} {s : Shared} {a : Addr} {xs ys : List V}
theorem SqL.of {K : PySem.W.Frag} (h : H a = some (.lst xs)) : SqL K H a xs:=.inl (.inl h)
theorem SqT.of {K : PySem.W.Frag} (h : H a = some (.tup xs)) : SqT K H a xs:=.inl (.inl h)
theorem Inv.list (I : Inv X pins σ H s) (h : SqL X.K H a xs) : ∃ its : List Value,Vals xs its∧PlainL s.heap a its.toArray∧xs.length ≤ sizeLine:=by
 rcases h with h | ⟨o,its,n,hk,hc,hd,hs,hz,r⟩
 ·obtain ⟨z,its,n,r,e⟩:=h.ok I.hok
  exact ⟨its,r,⟨_,n,e,rfl,rfl,rfl⟩,z⟩
 ·refine ⟨its.toList,r,⟨o,n,I.kIn a o hk,hc,hd,by simpa using hs⟩,?_⟩
  have e:=r.length
  simp only [Array.length_toList] at e
  omega
theorem Inv.tuple (I : Inv X pins σ H s) (h : SqT X.K H a xs) : ∃ its : List Value,Vals xs its∧IsTup s.heap a its.toArray∧xs.length ≤ sizeLine:=by
 rcases h with h | ⟨o,its,n,hk,hc,hs,hz,r⟩
 ·obtain ⟨z,its,r,p⟩:=h.ok I.hok
  exact ⟨its,r,p,z⟩
 ·refine ⟨its.toList,r,⟨o,I.kIn a o hk,hc,n,by simpa using hs⟩,?_⟩
  have e:=r.length
  simp only [Array.length_toList] at e
  omega
theorem Inv.list_inj (I : Inv X pins σ H s) (h : SqL X.K H a xs) (h' : SqL X.K H a ys) : xs = ys:=by
 obtain ⟨its,r,⟨o,n,e,_,_,d⟩,_⟩:=I.list h
 obtain ⟨its',r',⟨o',n',e',_,_,d'⟩,_⟩:=I.list h'
 rw [e] at e'; cases e'
 rw [d] at d'
 injection d' with d1 _
 have : its = its':=by simpa using congrArg Array.toList d1
 subst this
 exact r.inj r'
theorem Inv.tuple_inj (I : Inv X pins σ H s) (h : SqT X.K H a xs) (h' : SqT X.K H a ys) : xs = ys:=by
 obtain ⟨its,r,⟨o,e,_,n,d⟩,_⟩:=I.tuple h
 obtain ⟨its',r',⟨o',e',_,n',d'⟩,_⟩:=I.tuple h'
 rw [e] at e'; cases e'
 rw [d] at d'
 injection d' with d1 _
 have : its = its':=by simpa using congrArg Array.toList d1
 subst this
 exact r.inj r'
end
abbrev Cx.wish (X : Cx) (E : Value→Shared→Prop) : Cx:={ X with xe:=E }
abbrev Cx.nox (X : Cx) : Cx:=X.wish fun _ _=>False
theorem Cx.Ok.wish {X : Cx} (ok : X.Ok) (E : Value→Shared→Prop) : (X.wish E).Ok :=
 ⟨ok.mod,ok.kind,ok.glob,ok.blt,ok.above,ok.inj,ok.has,ok.cab,ok.hd,ok.frames,ok.stk,ok.exf,ok.bs,ok.bsz,ok.noex,ok.exfs,ok.funs,ok.frf⟩
theorem Cx.Ok.unwish {X : Cx} {E : Value→Shared→Prop} (ok : (X.wish E).Ok) : X.Ok :=
 ⟨ok.mod,ok.kind,ok.glob,ok.blt,ok.above,ok.inj,ok.has,ok.cab,ok.hd,ok.frames,ok.stk,ok.exf,ok.bs,ok.bsz,ok.noex,ok.exfs,ok.funs,ok.frf⟩
section
variable {X : Cx} {pins : List (Addr × Obj)} {σ : St} {H : Hp} {s : Shared} {E : Value→Shared→Prop}
theorem Inv.wish (I : Inv X pins σ H s) (E : Value→Shared→Prop) : Inv (X.wish E) pins σ H s:=⟨I.ok.wish E,I.os,I.bare,I.base,I.loc,I.cell,I.free,I.freeC,I.pin,I.hok,I.len⟩
theorem Inv.unwish (I : Inv (X.wish E) pins σ H s) : Inv X pins σ H s:=⟨I.ok.unwish,I.os,I.bare,I.base,I.loc,I.cell,I.free,I.freeC,I.pin,I.hok,I.len⟩
theorem SP.unwish {D : Ends} {f : Flow} {s' : Shared} (h : SP (X.wish E) pins D f s') : SP X pins D f s':=by
 cases f with
 | next=>obtain ⟨σ',H',I,q⟩:=h; exact ⟨σ',H',I.unwish,q⟩
 | brk=>obtain ⟨σ',H',I,q⟩:=h; exact ⟨σ',H',I.unwish,q⟩
 | cont=>obtain ⟨σ',H',I,q⟩:=h; exact ⟨σ',H',I.unwish,q⟩
 | ret u=>obtain ⟨v,σ',H',I,r,q⟩:=h; exact ⟨v,σ',H',I.unwish,r,q⟩
theorem PSs.nox {st : List Stmt} {t : TS} (h : PSs X.nox st t) : PSs X st t:=fun pins s σ H D I hw =>
 wpAny_mono (h pins s σ H D (I.wish _) hw) (fun _ _ q=>q.unwish) fun _ _ z=>False.elim z
end
section
variable {X : Cx} {st : Stmt} {rest : List Stmt} {t u : TS} {e : Expr} {te : TE} {pos : Pos}
def aDG : TS:=fun D σ H=>D.nx σ H
def tSeq (t u : TS) : TS:=fun D σ H=>t { D with nx:=u D } σ H
theorem bE : PSs X [] aDG:=fun _ _ σ H _ I h=>wpAny_execs_nil ⟨σ,H,I,h⟩
theorem aH (h1 : PS X st t) (h2 : PSs X rest u) : PSs X (st :: rest) (tSeq t u):=by
 intro pins s σ H D I h
 refine wpAny_execs_cons (thn (h1 pins s σ H { D with nx:=u D } I h) fun f s1 q=>?_)
 cases f with
 | next =>
  obtain ⟨σ',H',I',q⟩:=q
  exact h2 pins s1 σ' H' D I' q
 | ret v=>exact q
 | brk=>exact q
 | cont=>exact q
theorem aK (h1 : PS X st t) : PSs X [st] t:=by
 intro pins s σ H D I h
 refine wpAny_execs_cons (thn (h1 pins s σ H D I h) fun f s1 q=>?_)
 cases f with
 | next=>exact wpAny_execs_nil q
 | ret v=>exact q
 | brk=>exact q
 | cont=>exact q
theorem Inv.quiet {pins : List (Addr × Obj)} {σ : St} {H : Hp} {s : Shared} (I : Inv X pins σ H s) : interactive X.env = false:=by simp [interactive,I.ok.kind]
def aDH (te : TE) : TS:=fun D σ H=>te σ H fun _ H1=>D.nx σ H1
theorem bR (he : PE X e te) (hs : swapsWith e none pos.line X.env = pure false:=by rfl) : PS X (.Expr e pos) (aDH te):=by
 intro pins s σ H D I h
 exact wpAny_Expr_any (thn (he pins s σ H _ I h) fun v s1 ⟨x,H1,I1,r1,q1⟩=>⟨σ,H1,I1,q1⟩) I.quiet hs
def tRet (te : TE) : TS:=fun D σ H=>te σ H D.rt
theorem bB (he : PE X e te) : PS X (.Return (some e) pos) (tRet te):=by
 intro pins s σ H D I h
 exact wpAny_Return_some (thn (he pins s σ H _ I h) fun v s1 ⟨x,H1,I1,r1,q1⟩=>⟨x,σ,H1,I1,r1,q1⟩)
def tIfS (c : TT) (t u : TS) : TS:=fun D σ H=>c σ H fun b H1=>if b = true then t D σ H1 else u D σ H1
theorem bN {c : Expr} {a b : List Stmt} {tc : TT} (hc : PT X c tc) (ha : PSs X a t) (hb : PSs X b u) : PS X (.If c a b pos) (tIfS tc t u):=by
 intro pins s σ H D I h
 refine wpAny_If (thn (hc pins s σ H _ I h) fun d s1 ⟨H1,I1,q1⟩=>?_)
 cases d with
 | true=>exact ha pins s1 σ H1 D I1 q1
 | false=>exact hb pins s1 σ H1 D I1 q1
def aCR : TS:=fun _ _ _=>False
theorem cK {sts : List Stmt} : PSs X sts aCR:=fun _ _ _ _ _ _ h=>h.elim
end
abbrev TG:=V→St→Hp→(St→Hp→Prop)→Prop
abbrev TGs:=List V→St→Hp→(St→Hp→Prop)→Prop
def PG (X : Cx) (target : Expr) (t : TG) : Prop :=
 ∀ (pins : List (Addr × Obj)) (s : Shared) (σ : St) (H : Hp) (v : V) (u : Value) (Q : St→Hp→Prop),Inv X pins σ H s→RelV v u→t v σ H Q →
  wpAny (model X.prog X.w) X.A (assign target X.env u) (fun _ s'=>∃ σ' H',Inv X pins σ' H' s'∧Q σ' H') X.xe s
def PGs (X : Cx) (ts : List Expr) (t : TGs) : Prop :=
 ∀ (pins : List (Addr × Obj)) (s : Shared) (σ : St) (H : Hp) (vs : List V) (us : List Value) (Q : St→Hp→Prop),Inv X pins σ H s→Vals vs us→t vs σ H Q →
  wpAny (model X.prog X.w) X.A (assignInOrder ((assignEach ts X.env).map (·.2)) us) (fun _ s'=>∃ σ' H',Inv X pins σ' H' s'∧Q σ' H') X.xe s
abbrev TSet:=V→V→V→Hp→(Hp→Prop)→Prop
def PSet (X : Cx) (t : TSet) : Prop :=
 ∀ (pins : List (Addr × Obj)) (s : Shared) (σ : St) (H : Hp) (o i v : V) (ov iv u : Value) (Q : Hp→Prop),Inv X pins σ H s→RelV o ov→RelV i iv→RelV v u→t o i v H Q →
  wpAny (model X.prog X.w) X.A (setItem ov iv u) (fun _ s'=>∃ H',Inv X pins σ H' s'∧Q H') X.xe s
abbrev TIp:=V→V→Hp→VK→Prop
def PIp (X : Cx) (op : Operator) (t : TIp) : Prop :=
 ∀ (pins : List (Addr × Obj)) (s : Shared) (σ : St) (H : Hp) (x y : V) (v u : Value) (Q : VK),Inv X pins σ H s→RelV x v→RelV y u→t x y H Q →
  wpAny (model X.prog X.w) X.A (inplaceOp op v u) (EP X pins σ Q) X.xe s
section
variable {X : Cx} {pos : Pos}
def bG (i : Nat) : TG:=fun v σ H Q=>Q (σ.set i (some v)) H
theorem aM {i : Nat} {x : Str} (hN : X.N.Nodup) (hi : X.N[i]? = some x) (hx : Loc X.env.scope x) (hf : X.fn x = true∨X.env.scope.names.lookup x = some .local:=by first | exact .inl rfl | exact .inr rfl | assumption) : PG X (.Name x pos) (bG i):=by
 intro pins s σ H v u Q I r h
 exact wpAny_assign_Name (mY I hN hi hx r (fun s' I'=>⟨_,H,I',h⟩) hf)
def gNil : TGs:=fun vs σ H Q=>vs = []∧Q σ H
def cS (t : TG) (u : TGs) : TGs:=fun vs σ H Q=>∃ v r,vs = v :: r∧t v σ H fun σ' H'=>u r σ' H' Q
theorem cM : PGs X [] gNil:=by
 intro pins s σ H vs us Q I r h
 obtain ⟨e,h⟩:=h
 subst e
 cases r
 exact assignInOrder_nil ⟨σ,H,I,h⟩
theorem bD {e : Expr} {es : List Expr} {t : TG} {u : TGs} (h1 : PG X e t) (h2 : PGs X es u)
  (hs : (assignEach (e :: es) X.env).map (·.2) = assign e X.env :: (assignEach es X.env).map (·.2):=by rfl) : PGs X (e :: es) (cS t u):=by
 intro pins s σ H vs us Q I r h
 obtain ⟨v,vr,e1,h⟩:=h
 subst e1
 cases r with
 | cons r rr =>
  rw [hs]
  refine assignInOrder_cons (thn (h1 pins s σ H _ _ _ I r h) fun _ s1 ⟨σ1,H1,I1,q1⟩=>?_)
  exact h2 pins s1 σ1 H1 _ _ Q I1 rr q1
def gTup (K : PySem.W.Frag) (n : Nat) (t : TGs) : TG:=fun v σ H Q=>∃ a xs,v = .ref a∧SqT K H a xs∧xs.length = n∧t xs σ H Q
theorem dE {es : List Expr} {k : Nat} {t : TGs} {n : Nat} (hc : X.calm = true) (h : PGs X es t)
  (hn : (assignEach es X.env).length = n:=by rfl) (hst : (assignEach es X.env).findIdx? (·.1) = none:=by rfl) : PG X (.Tuple es k pos) (gTup X.K n t):=by
 intro pins s σ H v u Q I r hw
 obtain ⟨a,xs,e1,hq,hl,hw⟩:=hw
 subst e1
 cases r
 obtain ⟨its,rv,ht,hz⟩:=I.tuple hq
 refine assign_Tuple_tuple (I.ok.hd hc) ht (by simp [hn,← hl,rv.length]) hst fun h' hx=>?_
 have I1 : Inv X pins σ H { s with heap:=h' }:=I.kept (t':=s.toks) fun b o e=>hx b o (Nat.ne_of_lt (Heap.lt_size e)) e
 exact h pins _ σ H xs _ Q I1 (by simpa using rv) hw
def gSub (to ti : TE) (t : TSet) : TG:=fun v σ H Q=>to σ H fun o H1=>ti σ H1 fun i H2=>t o i v H2 fun H3=>Q σ H3
theorem jA {o i : Expr} {to ti : TE} {t : TSet} (ho : PE X o to) (hi : PE X i ti) (hs : PSet X t)
  (ha : ∀ v,assign (.Subscript o i pos) X.env v = (do
   let ov ← holding [v] (eval o X.env)
   let iv ← holding [v,ov] (eval i X.env)
   standAt pos
   holding [v,ov,iv] (setItem ov iv v)
   release [v,ov,iv] []):=by intro _; rfl) : PG X (.Subscript o i pos) (gSub to ti t):=by
 intro pins s σ H v u Q I r h
 rw [ha]
 refine wpAny_bind (wpAny_holding (thn (ho pins s σ H _ I h) fun ov s1 ⟨x,H1,I1,r1,q1⟩=>?_))
 refine wpAny_bind (wpAny_holding (thn (hi pins s1 σ H1 _ I1 q1) fun iv s2 ⟨y,H2,I2,r2,q2⟩=>?_))
 refine wpAny_bind (wpAny_standAt (wpAny_bind (wpAny_holding (thn (hs pins s2 σ H2 x y v ov iv u _ I2 r1 r2 r q2) fun _ s3 ⟨H3,I3,q3⟩=>?_))))
 exact wpAny_release ⟨σ,H3,I3,q3⟩
def tAsg (te : TE) (g : TG) : TS:=fun D σ H=>te σ H fun x H1=>g x σ H1 D.nx
theorem fH {tg e : Expr} {te : TE} {g : TG} (he : PE X e te) (hg : PG X tg g) (hs : swapsWithSole [tg] e pos.line X.env = pure false:=by rfl) (hw : swappedStores [tg] e X.env = pure none:=by rfl)
  (h1 : (assignEach [tg] X.env).map (·.2) = [assign tg X.env]:=by rfl) : PS X (.Assign [tg] e pos) (tAsg te g):=by
 intro pins s σ H D I h
 refine wpAny_Assign_stores (thn (he pins s σ H _ I h) fun v s1 ⟨x,H1,I1,r1,q1⟩=>?_) hs hw
 rw [h1]
 exact thn (hg pins s1 σ H1 x v _ I1 r1 q1) fun _ s2 q=>q
theorem aV {i : Nat} {x : Str} {e : Expr} {te : TE} {pos' : Pos} (hN : X.N.Nodup) (hi : X.N[i]? = some x) (hx : Loc X.env.scope x) (he : PE X e te) (hs : swapsWith e (some (.Name x pos')) pos.line X.env = pure false:=by rfl) (hf : X.fn x = true∨X.env.scope.names.lookup x = some .local:=by first | exact .inl rfl | exact .inr rfl | assumption) :
  PS X (.Assign [.Name x pos'] e pos) (tAsg te (bG i)):=by
 intro pins s σ H D I h
 refine wpAny_Assign_Name (thn (he pins s σ H _ I h) fun v s1 ⟨y,H1,I1,r1,q1⟩=>?_) hs
 exact mY I1 hN hi hx r1 (fun s2 I2=>⟨_,H1,I2,q1⟩) hf
def tAug (i : Nat) (te : TE) (ti : TIp) : TS:=fun D σ H=>∃ x,σ[i]? = some (some x)∧te σ H fun y H1=>ti x y H1 fun z H2=>D.nx (σ.set i (some z)) H2
theorem aCS {i : Nat} {x : Str} {e : Expr} {te : TE} {op : Operator} {ti : TIp} {pos' : Pos} (hN : X.N.Nodup) (hi : X.N[i]? = some x) (hx : Loc X.env.scope x) (he : PE X e te) (ho : PIp X op ti) (hf : X.fn x = true∨X.env.scope.names.lookup x = some .local:=by first | exact .inl rfl | exact .inr rfl | assumption) :
  PS X (.AugAssign (.Name x pos') op e pos) (tAug i te ti):=by
 intro pins s σ H D I h
 obtain ⟨v,e1,h⟩:=h
 obtain ⟨m,hn,hl⟩:=I.loc
 have vis : Vis X.env.scope x:=by rcases hx with k | k; exact .inl k; exact .inr (.inl k)
 obtain ⟨u,r,l⟩:=hl i x v hi e1 vis
 refine wpAny_AugAssign_Name ?_
 have go : wpAny (model X.prog X.w) X.A (eval e X.env) (fun w s₂=>wpAny (model X.prog X.w) X.A (inplaceOp op u w) (fun r s₃=>wpAny (model X.prog X.w) X.A (storeName X.env x r) (fun _=>SP X pins D .next) X.xe s₃) X.xe s₂) X.xe s:=by
  refine thn (he pins s σ H _ I h) fun w s1 ⟨y,H1,I1,r1,q1⟩=>?_
  refine thn (ho pins s1 σ H1 v y u w _ I1 r r1 q1) fun z s2 ⟨zv,H2,I2,r2,q2⟩=>?_
  exact mY I2 hN hi hx r2 (fun s3 I3=>⟨_,H2,I3,q2⟩) hf
 rcases l with ⟨hk,hm⟩ | ⟨hk,c,hc,hcell⟩
 ·exact wpAny_loadName_local I.ok.kind hk hn hm go
 ·rcases hk with hk | hk
  ·exact wpAny_loadName_cell I.ok.kind hk hc hcell go
  ·rcases hx with k | k
   ·have : X.env.scope.names.lookup x = some .free:=hk
    rw [k] at this; cases this
   ·have : X.env.scope.names.lookup x = some .free:=hk
    rw [k] at this; cases this
def ipI (f : Int→Int→Int) : TIp:=fun x y H Q=>∃ i j,x = .int i∧y = .int j∧Q (.int (f i j)) H
theorem aCT : PIp X .Add (ipI fun i j=>i + j):=by
 intro pins s σ H x y v u Q I r1 r2 h
 obtain ⟨i,j,e1,e2,q⟩:=h
 subst e1; subst e2
 obtain ⟨t,rfl⟩:=r1
 obtain ⟨t',rfl⟩:=r2
 exact iadd_int ⟨.int _,H,I.tok _,⟨_,rfl⟩,q⟩
end
section
variable {X : Cx} {pos : Pos}
def yF (c : TT) (tb : TS) : TS:=fun D σ H=>∃ W : Nat→St→Hp→Prop,(∃ m,W m σ H)∧∀ m σ H,W m σ H →
 c σ H fun b H1=>if b = true then ∃ N : St→Hp→Prop,(∀ σ' H',N σ' H'→∃ m',m' < m∧W m' σ' H')∧tb { D with nx:=N,ct:=N,bk:=D.nx } σ H1 else D.nx σ H1
theorem sG {c : Expr} {body : List Stmt} {tc : TT} {tb : TS} (hp : PassesOwn (model X.prog X.w) X.A X.env X.xe) (hc : PT X c tc) (hb : PSs X body tb) : PS X (.While c body [] pos) (yF tc tb):=by
 intro pins s σ H D I h
 obtain ⟨W,⟨m0,w0⟩,turn⟩:=h
 refine wpAny_While (codeAny_whileLoop (fun n s'=>∃ σ' H',Inv X pins σ' H' s'∧W n σ' H') ?_ m0 ⟨σ,H,I,w0⟩)
 rintro n s1 ⟨σ1,H1,I1,w1⟩
 refine wpAny_passesOwn hp (thn (hc pins s1 σ1 H1 _ I1 (turn n σ1 H1 w1)) fun b s2 ⟨H2,I2,q2⟩=>?_)
 cases b with
 | true =>
  obtain ⟨N,hN,q2⟩:=q2
  rw [if_pos rfl]
  refine wpAny_passesOwn hp (thn (hb pins s2 σ1 H2 _ I2 q2) fun f s3 q3=>?_)
  cases f with
  | next =>
   obtain ⟨σ3,H3,I3,n3⟩:=q3
   obtain ⟨m',hm,w3⟩:=hN σ3 H3 n3
   exact ⟨m',hm,σ3,H3,I3,w3⟩
  | cont =>
   obtain ⟨σ3,H3,I3,n3⟩:=q3
   obtain ⟨m',hm,w3⟩:=hN σ3 H3 n3
   exact ⟨m',hm,σ3,H3,I3,w3⟩
  | brk=>exact q3
  | ret v=>exact q3
 | false =>
  rw [if_neg Bool.false_ne_true]
  exact wpAny_execs_nil ⟨σ1,H2,I2,q2⟩
end
structure It where
 go : Nat→Hp→Prop
 yld : Nat→Hp→V→Hp→Prop
 stop : Nat→Hp→Prop
def FpOk (X : Cx) (pins : List (Addr × Obj)) (H : Hp) (b : Addr) : Prop :=
 H b = none∧b ≠ X.env.locals∧b ∉ X.fs∧(b∈X.ex∨X.s₀.heap.objs.size ≤ b)∧(∀ x c,X.env.cells.lookup x = some c→c ≠ b)∧∀ p∈X.pn ++ pins,p.1 ≠ b
theorem Inv.fpOk {X : Cx} {pins : List (Addr × Obj)} {σ : St} {H H' : Hp} {s : Shared} {b : Addr} (I : Inv X pins σ H s) (hb : s.heap.objs.size ≤ b) (hn : H' b = none) : FpOk X pins H' b:=by
 refine ⟨hn,Nat.ne_of_gt (Nat.lt_of_lt_of_le I.lt hb),I.nofs hb,.inr (Nat.le_trans I.sz hb),fun x c e z=>?_,fun p hp z=>?_⟩
 ·obtain ⟨v,q⟩:=I.cell x c e
  exact absurd (Nat.lt_of_lt_of_le q.lt (by rw [z]; exact hb)) (Nat.lt_irrefl _)
 ·exact absurd (Nat.lt_of_lt_of_le (Heap.lt_size (I.pin p hp).1) (by rw [z]; exact hb)) (Nat.lt_irrefl _)
structure Turn (P : Program) (w : World) (K : PySem.W.Frag) (tg : Expr) (J : It) (fp : List Addr) (it : Addr) (tn : Nat→Heap→Prop) : Prop where
 mem : it∈fp
 obj : ∀ i h,tn i h→∀ b∈fp,∃ o,h.get? b = some o∧∀ v,o.data ≠ .cell v
 keep : ∀ i h h',tn i h→(∀ b∈fp,∀ o,h.get? b = some o→h'.get? b = some o)→tn i h'
 item : ∀ (X : Cx),X.prog = P→X.w = w→X.K = K→X.calm = true→∀ (i : Nat) (pins : List (Addr × Obj)) (s : Shared) (σ : St) (H : Hp) (E : Value→Shared→Prop),Inv X pins σ H s→(∀ b∈fp,FpOk X pins H b)→tn i s.heap→J.go i H →
  wpAny (model P w) X.A (pyNext (.ref it)) (fun r s1=>∃ u,r = some u ∧
   wpAny (model P w) X.A (letOwnedTupleGo tg (.ref it) u) (fun _ s2=>∃ x H',Inv X pins σ H' s2∧RelV x u∧J.yld i H x H'∧tn (i + 1) s2.heap∧∀ b∈fp,H' b = none) E s1) E s
 done : ∀ (X : Cx),X.prog = P→X.w = w→X.K = K→X.calm = true→∀ (i : Nat) (pins : List (Addr × Obj)) (s : Shared) (σ : St) (H : Hp) (E : Value→Shared→Prop),Inv X pins σ H s→(∀ b∈fp,FpOk X pins H b)→tn i s.heap→J.stop i H →
  wpAny (model P w) X.A (pyNext (.ref it)) (fun r s1=>r = none∧Inv X pins σ H s1) E s
 self : ∀ (A : Around) (i : Nat) (s : Shared) (Q : Value→Shared→Prop) (E : Value→Shared→Prop),tn i s.heap→Q (.ref it) s→wpAny (model P w) A (pyIter (.ref it)) Q E s
abbrev TI:=St→Hp→(It→Hp→Prop)→Prop
def PIE (X : Cx) (pins : List (Addr × Obj)) (σ : St) (tg : Expr) (R : It→Hp→Prop) (itv : Value) (s2 : Shared) : Prop :=
 ∃ (it : Addr) (fp : List Addr) (tn : Nat→Heap→Prop) (J : It) (H' : Hp),itv = .ref it∧Inv X pins σ H' s2∧Turn X.prog X.w X.K tg J fp it tn∧tn 0 s2.heap∧(∀ b∈fp,FpOk X pins H' b)∧R J H'
def PI (X : Cx) (tg iter : Expr) (wi : TI) : Prop :=
 ∀ (pins : List (Addr × Obj)) (s : Shared) (σ : St) (H : Hp) (R : It→Hp→Prop),Inv X pins σ H s→wi σ H R →
  wpAny (model X.prog X.w) X.A (eval iter X.env) (fun v s1=>wpAny (model X.prog X.w) X.A (pyIter v) (PIE X pins σ tg R) X.xe s1) X.xe s
theorem wI {M : Model} {A : Around} {E : Value → Shared → Prop} {s : Shared} {tg : Expr} {it : Addr} {u : Value} {o : Obj} {n : String} {vs : Array Value} {Q : Unit → Shared → Prop} (ho : s.heap.get? it = some o) (hc : o.cls = .type n) (hd : o.data = .fields vs)
    (hn : ["enumerate", "zip", "dict_itemiterator", "dict_reverseitemiterator", "odict_iterator", "itertools.zip_longest", "itertools.pairwise"].contains n = false) (hQ : Q () s) : wpAny M A (letOwnedTupleGo tg (.ref it) u) Q E s := by
  unfold letOwnedTupleGo
  cases tg <;> first
    | exact wpAny_pure hQ
    | (cases u <;> first
        | exact wpAny_pure hQ
        | (refine wpAny_bind (wpAny_load ho ?_)
           rw [hc, hd]
           show wpAny M A (if (["enumerate", "zip", "dict_itemiterator", "dict_reverseitemiterator", "odict_iterator", "itertools.zip_longest", "itertools.pairwise"].contains n && vs[0]? == some (rawInt _)) = true then _ else _) Q E s
           rw [if_neg (by intro h; rw [hn, Bool.false_and] at h; cases h)]
           exact wpAny_pure hQ))
def Itl (K : PySem.W.Frag) (a : Addr) : It :=
 ⟨fun i H=>∃ xs x,SqL K H a xs∧xs[i]? = some x,fun i H x H'=>H' = H∧∀ xs,SqL K H a xs→xs[i]? = some x,fun i H=>∃ xs,SqL K H a xs∧xs.length ≤ i⟩
def Itr (lo : Int) (n : Nat) : It:=⟨fun i _=>i < n,fun i H x H'=>H' = H∧x = .int (lo + i),fun i _=>n ≤ i⟩
theorem yG {P : Program} {w : World} {K : PySem.W.Frag} {tg : Expr} (a it : Addr) : Turn P w K tg (Itl K a) [it] it (fun i h=>h.IsListIter it a i) where
 mem:=by simp
 obj:=fun i h st b hb=>by
  have e : b = it:=by simpa using hb
  subst e
  obtain ⟨o,e,c,d⟩:=st
  exact ⟨o,e,fun v z=>by rw [d] at z; cases z⟩
 keep:=fun i h h' st k=>st.at fun o e=>k it (by simp) o e
 item:=by
  intro X hP hw hK hc i pins s σ H E I hf st hg
  subst hP hw hK
  obtain ⟨xs,x,hq,hx⟩:=hg
  obtain ⟨its,rv,p,hz⟩:=I.list hq
  obtain ⟨u,hu,ru⟩:=rv.get hx
  obtain ⟨f0,f1,f2,f3,f4,f5⟩:=hf it (by simp)
  refine wpAny_pyNext_list_item st p.isList (x:=u) (by simpa using hu) fun h' st' sb=>?_
  have I1 : Inv X pins σ H { s with heap:=h' }:=I.turned (t':=s.toks) (fun b o hb e=>(sb.2 b hb).trans e) f0 f1 f3 f4 f5
  obtain ⟨o,e,c,d⟩:=id st'
  exact ⟨u,rfl,wI (s:={ s with heap:=h' }) e c d (by decide) ⟨x,H,I1,ru,⟨rfl,fun ys hy=>by rw [I.list_inj hy hq]; exact hx⟩,st',fun b hb=>(hf b hb).1⟩⟩
 done:=by
  intro X hP hw hK hc i pins s σ H E I hf st hg
  subst hP hw hK
  obtain ⟨xs,hq,hx⟩:=hg
  obtain ⟨its,rv,p,hz⟩:=I.list hq
  obtain ⟨f0,f1,f2,f3,f4,f5⟩:=hf it (by simp)
  have hl:=rv.length
  exact wpAny_pyNext_list_end (I.ok.hd hc) st p.isList (by simp; omega) fun h' eb=>⟨rfl,I.turned (t':=s.toks) (fun b o hb e=>eb b o hb e) f0 f1 f3 f4 f5⟩
 self:=fun _ _ _ _ _ st h=>wpAny_pyIter_listiter st h
theorem wJ {P : Program} {w : World} {K : PySem.W.Frag} {tg : Expr} (it : Addr) (lo : Int) (n : Nat) : Turn P w K tg (Itr lo n) [it] it (fun i h=>IsRangeIter h it (lo + (i : Nat) * 1) ((n : Int) - (i : Nat)) 1) where
 mem:=by simp
 obj:=fun i h st b hb=>by
  have e : b = it:=by simpa using hb
  subst e
  exact ⟨_,st,fun v z=>by
   have z' : Data.fields _ = Data.cell v:=z
   cases z'⟩
 keep:=fun i h h' st k=>k it (by simp) _ st
 item:=by
  intro X hP hw hK hc i pins s σ H E I hf st hg
  subst hP hw hK
  obtain ⟨f0,f1,f2,f3,f4,f5⟩:=hf it (by simp)
  have W:=Walks.range (prog:=X.prog) (w:=X.w) (I.ok.hd hc) it lo 1 n
  refine W.item i s _ _ hg st fun v h' tk hv st' kk=>?_
  obtain ⟨t,rfl⟩:=hv
  have I1 : Inv X pins σ H { s with heap:=h',toks:=tk }:=I.turned (fun b o hb e=>kk b o (by simpa using hb) e) f0 f1 f3 f4 f5
  refine ⟨_,rfl,wI (s:={ s with heap:=h',toks:=tk }) (n := "range_iterator") st' rfl rfl (by decide) ⟨.int (lo + i),H,I1,⟨t,?_⟩,⟨rfl,rfl⟩,st',fun b hb=>(hf b hb).1⟩⟩
  rw [Int.mul_one]
 done:=by
  intro X hP hw hK hc i pins s σ H E I hf st hg
  subst hP hw hK
  obtain ⟨f0,f1,f2,f3,f4,f5⟩:=hf it (by simp)
  exact wpAny_pyNext_range_end (I.ok.hd hc) st (by have : n ≤ i:=hg; omega) fun h' eb=>⟨rfl,I.turned (t':=s.toks) (fun b o hb e=>eb b o hb e) f0 f1 f3 f4 f5⟩
 self:=fun _ _ _ _ _ st h=>wpAny_pyIter_rangeiter st h
end L2
namespace L2
open PySem PySem.Spec PyProof.Rows
section
variable {X : Cx} {tg : Expr}
def aDI (K : PySem.W.Frag) (tl : TE) : TI:=fun σ H R=>tl σ H fun x H1=>∃ a,x = .ref a∧(∃ xs,SqL K H1 a xs)∧R (Itl K a) H1
theorem cF {l : Expr} {tl : TE} (hl : PE X l tl) : PI X tg l (aDI X.K tl):=by
 intro pins s σ H R I h
 refine thn (hl pins s σ H _ I h) fun v s1 ⟨x,H1,I1,r1,q1⟩=>?_
 obtain ⟨a,e,⟨xs,hq⟩,q⟩:=q1
 subst e
 cases r1
 obtain ⟨its,rv,p,hz⟩:=I1.list hq
 refine wpAny_pyIter_list p.isList ?_
 refine ⟨s1.heap.objs.size,[s1.heap.objs.size],_,_,H1,rfl,I1.kept (t':=s1.toks) fun b o e=>Heap.get?_push_of_some _ e,yG a _,⟨_,Heap.get?_push_size _ rfl,rfl,rfl⟩,fun b hb=>?_,q⟩
 have e : b = s1.heap.objs.size:=by simpa using hb
 subst e
 exact I1.fpOk (Nat.le_refl _) (I1.hok.fresh (Nat.le_refl _))
theorem sH {pins : List (Addr × Obj)} {σ : St} {H : Hp} {s : Shared} {R : It→Hp→Prop} {E : Value→Shared→Prop} {lo hi : Int} {t u v : Tok} {tk : Nat} (I : Inv X pins σ H s) (h1 : -(2 ^ 62) ≤ lo) (h2 : lo < 2 ^ 62) (h3 : -(2 ^ 62) ≤ hi) (h4 : hi < 2 ^ 62)
  (q : R (Itr lo (hi - lo).toNat) H) : wpAny (model X.prog X.w) X.A (pyIter (.ref s.heap.objs.size)) (PIE X pins σ tg R) E { s with heap:=s.heap.push { cls:=.type "range",data:=.fields #[.int lo t,.int hi u,.int 1 v] },toks:=tk }:=by
 refine wpAny_pyIter_range (IsRange.new ..) (small_one h1 h2 h3 h4) ?_
 have I1 : Inv X pins σ H { s with heap:=s.heap.push { cls:=.type "range",data:=.fields #[.int lo t,.int hi u,.int 1 v] },toks:=tk }:=I.kept fun b o e=>Heap.get?_push_of_some _ e
 refine ⟨(s.heap.push { cls:=.type "range",data:=.fields #[.int lo t,.int hi u,.int 1 v] }).objs.size,[(s.heap.push { cls:=.type "range",data:=.fields #[.int lo t,.int hi u,.int 1 v] }).objs.size],_,_,H,rfl,
  I1.kept (t':=tk) fun b o e=>Heap.get?_push_of_some _ e,wJ _ lo (hi - lo).toNat,?_,fun b hb=>?_,q⟩
 ·have e1 : lo + ((0 : Nat) : Int) * 1 = lo:=by simp
  have e2 : (((hi - lo).toNat : Nat) : Int) - ((0 : Nat) : Int) = Builtin.Range.rangeSize lo hi 1:=by rw [rangeSize_one]; split <;> omega
  show IsRangeIter _ _ (lo + ((0 : Nat) : Int) * 1) ((((hi - lo).toNat : Nat) : Int) - ((0 : Nat) : Int)) 1
  rw [e1,e2]
  exact Heap.get?_push_size _ rfl
 ·have e : b = (s.heap.push { cls:=.type "range",data:=.fields #[.int lo t,.int hi u,.int 1 v] }).objs.size:=by simpa using hb
  subst e
  exact I1.fpOk (Nat.le_refl _) (I1.hok.fresh (Nat.le_refl _))
def aDJ (ta : TA) : TI:=fun σ H R=>ta σ H fun vs H1=>∃ j : Int,vs = [.int j]∧-(2 ^ 62) ≤ j∧j < 2 ^ 62∧R (Itr 0 j.toNat) H1
def aDK (ta : TA) : TI:=fun σ H R=>ta σ H fun vs H1=>∃ i j : Int,vs = [.int i,.int j]∧(-(2 ^ 62) ≤ i∧i < 2 ^ 62∧-(2 ^ 62) ≤ j∧j < 2 ^ 62)∧R (Itr i (j - i).toNat) H1
theorem cB {a : Expr} {ta : TA} {p pos : Pos} (hg : Gl X "range") (hm : X.mg "range" = none) (ha : PA X [a] ta) (hs : starEach [a] X.env = [(false,eval a X.env)]:=by rfl) : PI X tg (.Call (.Name "range" p) [a] [] pos) (aDJ ta):=by
 intro pins s σ H R I h
 refine Call_ (iB I hg hm boot_range (PyProof.Rows.callWith_type1 (thn (ha pos pins s σ H _ I h) fun us s1 ⟨vs,H1,I1,r1,q1⟩=>?_) hs rfl))
 obtain ⟨j,e,q1,q2,q⟩:=q1
 subst e
 cases r1 with
 | cons r rr =>
  cases rr
  obtain ⟨t,rfl⟩:=r
  exact call_range_1 (sH I1 (by omega) (by omega) q1 q2 (by simpa using q))
theorem lD {a b : Expr} {ta : TA} {p pos : Pos} (hg : Gl X "range") (hm : X.mg "range" = none) (ha : PA X [a,b] ta) (hs : starEach [a,b] X.env = [(false,eval a X.env),(false,eval b X.env)]:=by rfl) (hs2 : starEach [b] X.env = [(false,eval b X.env)]:=by rfl) :
  PI X tg (.Call (.Name "range" p) [a,b] [] pos) (aDK ta):=by
 intro pins s σ H R I h
 refine Call_ (iB I hg hm boot_range (PyProof.Rows.callWith_type1 (thn (ha pos pins s σ H _ I h) fun us s1 ⟨vs,H1,I1,r1,q1⟩=>?_) (by rw [hs,hs2]) (by rw [hs2]; rfl)))
 obtain ⟨i,j,e,⟨q1,q2,q3,q4⟩,q⟩:=q1
 subst e
 cases r1 with
 | cons r rr =>
  cases rr with
  | cons r' rr =>
   cases rr
   obtain ⟨t,rfl⟩:=r
   obtain ⟨t',rfl⟩:=r'
   exact call_range_2 (sH I1 q1 q2 q3 q4 q)
def tFor (wi : TI) (g : TG) (tb : TS) : TS:=fun D σ H=>wi σ H fun J H1=>∃ W : Nat→Nat→St→Hp→Prop,(∃ m,W 0 m σ H1)∧∀ i m σ H,W i m σ H →
 (J.stop i H∧D.nx σ H)∨(J.go i H∧∃ N : St→Hp→Prop,(∀ σ' H',N σ' H'→∃ m',m' < m∧W (i + 1) m' σ' H')∧∀ x H',J.yld i H x H'→g x σ H' fun σ2 H2=>tb { D with nx:=N,ct:=N,bk:=D.nx } σ2 H2)
def lE (fp : List Addr) (h : Heap) : List (Addr × Obj):=fp.filterMap fun b=>(h.get? b).map fun o=>(b,o)
theorem iF {fp : List Addr} {h : Heap} {b : Addr} {o : Obj} (hb : b∈fp) (e : h.get? b = some o) : (b,o)∈lE fp h:=List.mem_filterMap.mpr ⟨b,hb,by rw [e]; rfl⟩
theorem yH {fp : List Addr} {h : Heap} {p : Addr × Obj} (hp : p∈lE fp h) : p.1∈fp∧h.get? p.1 = some p.2:=by
 obtain ⟨b,hb,e⟩:=List.mem_filterMap.mp hp
 cases q : h.get? b with
 | none=>rw [q] at e; cases e
 | some o =>
  rw [q] at e
  have e' : (b,o) = p:=Option.some.inj e
  subst e'
  exact ⟨hb,q⟩
theorem Inv.pinned {pins : List (Addr × Obj)} {σ : St} {H : Hp} {s : Shared} {fp : List Addr} (I : Inv X pins σ H s) (hf : ∀ b∈fp,FpOk X pins H b) (ho : ∀ b∈fp,∃ o,s.heap.get? b = some o∧∀ v,o.data ≠ .cell v) : Inv X (pins ++ lE fp s.heap) σ H s :=
 I.pins_of fun p hp=>(List.mem_append.mp hp).elim (fun z=>I.pin p (List.mem_append_right _ z)) fun z=>by
  obtain ⟨hb,e⟩:=yH z
  obtain ⟨f0,f1,f2,_⟩:=hf p.1 hb
  obtain ⟨o,e',d⟩:=ho p.1 hb
  rw [e] at e'; cases e'
  exact ⟨e,f0,f1,f2,d⟩
theorem Inv.unpinned {pins pl : List (Addr × Obj)} {σ : St} {H : Hp} {s : Shared} (I : Inv X (pins ++ pl) σ H s) : Inv X pins σ H s:=I.pins_of fun p hp=>I.pin p (List.mem_append_right _ (List.mem_append_left _ hp))
theorem bW {iter : Expr} {body : List Stmt} {wi : TI} {g : TG} {tb : TS} {pos : Pos} (hp : PassesOwn (model X.prog X.w) X.A X.env X.xe) (hc : X.calm = true) (hi : PI X tg iter wi) (hg : PG X tg g) (hb : PSs X body tb)
  (hs : ∀ x,foldedSetIterable iter X.env x = pure x:=by intro _; rfl) : PS X (.For tg iter body [] pos) (tFor wi g tb):=by
 intro pins s σ H D I h
 refine wpAny_For (thn (hi pins s σ H _ I h) fun v s1 h1=>thn h1 fun itv s2 h2=>?_) hs
 obtain ⟨it,fp,tn,J,H2,e,I2,T,st2,f2,W,⟨m0,w0⟩,turn⟩:=h2
 subst e
 have stat : ∀ {H' : Hp},(∀ b∈fp,H' b = none)→∀ b∈fp,FpOk X pins H' b:=fun hn b hb=>⟨hn b hb,(f2 b hb).2⟩
 refine codeAny_forLoop_any (fun n s'=>∃ i σ' H',Inv X pins σ' H' s'∧tn i s'.heap∧(∀ b∈fp,H' b = none)∧W i n σ' H') ?_ m0 ⟨0,σ,H2,I2,st2,fun b hb=>(f2 b hb).1,w0⟩
 rintro n s3 ⟨i,σ3,H3,I3,st3,fr3,w3⟩
 rcases turn i n σ3 H3 w3 with ⟨stop,qn⟩ | ⟨go,N,hN,step⟩
 ·refine wpAny_passesOwn hp (thn (T.done X rfl rfl rfl hc i pins s3 σ3 H3 X.xe I3 (stat fr3) st3 stop) fun r s4 ⟨hr,I4⟩=>?_)
  subst hr
  exact wpAny_execs_nil ⟨σ3,H3,I4,qn⟩
 ·refine wpAny_passesOwn hp (thn (T.item X rfl rfl rfl hc i pins s3 σ3 H3 X.xe I3 (stat fr3) st3 go) fun r s4 ⟨u,hr,h4⟩=>?_)
  subst hr
  refine wpAny_passesOwn hp (thn h4 fun _ s5 ⟨x,H5,I5,r5,y5,st5,fr5⟩=>?_)
  have I5':=I5.pinned (stat fr5) (T.obj _ _ st5)
  refine wpAny_passesOwn hp (thn (hg _ s5 σ3 H5 x u _ I5' r5 (step x H5 y5)) fun _ s6 ⟨σ6,H6,I6,q6⟩=>?_)
  refine wpAny_passesOwn hp (thn (hb _ s6 σ6 H6 _ I6 q6) fun f s7 q7=>?_)
  have again : ∀ {σ7 : St} {H7 : Hp},Inv X (pins ++ lE fp s5.heap) σ7 H7 s7→N σ7 H7→∃ m,m < n∧∃ i σ' H',Inv X pins σ' H' s7∧tn i s7.heap∧(∀ b∈fp,H' b = none)∧W i m σ' H':=fun {σ7 H7} I7 n7=>by
   obtain ⟨m',hm,w7⟩:=hN σ7 H7 n7
   refine ⟨m',hm,i + 1,σ7,H7,I7.unpinned,T.keep _ _ _ st5 fun b hb o e=>(I7.pin (b,o) (List.mem_append_right _ (List.mem_append_right _ (iF hb e)))).1,fun b hb=>?_,w7⟩
   obtain ⟨o,e,d⟩:=T.obj _ _ st5 b hb
   exact (I7.pin (b,o) (List.mem_append_right _ (List.mem_append_right _ (iF hb e)))).2.1
  cases f with
  | next=>obtain ⟨σ7,H7,I7,n7⟩:=q7; exact again I7 n7
  | cont=>obtain ⟨σ7,H7,I7,n7⟩:=q7; exact again I7 n7
  | brk=>obtain ⟨σ7,H7,I7,q7⟩:=q7; exact ⟨σ7,H7,I7.unpinned,q7⟩
  | ret v=>obtain ⟨x7,σ7,H7,I7,r7,q7⟩:=q7; exact ⟨x7,σ7,H7,I7.unpinned,r7,q7⟩
end
theorem fP {K : PySem.W.Frag} {a : Addr} {xs : List V} {g : TG} {tb : TS} {D : Ends} {σ : St} {H : Hp} (Pv : Nat→St→Hp→Prop) (h0 : Pv 0 σ H) (hl : ∀ i σ H,i ≤ xs.length→Pv i σ H→SqL K H a xs)
  (hs : ∀ i x σ H,xs[i]? = some x→Pv i σ H→g x σ H fun σ2 H2=>tb { D with nx:=Pv (i + 1),ct:=Pv (i + 1),bk:=D.nx } σ2 H2) (hd : ∀ σ H,Pv xs.length σ H→D.nx σ H) :
  ∃ W : Nat→Nat→St→Hp→Prop,(∃ m,W 0 m σ H)∧∀ i m σ H,W i m σ H →
   ((Itl K a).stop i H∧D.nx σ H)∨((Itl K a).go i H∧∃ N : St→Hp→Prop,(∀ σ' H',N σ' H'→∃ m',m' < m∧W (i + 1) m' σ' H')∧∀ x H',(Itl K a).yld i H x H'→g x σ H' fun σ2 H2=>tb { D with nx:=N,ct:=N,bk:=D.nx } σ2 H2):=by
 refine ⟨fun i m σ H=>m = xs.length - i∧i ≤ xs.length∧Pv i σ H,⟨xs.length,by simp,Nat.zero_le _,h0⟩,?_⟩
 rintro i m σ H ⟨rfl,hi,p⟩
 have q:=hl i σ H hi p
 by_cases hlt : i < xs.length
 ·refine .inr ⟨⟨xs,xs[i],q,by simp [hlt]⟩,Pv (i + 1),fun σ' H' p'=>⟨xs.length - (i + 1),by omega,rfl,hlt,p'⟩,fun x H' y=>?_⟩
  obtain ⟨e,y⟩:=y
  subst e
  exact hs i x σ _ (y xs q) p
 ·have e : i = xs.length:=by omega
  subst e
  exact .inl ⟨⟨xs,q,Nat.le_refl _⟩,hd σ H p⟩
theorem cW {lo : Int} {n : Nat} {g : TG} {tb : TS} {D : Ends} {σ : St} {H : Hp} (Pv : Nat→St→Hp→Prop) (h0 : Pv 0 σ H)
  (hs : ∀ i σ H,i < n→Pv i σ H→g (.int (lo + i)) σ H fun σ2 H2=>tb { D with nx:=Pv (i + 1),ct:=Pv (i + 1),bk:=D.nx } σ2 H2) (hd : ∀ σ H,Pv n σ H→D.nx σ H) :
  ∃ W : Nat→Nat→St→Hp→Prop,(∃ m,W 0 m σ H)∧∀ i m σ H,W i m σ H →
   ((Itr lo n).stop i H∧D.nx σ H)∨((Itr lo n).go i H∧∃ N : St→Hp→Prop,(∀ σ' H',N σ' H'→∃ m',m' < m∧W (i + 1) m' σ' H')∧∀ x H',(Itr lo n).yld i H x H'→g x σ H' fun σ2 H2=>tb { D with nx:=N,ct:=N,bk:=D.nx } σ2 H2):=by
 refine ⟨fun i m σ H=>m = n - i∧i ≤ n∧Pv i σ H,⟨n,by simp,Nat.zero_le _,h0⟩,?_⟩
 rintro i m σ H ⟨rfl,hi,p⟩
 by_cases hlt : i < n
 ·refine .inr ⟨hlt,Pv (i + 1),fun σ' H' p'=>⟨n - (i + 1),by omega,rfl,hlt,p'⟩,fun x H' y=>?_⟩
  obtain ⟨e,y⟩:=y
  subst e y
  exact hs i σ _ hlt p
 ·have e : i = n:=by omega
  subst e
  exact .inl ⟨Nat.le_refl _,hd σ H p⟩
theorem sI {c : TT} {tb : TS} {D : Ends} {σ : St} {H : Hp} (Pv : St→Hp→Prop) (μ : St→Hp→Nat) (h0 : Pv σ H)
  (hs : ∀ σ H,Pv σ H→c σ H fun b H1=>if b = true then tb { D with nx:=fun σ' H'=>Pv σ' H'∧μ σ' H' < μ σ H,ct:=fun σ' H'=>Pv σ' H'∧μ σ' H' < μ σ H,bk:=D.nx } σ H1 else D.nx σ H1)
  (mono : ∀ σ H Q Q',(∀ b H1,Q b H1→Q' b H1)→c σ H Q→c σ H Q') : yF c tb D σ H:=by
 refine ⟨fun m σ H=>m = μ σ H∧Pv σ H,⟨_,rfl,h0⟩,?_⟩
 rintro m σ H ⟨rfl,p⟩
 refine mono σ H _ _ (fun b H1 q=>?_) (hs σ H p)
 cases b with
 | true=>exact ⟨_,fun σ' H' ⟨p',l⟩=>⟨_,l,rfl,p'⟩,q⟩
 | false=>exact q
end L2
namespace L2
open PySem PySem.Spec PyProof.Rows
abbrev R2:=V→V→Hp→VK→Prop
def OpR (X : Cx) (f : Value→Value→Sem Value) (r : R2) : Prop :=
 ∀ (pins : List (Addr × Obj)) (s : Shared) (σ : St) (H : Hp) (x y : V) (v u : Value) (Q : VK),Inv X pins σ H s→RelV x v→RelV y u→r x y H Q →
  wpAny (model X.prog X.w) X.A (f v u) (EP X pins σ Q) X.xe s
def UnR (X : Cx) (f : Value→Sem Value) (r : V→Hp→VK→Prop) : Prop :=
 ∀ (pins : List (Addr × Obj)) (s : Shared) (σ : St) (H : Hp) (x : V) (v : Value) (Q : VK),Inv X pins σ H s→RelV x v→r x H Q →
  wpAny (model X.prog X.w) X.A (f v) (EP X pins σ Q) X.xe s
def cY (X : Cx) (f : Value) (r : List V→Hp→VK→Prop) : Prop :=
 ∀ (pins : List (Addr × Obj)) (s : Shared) (σ : St) (H : Hp) (xs : List V) (us : List Value) (Q : VK),Inv X pins σ H s→Vals xs us→r xs H Q →
  wpAny (model X.prog X.w) X.A (call f us) (EP X pins σ Q) X.xe s
def tOp (r : R2) (ta tb : TE) : TE:=fun σ H Q=>ta σ H fun x H1=>tb σ H1 fun y H2=>r x y H2 Q
def tUn (r : V→Hp→VK→Prop) (ta : TE) : TE:=fun σ H Q=>ta σ H fun x H1=>r x H1 Q
def rI (C : Int→Int→Prop) (g : Int→Int→V) : R2:=fun x y H Q=>∃ i j,x = .int i∧y = .int j∧C i j∧Q (g i j) H
def rI0 (g : Int→Int→V) : R2:=fun x y H Q=>∃ i j,x = .int i∧y = .int j∧Q (g i j) H
def rU (g : Int→V) : V→Hp→VK→Prop:=fun x H Q=>∃ i,x = .int i∧Q (g i) H
section
variable {X : Cx} {a b c : Expr} {ta tb tc : TE} {pos : Pos}
theorem binT (ha : PE X a ta) (hb : PE X b tb) {pins : List (Addr × Obj)} {s : Shared} {σ : St} {H : Hp} {R : V→V→Hp→Prop} (I : Inv X pins σ H s)
  (h : ta σ H fun x H1=>tb σ H1 fun y H2=>R x y H2) {Q : Value→Shared→Prop} {f : Value→Value→Sem Value}
  (hf : ∀ v u s2 x y H2,Inv X pins σ H2 s2→RelV x v→RelV y u→R x y H2→wpAny (model X.prog X.w) X.A (f v u) Q X.xe s2) :
  wpAny (model X.prog X.w) X.A (eval a X.env) (fun v s₁=>wpAny (model X.prog X.w) X.A (eval b X.env) (fun u s₂=>wpAny (model X.prog X.w) X.A (f v u) Q X.xe s₂) X.xe s₁) X.xe s:=by
 refine thn (ha pins s σ H _ I h) fun v s1 ⟨x,H1,I1,r1,q1⟩=>?_
 refine thn (hb pins s1 σ H1 _ I1 q1) fun u s2 ⟨y,H2,I2,r2,q2⟩=>?_
 exact hf v u s2 x y H2 I2 r1 r2 q2
theorem bA {op : Operator} {r : R2} (ho : OpR X (binaryOp op) r) (ha : PE X a ta) (hb : PE X b tb) : PE X (.BinOp a op b pos) (tOp r ta tb):=by
 intro pins s σ H Q I h
 exact wpAny_BinOp (binT ha hb I h fun v u s2 x y H2 I2 rx ry q=>ho pins s2 σ H2 x y v u Q I2 rx ry q)
theorem dH {op : UnaryOp} {r : V→Hp→VK→Prop} (ho : UnR X (unaryOp op) r) (ha : PE X a ta) : PE X (.UnaryOp op a pos) (tUn r ta):=by
 intro pins s σ H Q I h
 exact UnaryOp_ (thn (ha pins s σ H _ I h) fun v s1 ⟨x,H1,I1,r1,q1⟩=>ho pins s1 σ H1 x v Q I1 r1 q1)
theorem opI {f : Value→Value→Sem Value} {C : Int→Int→Prop} {g : Int→Int→Int}
  (rule : ∀ (i j : Int) (t u : Tok) (s : Shared) (Q : Value→Shared→Prop) (E : Value→Shared→Prop),C i j→Q (.int (g i j) s.toks) { s with toks:=s.toks + 1 }→wpAny (model X.prog X.w) X.A (f (.int i t) (.int j u)) Q E s) :
  OpR X f (rI C fun i j=>.int (g i j)):=by
 intro pins s σ H x y v u Q I rx ry h
 obtain ⟨i,j,rfl,rfl,hc,q⟩:=h
 obtain ⟨t,rfl⟩:=rx
 obtain ⟨t',rfl⟩:=ry
 exact rule i j t t' s _ _ hc ⟨.int (g i j),H,I.tok _,⟨_,rfl⟩,q⟩
theorem opI0 {f : Value→Value→Sem Value} {g : Int→Int→Int}
  (rule : ∀ (i j : Int) (t u : Tok) (s : Shared) (Q : Value→Shared→Prop) (E : Value→Shared→Prop),Q (.int (g i j) s.toks) { s with toks:=s.toks + 1 }→wpAny (model X.prog X.w) X.A (f (.int i t) (.int j u)) Q E s) :
  OpR X f (rI0 fun i j=>.int (g i j)):=by
 intro pins s σ H x y v u Q I rx ry h
 obtain ⟨i,j,rfl,rfl,q⟩:=h
 obtain ⟨t,rfl⟩:=rx
 obtain ⟨t',rfl⟩:=ry
 exact rule i j t t' s _ _ ⟨.int (g i j),H,I.tok _,⟨_,rfl⟩,q⟩
theorem opB0 {f : Value→Value→Sem Value} {g : Int→Int→Bool}
  (rule : ∀ (i j : Int) (t u : Tok) (s : Shared) (Q : Value→Shared→Prop) (E : Value→Shared→Prop),Q (.bool (g i j)) s→wpAny (model X.prog X.w) X.A (f (.int i t) (.int j u)) Q E s) :
  OpR X f (rI0 fun i j=>.bl (g i j)):=by
 intro pins s σ H x y v u Q I rx ry h
 obtain ⟨i,j,rfl,rfl,q⟩:=h
 obtain ⟨t,rfl⟩:=rx
 obtain ⟨t',rfl⟩:=ry
 exact rule i j t t' s _ _ ⟨.bl (g i j),H,I,rfl,q⟩
def CDiv (i j : Int) : Prop:=0 < j∧j < 1073741824
def CPow (i j : Int) : Prop:=0 ≤ j∧j ≤ 1000000∧i.natAbs < 2 ^ 64
def CMul (i j : Int) : Prop:=(-(2 ^ 64) < i∧i < 2 ^ 64)∨(-(2 ^ 64) < j∧j < 2 ^ 64)
theorem CMul.ok {i j : Int} (h : CMul i j) : IntMulOk i j:=by
 rcases h with ⟨h1,h2⟩ | ⟨h1,h2⟩
 ·exact .of_left (intBits_le_64 h1 h2)
 ·exact .of_right (intBits_le_64 h1 h2)
theorem bX : OpR X (binaryOp .Add) (rI0 fun i j=>.int (i + j)):=opI0 fun _ _ _ _ _ _ _ q=>add_int q
theorem jB : OpR X (binaryOp .Sub) (rI0 fun i j=>.int (i - j)):=opI0 fun _ _ _ _ _ _ _ q=>sub_int q
theorem jC : OpR X (binaryOp .Mult) (rI CMul fun i j=>.int (i * j)):=opI fun _ _ _ _ _ _ _ hc q=>mul_int q hc.ok
theorem pN : OpR X (binaryOp .FloorDiv) (rI CDiv fun i j=>.int (i / j)):=opI fun i j _ _ _ _ _ hc q=>by
 have h1 : (0 : Int) < j:=hc.1
 have h2 : j < 1073741824:=hc.2
 exact floordiv_int (by omega) (by rw [Int.fdiv_eq_ediv_of_nonneg i (by omega)]; exact q) (.inl (PyProof.noPylong_small (by omega)))
theorem eJ : OpR X (binaryOp .Mod) (rI (fun _ j=>0 < j) fun i j=>.int (i % j)):=opI fun i j _ _ _ _ _ hc q=>by
 have h1 : (0 : Int) < j:=hc
 exact mod_int' (by omega) (by rw [Int.fmod_eq_emod_of_nonneg i (by omega)]; exact q)
theorem yI : OpR X (binaryOp .Pow) (rI CPow fun i j=>.int (i ^ j.toNat)):=opI fun _ _ _ _ _ _ _ hc q=>pow_int_small hc.1 hc.2.1 hc.2.2 q
theorem unI {f : Value→Sem Value} {g : Int→Int}
  (rule : ∀ (i : Int) (t : Tok) (s : Shared) (Q : Value→Shared→Prop) (E : Value→Shared→Prop),Q (.int (g i) s.toks) { s with toks:=s.toks + 1 }→wpAny (model X.prog X.w) X.A (f (.int i t)) Q E s) :
  UnR X f (rU fun i=>.int (g i)):=by
 intro pins s σ H x v Q I rx h
 obtain ⟨i,rfl,q⟩:=h
 obtain ⟨t,rfl⟩:=rx
 exact rule i t s _ _ ⟨.int (g i),H,I.tok _,⟨_,rfl⟩,q⟩
theorem cX : UnR X (unaryOp .USub) (rU fun i=>.int (-i)):=unI fun _ _ _ _ _ q=>neg_int q
end
def scal : V→V→Bool
 | .non,.non=>true | .non,.int _=>true | .int _,.non=>true | .non,.bl _=>true | .bl _,.non=>true | .non,.str _=>true | .str _,.non=>true
 | .int _,.int _=>true | .bl _,.bl _=>true | .str _,.str _=>true | .byt _,.byt _=>true
 | .int _,.str _=>true | .str _,.int _=>true | .bl _,.str _=>true | .str _,.bl _=>true
 | _,_=>false
def rEq : R2:=fun x y H Q=>scal x y = true∧Q (.bl (decide (x = y))) H
def rNe : R2:=fun x y H Q=>scal x y = true∧Q (.bl (!decide (x = y))) H
theorem iR {i j : Int} : decide (V.int i = V.int j) = (i == j):=by
 rw [Bool.eq_iff_iff]
 simp
theorem yJ {i j : Bool} : decide (V.bl i = V.bl j) = (i == j):=by
 rw [Bool.eq_iff_iff]
 simp
theorem vH {i j : Str} : decide (V.str i = V.str j) = (i == j):=by
 rw [Bool.eq_iff_iff]
 simp
theorem vI {i j : Array UInt8} : decide (V.byt i = V.byt j) = (i.toList == j.toList):=by
 rw [Bool.eq_iff_iff]
 cases i
 cases j
 simp
section
variable {X : Cx} {a b c : Expr} {ta tb tc : TE} {pos : Pos}
theorem bJ {pins : List (Addr × Obj)} {σ : St} {H : Hp} {s : Shared} {Q : VK} {k k' : Bool} (I : Inv X pins σ H s) (q : Q (.bl k) H) (e : k = k') : EP X pins σ Q (.bool k') s:=by
 subst e
 exact ⟨.bl k,H,I,rfl,q⟩
theorem cT : OpR X (compareOp .Eq) rEq:=by
 intro pins s σ H x y v u Q I rx ry h
 obtain ⟨hs,q⟩:=h
 cases x with
 | non =>
  cases rx
  cases y with
  | non=>cases ry; exact PySem.EqNone.eq_none_none (bJ I q (by simp))
  | bl j=>cases ry; exact PySem.EqNone.eq_none_bool (bJ I q (by simp))
  | int j=>obtain ⟨t',rfl⟩:=ry; exact PySem.EqNone.eq_none_int (bJ I q (by simp))
  | str j=>obtain ⟨t',rfl⟩:=ry; exact PySem.EqNone.eq_none_str (bJ I q (by simp))
  | _=>exact absurd (show false = true from hs) Bool.false_ne_true
 | bl i =>
  cases rx
  cases y with
  | non=>cases ry; exact PySem.EqNone.eq_bool_none (bJ I q (by simp))
  | bl j=>cases ry; exact eq_bool (bJ I q yJ)
  | str j=>obtain ⟨t',rfl⟩:=ry; exact PySem.EqMixed.eq_bool_str (bJ I q (by simp))
  | _=>exact absurd (show false = true from hs) Bool.false_ne_true
 | int i =>
  obtain ⟨t,rfl⟩:=rx
  cases y with
  | non=>cases ry; exact PySem.EqNone.eq_int_none (bJ I q (by simp))
  | int j=>obtain ⟨t',rfl⟩:=ry; exact eq_int (bJ I q iR)
  | str j=>obtain ⟨t',rfl⟩:=ry; exact PySem.EqMixed.eq_int_str (bJ I q (by simp))
  | _=>exact absurd (show false = true from hs) Bool.false_ne_true
 | str i =>
  obtain ⟨t,rfl⟩:=rx
  cases y with
  | non=>cases ry; exact PySem.EqNone.eq_str_none (bJ I q (by simp))
  | bl j=>cases ry; exact PySem.EqMixed.eq_str_bool (bJ I q (by simp))
  | int j=>obtain ⟨t',rfl⟩:=ry; exact PySem.EqMixed.eq_str_int (bJ I q (by simp))
  | str j=>obtain ⟨t',rfl⟩:=ry; exact eq_str (bJ I q vH)
  | _=>exact absurd (show false = true from hs) Bool.false_ne_true
 | byt i =>
  obtain ⟨t,rfl⟩:=rx
  cases y with
  | byt j=>obtain ⟨t',rfl⟩:=ry; exact PySem.W.eq_bytes (bJ I q vI)
  | _=>exact absurd (show false = true from hs) Bool.false_ne_true
 | _=>cases y <;> exact absurd (show false = true from hs) Bool.false_ne_true
theorem hU : OpR X (compareOp .NotEq) rNe:=by
 intro pins s σ H x y v u Q I rx ry h
 obtain ⟨hs,q⟩:=h
 cases x with
 | non =>
  cases rx
  cases y with
  | non=>cases ry; exact PySem.EqNone.ne_none_none (bJ I q (by simp))
  | bl j=>cases ry; exact PySem.EqNone.ne_none_bool (bJ I q (by simp))
  | int j=>obtain ⟨t',rfl⟩:=ry; exact PySem.EqNone.ne_none_int (bJ I q (by simp))
  | str j=>obtain ⟨t',rfl⟩:=ry; exact PySem.EqNone.ne_none_str (bJ I q (by simp))
  | _=>exact absurd (show false = true from hs) Bool.false_ne_true
 | bl i =>
  cases rx
  cases y with
  | non=>cases ry; exact PySem.EqNone.ne_bool_none (bJ I q (by simp))
  | bl j=>cases ry; exact ne_bool (bJ I q (congrArg not yJ))
  | str j=>obtain ⟨t',rfl⟩:=ry; exact PySem.EqMixed.ne_bool_str (bJ I q (by simp))
  | _=>exact absurd (show false = true from hs) Bool.false_ne_true
 | int i =>
  obtain ⟨t,rfl⟩:=rx
  cases y with
  | non=>cases ry; exact PySem.EqNone.ne_int_none (bJ I q (by simp))
  | int j=>obtain ⟨t',rfl⟩:=ry; exact ne_int (bJ I q (congrArg not iR))
  | str j=>obtain ⟨t',rfl⟩:=ry; exact PySem.EqMixed.ne_int_str (bJ I q (by simp))
  | _=>exact absurd (show false = true from hs) Bool.false_ne_true
 | str i =>
  obtain ⟨t,rfl⟩:=rx
  cases y with
  | non=>cases ry; exact PySem.EqNone.ne_str_none (bJ I q (by simp))
  | bl j=>cases ry; exact PySem.EqMixed.ne_str_bool (bJ I q (by simp))
  | int j=>obtain ⟨t',rfl⟩:=ry; exact PySem.EqMixed.ne_str_int (bJ I q (by simp))
  | str j=>obtain ⟨t',rfl⟩:=ry; exact ne_str (bJ I q (congrArg not vH))
  | _=>exact absurd (show false = true from hs) Bool.false_ne_true
 | byt i =>
  obtain ⟨t,rfl⟩:=rx
  cases y with
  | byt j=>obtain ⟨t',rfl⟩:=ry; exact PySem.W.ne_bytes (bJ I q (congrArg not vI))
  | _=>exact absurd (show false = true from hs) Bool.false_ne_true
 | _=>cases y <;> exact absurd (show false = true from hs) Bool.false_ne_true
theorem iG : OpR X (compareOp .Lt) (rI0 fun i j=>.bl (decide (i < j))):=opB0 fun _ _ _ _ _ _ _ q=>lt_int q
theorem nS : OpR X (compareOp .LtE) (rI0 fun i j=>.bl (decide (i ≤ j))):=opB0 fun _ _ _ _ _ _ _ q=>le_int q
theorem nU : OpR X (compareOp .Gt) (rI0 fun i j=>.bl (decide (j < i))):=opB0 fun _ _ _ _ _ _ _ q=>gt_int q
theorem nV : OpR X (compareOp .GtE) (rI0 fun i j=>.bl (decide (j ≤ i))):=opB0 fun _ _ _ _ _ _ _ q=>ge_int q
theorem aCU : OpR X (compareOp .Is) (fun x y H Q=>y = .non∧Q (.bl (decide (x = .non))) H):=by
 intro pins s σ H x y v u Q I rx ry h
 obtain ⟨rfl,q⟩:=h
 cases ry
 refine is_none_gen (bJ I q ?_)
 cases x <;> first
  | (cases rx; rfl)
  | (obtain ⟨t,rfl⟩:=rx; rfl)
theorem aX (b : Expr) {op : CmpOp} (h : op ≠ .In:=by decide) (h2 : op ≠ .NotIn:=by decide) : behindInMarks op b = false:=by
 have e1 : (op == CmpOp.In) = false:=by cases op <;> first | rfl | exact absurd rfl h
 have e2 : (op == CmpOp.NotIn) = false:=by cases op <;> first | rfl | exact absurd rfl h2
 cases b <;> simp [behindInMarks,e1,e2]
theorem cN {op : CmpOp} {r : R2} (ho : OpR X (compareOp op) r) (ha : PE X a ta) (hb : PE X b tb) (hm : behindInMarks op b = false) : PE X (.Compare a [op] [b] pos) (tOp r ta tb):=by
 intro pins s σ H Q I h
 exact wpAny_Compare1 (binT ha hb I h fun v u s2 x y H2 I2 rx ry q=>ho pins s2 σ H2 x y v u Q I2 rx ry q) hm
def iH (t : TE) : TT:=fun σ H Q=>t σ H fun x H'=>∃ k,x = .bl k∧Q k H'
theorem aZ {op : CmpOp} {r : R2} (ho : OpR X (compareOp op) r) (ha : PE X a ta) (hb : PE X b tb) (hm : behindInMarks op b = false) : PT X (.Compare a [op] [b] pos) (iH (tOp r ta tb)):=by
 intro pins s σ H Q I h
 refine wpAny_isTrue_Compare1 (thn (ha pins s σ H _ I h) fun v s1 ⟨x,H1,I1,r1,q1⟩=>thn (hb pins s1 σ H1 _ I1 q1) fun u s2 ⟨y,H2,I2,r2,q2⟩ =>
  thn (ho pins s2 σ H2 x y v u _ I2 r1 r2 q2) fun c s3 ⟨z,H3,I3,r3,k,e,q3⟩=>?_) hm
 subst e
 cases r3
 exact wpAny_truthy_bool ⟨H3,I3,q3⟩
def yK (r r' : R2) (ta tb tc : TE) : TE:=fun σ H Q=>ta σ H fun x H1=>tb σ H1 fun y H2=>r x y H2 fun z H3=>∃ k,z = .bl k ∧
 (if k = true then tc σ H3 fun w' H4=>r' y w' H4 Q else Q (.bl false) H3)
theorem sJ {op op' : CmpOp} {r r' : R2} (ho : OpR X (compareOp op) r) (ho' : OpR X (compareOp op') r') (ha : PE X a ta) (hb : PE X b tb) (hc : PE X c tc)
  (hm : lastMarks [op,op'] [b,c] = false:=by with_unfolding_all rfl) : PE X (.Compare a [op,op'] [b,c] pos) (yK r r' ta tb tc):=by
 intro pins s σ H Q I h
 refine Compare_chain (thn (ha pins s σ H _ I h) fun v s1 ⟨x,H1,I1,r1,q1⟩=>chain_link (thn (hb pins s1 σ H1 _ I1 q1) fun u s2 ⟨y,H2,I2,r2,q2⟩ =>
  thn (ho pins s2 σ H2 x y v u _ I2 r1 r2 q2) fun d s3 ⟨z,H3,I3,r3,k,e,q3⟩=>?_)) hm
 subst e
 cases r3
 refine wpAny_truthy_bool ?_
 cases k with
 | false=>exact ite_ff ⟨.bl false,H3,I3,rfl,q3⟩
 | true=>exact ite_tt (chain_last (thn (hc pins s3 σ H3 _ I3 q3) fun w' s4 ⟨z',H4,I4,r4,q4⟩=>ho' pins s4 σ H4 y z' u w' Q I4 r2 r4 q4))
theorem aAF {op op' : CmpOp} {r r' : R2} (ho : OpR X (compareOp op) r) (ho' : OpR X (compareOp op') r') (ha : PE X a ta) (hb : PE X b tb) (hc : PE X c tc)
  (hm : lastMarks [op,op'] [b,c] = false:=by with_unfolding_all rfl) : PT X (.Compare a [op,op'] [b,c] pos) (iH (yK r r' ta tb tc)):=by
 intro pins s σ H Q I h
 refine isTrue_chain (thn (ha pins s σ H _ I h) fun v s1 ⟨x,H1,I1,r1,q1⟩=>test_link (thn (hb pins s1 σ H1 _ I1 q1) fun u s2 ⟨y,H2,I2,r2,q2⟩ =>
  thn (ho pins s2 σ H2 x y v u _ I2 r1 r2 q2) fun d s3 ⟨z,H3,I3,r3,k,e,q3⟩=>?_)) hm
 subst e
 cases r3
 refine wpAny_truthy_bool ?_
 cases k with
 | false =>
  obtain ⟨k',e',q'⟩:=q3
  cases e'
  exact ite_ff ⟨H3,I3,q'⟩
 | true =>
  refine ite_tt (test_last (thn (hc pins s3 σ H3 _ I3 q3) fun w' s4 ⟨z',H4,I4,r4,q4⟩=>thn (ho' pins s4 σ H4 y z' u w' _ I4 r2 r4 q4) fun d' s5 ⟨z2,H5,I5,r5,k2,e2,q5⟩=>?_))
  subst e2
  cases r5
  exact wpAny_truthy_bool ⟨H5,I5,q5⟩
theorem nW : (sizeLine : Nat) < 2 ^ 63:=by rw [sizeLine_eq]; decide
theorem jQ {x : V} {us : List Value} (r : Vals [x] us) : ∃ u,us = [u]∧RelV x u:=by
 cases r with
 | cons r1 r2=>cases r2; exact ⟨_,rfl,r1⟩
theorem aBp {x y : V} {us : List Value} (r : Vals [x,y] us) : ∃ u w',us = [u,w']∧RelV x u∧RelV y w':=by
 cases r with
 | cons r1 r2 =>
  cases r2 with
  | cons r3 r4=>cases r4; exact ⟨_,_,rfl,r1,r3⟩
theorem aAG : cY X (.builtin "abs") (fun xs H Q=>∃ i,xs = [.int i]∧Q (.int (if i < 0 then -i else i)) H):=by
 intro pins s σ H xs us Q I r h
 obtain ⟨i,rfl,q⟩:=h
 obtain ⟨u,rfl,t,rfl⟩:=jQ r
 exact call_abs_int fun u tk=>⟨.int (if i < 0 then -i else i),H,I.tok _,⟨_,rfl⟩,q⟩
theorem qO (hc : X.calm = true) : cY X (.builtin "max") (fun xs H Q=>∃ i j,xs = [.int i,.int j]∧Q (.int (if j > i then j else i)) H):=by
 intro pins s σ H xs us Q I r h
 obtain ⟨i,j,rfl,q⟩:=h
 obtain ⟨u,w',rfl,⟨t,rfl⟩,⟨t',rfl⟩⟩:=aBp r
 refine max_two_ints (I.ok.hd hc) fun h' tk k=>⟨_,H,I.kept k,?_,q⟩
 by_cases hj : j > i
 ·rw [if_pos hj,if_pos hj]; exact ⟨_,rfl⟩
 ·rw [if_neg hj,if_neg hj]; exact ⟨_,rfl⟩
theorem yL (hc : X.calm = true) : cY X (.builtin "min") (fun xs H Q=>∃ i j,xs = [.int i,.int j]∧Q (.int (if j < i then j else i)) H):=by
 intro pins s σ H xs us Q I r h
 obtain ⟨i,j,rfl,q⟩:=h
 obtain ⟨u,w',rfl,⟨t,rfl⟩,⟨t',rfl⟩⟩:=aBp r
 refine min_two_ints (I.ok.hd hc) fun h' tk k=>⟨_,H,I.kept k,?_,q⟩
 by_cases hj : j < i
 ·rw [if_pos hj,if_pos hj]; exact ⟨_,rfl⟩
 ·rw [if_neg hj,if_neg hj]; exact ⟨_,rfl⟩
theorem jR : cY X (.type "int") (fun xs H Q=>(∃ i,xs = [.int i]∧Q (.int i) H)∨∃ k,xs = [.bl k]∧Q (.int (if k then 1 else 0)) H):=by
 intro pins s σ H xs us Q I r h
 rcases h with ⟨i,rfl,q⟩ | ⟨k,rfl,q⟩
 ·obtain ⟨u,rfl,t,rfl⟩:=jQ r
  exact call_int_int ⟨.int i,H,I,⟨_,rfl⟩,q⟩
 ·obtain ⟨u,rfl,r1⟩:=jQ r
  cases r1
  exact call_int_bool ⟨.int (if k then 1 else 0),H,I.tok _,⟨_,rfl⟩,q⟩
end
end L2
namespace L2
open PySem PySem.Spec PyProof.Rows
structure ObjM (h : Heap) (x dx C : Addr) (mA : Str→Option Value) : Prop where
 obj : h.get? x = some (PySem.W.instObj C dx)
 ns : h.Ns1 dx mA
 ne : dx ≠ x
theorem yM {h : Heap} {dx : Addr} {mA : Str→Option Value} (n : h.Ns1 dx mA) : ∃ od,h.get? dx = some od∧∀ name,PySem.W.lookIn name od = some (mA name):=by
 obtain ⟨o,es,ep,ho,hd,hk,_,hm⟩:=n
 refine ⟨o,ho,fun name=>?_⟩
 have e:=hm name
 unfold nsFind findBy at e
 rw [← Array.find?_toList] at e
 unfold PySem.W.lookIn
 rw [hd]
 dsimp only
 split
 ·rename_i y q
  rw [q] at e
  exact congrArg some e
 ·rename_i q
  rw [q] at e
  have a : es.toList.any (·.refKey) = false:=by
   rw [List.any_eq_false]
   intro y hy
   obtain ⟨z,t,hkey⟩:=hk y (Array.mem_toList_iff.mp hy)
   simp [DictEntry.refKey,hkey]
  have a' : ¬ es.toList.any (·.refKey) = true:=by rw [a]; exact Bool.false_ne_true
  rw [if_neg a']
  exact congrArg some e
theorem ObjM.look {h : Heap} {x dx C : Addr} {mA : Str→Option Value} (I : ObjM h x dx C mA) : ∃ od,PySem.W.InstAt h x (PySem.W.instObj C dx) C (some od)∧∀ name,PySem.W.lookIn name od = some (mA name) :=
 let ⟨od,ho,hl⟩:=yM I.ns
 ⟨od,⟨I.obj,rfl,rfl,ho⟩,hl⟩
section
variable {prog : Program} {w : World} {A : Around} {E : Value→Shared→Prop} {s : Shared} {K : PySem.W.Frag} {x dx C f : Addr} {mA : Str→Option Value} {name : Str} {v : Value}
theorem aBH {expr : Bool} {Q : Value→Shared→Prop} (X : K.In s.heap) (I : ObjM s.heap x dx C mA) (hg : PySem.W.plainGet K C name = true) (hh : PySem.W.hasDictIn K C = true)
  (ha : PySem.W.findIn K (.ref C) name = some none) (hv : mA name = some v) (hv' : PySem.W.handedIn v = true) (h : Q v { s with toks:=s.toks + 1 }) :
  wpAny (model prog w) A (getAttr (.ref x) name expr) Q E s:=by
 obtain ⟨od,J,hl⟩:=I.look
 exact PySem.W.get_value X J (PySem.W.plainGet_of hg).1 (PySem.W.findObj_own hh ha rfl (by rw [hl,hv])) hv' h
theorem aAH {pl : Sem Bool} {Q : Value × List Value→Shared→Prop} (X : K.In s.heap) (I : ObjM s.heap x dx C mA) (hg : PySem.W.plainGet K C name = true)
  (hf : PySem.W.findIn K (.ref C) name = some (some (.ref f))) (ht : PySem.W.isFn K (.ref f) = true) (hv : mA name = none) (h : Q (.ref f,[.ref x]) s) :
  wpAny (model prog w) A (getMethod (.ref x) name pl) Q E s:=by
 obtain ⟨od,J,hl⟩:=I.look
 exact PySem.W.method_fn X J (PySem.W.plainGet_of hg).1 (PySem.W.plainGet_of hg).2 hf (beq_iff_eq.mp ht) (by show (PySem.W.lookIn name od).map (·.isSome) = some false; rw [hl,hv]; rfl) h
theorem aBI {ns : List Str} {Q : Unit→Shared→Prop} (X : K.In s.heap) (I : ObjM s.heap x dx C mA)
  (hs : PySem.W.findIn K (.ref C) "__setattr__" = some (some (.builtin "object.__setattr__"))) (hp : PySem.W.plainOver K C = true) (ht : PySem.W.takerIn K C name = some none) (hh : PySem.W.hasDictIn K C = true)
  (hw : PySem.Within mA ns) (hsz : ns.length ≤ sizeLine)
  (h : ∀ h',ObjM h' x dx C (fun y=>if y = name then some v else mA y)→Heap.SameBut dx s.heap h'→Q () { s with heap:=h',toks:=s.toks + 2 }) :
  wpAny (model prog w) A (setAttr (.ref x) name v) Q E s:=by
 obtain ⟨od,J,hl⟩:=I.look
 refine PySem.W.set_plain X J hs (PySem.W.osa_open (s:={ s with toks:=s.toks + 1 }) (r:=none) X J hp ht fun b=>?_)
 obtain ⟨cd,hc,hd'⟩:=PySem.W.any_some hh
 have hx : s.heap.get? x = some ⟨.ref C,some dx,.plain,#[]⟩:=I.obj
 refine wpAny_bind (wpAny_pure (wpAny_bind (wpAny_bind (wpAny_loadPart hx (wpAny_bind (PySem.W.Looks.here (s:={ s with toks:=s.toks + 1 }) (PySem.W.looks_clsIn X hc) ?_))))))
 rw [hd']
 refine wpAny_pure (a:=some dx) (wpAny_bind (wpAny_pure (wpAny_bind ?_)))
 refine wpAny_nsSet1 (s:={ s with toks:=s.toks + 1 }) I.ns fun h' hn2 hs2=>?_
 obtain ⟨oD,esD,epD,hoD,hdD,hcD⟩:=hn2.count (PySem.Within.cons name v hw)
 refine wpAny_bind (wpAny_lookBehind hoD (by rw [hdD]; exact pastItsLine_dict (Nat.le_trans hcD (by rw [List.length_cons]; omega))) ?_)
 exact wpAny_pure (h _ ⟨(hs2.2 _ (Ne.symm I.ne)).trans I.obj,hn2,I.ne⟩ hs2)
theorem aAI {R : Result→Shared→Prop} {vs : List Value} {kw : List (Str × Value)} (X : K.In s.heap) (hm : PySem.W.makesIn K C = true)
  (hi : PySem.W.findIn K (.ref C) "__init__" = some (some (.ref f))) (hf : PySem.W.typeIn K (.ref f) = some (.type "function"))
  (h : codeAny (model prog w) (A.under (.builtin "type.__call__" ⟨.ref C :: vs,kw⟩)) (.call (.ref f) ⟨.ref (s.heap.objs.size + 1) :: vs,kw⟩) (PySem.W.InitBack (s.heap.objs.size + 1) R)
   { s with heap:=(s.heap.push PySem.W.emptyDict).push (PySem.W.instObj C s.heap.objs.size) }) :
  codeAny (model prog w) A (.call (.ref C) ⟨vs,kw⟩) R s:=by
 obtain ⟨hh,g,d,t,os⟩:=s
 exact PySem.W.make_core (PySem.W.makes_of X hm) (PySem.W.looks_findIn X hi) (fun self=>PySem.W.bind_fn X self hf) (.inl rfl) h
end
def putF (f : Str) (v : V) : List (Str × V)→List (Str × V)
 | []=>[(f,v)]
 | (g,x) :: r=>if g = f then (g,v) :: r else (g,x) :: putF f v r
theorem bS (f g : Str) (v : V) : ∀ fs : List (Str × V),(putF f v fs).lookup g = if g = f then some v else fs.lookup g
 | []=>by
  show List.lookup g [(f,v)] = _
  by_cases h : g = f
  ·have hb : (g == f) = true:=beq_iff_eq.mpr h
   simp only [List.lookup,hb,if_pos h]
  ·have hb : (g == f) = false:=beq_eq_false_iff_ne.mpr h
   simp only [List.lookup,hb,if_neg h]
 | (k,x) :: r=>by
  have ih:=bS f g v r
  rw [show putF f v ((k,x) :: r) = (if k = f then (k,v) :: r else (k,x) :: putF f v r) from rfl]
  by_cases hk : k = f
  ·rw [if_pos hk]
   by_cases h : g = k
   ·have hb : (g == k) = true:=beq_iff_eq.mpr h
    simp only [List.lookup,hb,if_pos (h.trans hk)]
   ·have hb : (g == k) = false:=beq_eq_false_iff_ne.mpr h
    simp only [List.lookup,hb,if_neg (fun e : g = f=>h (e.trans hk.symm))]
  ·rw [if_neg hk]
   by_cases h : g = k
   ·have hb : (g == k) = true:=beq_iff_eq.mpr h
    simp only [List.lookup,hb,if_neg (fun e : g = f=>hk (h.symm.trans e))]
   ·have hb : (g == k) = false:=beq_eq_false_iff_ne.mpr h
    simp only [List.lookup,hb]
    exact ih
theorem lF (f : Str) (v : V) : ∀ fs : List (Str × V),f∈(putF f v fs).map (·.1)∧∀ g,g∈fs.map (·.1)→g∈(putF f v fs).map (·.1)
 | []=>⟨by simp [putF],fun g h=>by simp at h⟩
 | (k,x) :: r=>by
  obtain ⟨i1,i2⟩:=lF f v r
  rw [show putF f v ((k,x) :: r) = (if k = f then (k,v) :: r else (k,x) :: putF f v r) from rfl]
  by_cases hk : k = f
  ·rw [if_pos hk]
   subst hk
   exact ⟨by simp,fun g h=>by simpa using h⟩
  ·rw [if_neg hk]
   refine ⟨?_,fun g h=>?_⟩
   ·rw [List.map_cons]
    exact List.mem_cons_of_mem _ i1
   ·rw [List.map_cons] at h ⊢
    rcases List.mem_cons.mp h with e | e
    ·exact List.mem_cons.mpr (.inl e)
    ·exact List.mem_cons_of_mem _ (i2 g e)
theorem dJ (f : Str) (v : V) : ∀ fs : List (Str × V),(putF f v fs).length ≤ fs.length + 1
 | []=>by simp [putF]
 | (k,x) :: r=>by
  have ih:=dJ f v r
  rw [show putF f v ((k,x) :: r) = (if k = f then (k,v) :: r else (k,x) :: putF f v r) from rfl]
  by_cases hk : k = f
  ·rw [if_pos hk,List.length_cons,List.length_cons]; omega
  ·rw [if_neg hk,List.length_cons,List.length_cons]; omega
theorem RelO.some_of {v : V} {o : Option Value} (r : RelO (some v) o) : ∃ u,o = some u∧RelV v u:=by
 cases o with
 | none=>exact (show False from r).elim
 | some u=>exact ⟨u,rfl,r⟩
theorem RelO.none_of {o : Option Value} (r : RelO none o) : o = none:=by
 cases o with
 | none=>rfl
 | some u=>exact (show False from r).elim
theorem jS {v : V} {u : Value} (r : RelV v u) : PySem.W.handedIn u = true:=by
 cases v with
 | non=>cases (show u = Value.none from r); rfl
 | bl b=>cases (show u = Value.bool b from r); rfl
 | int i=>obtain ⟨t,e⟩:=(show ∃ t,u = Value.int i t from r); cases e; rfl
 | str x=>obtain ⟨t,e⟩:=(show ∃ t,u = Value.str x t from r); cases e; rfl
 | byt b=>obtain ⟨t,e⟩:=(show ∃ t,u = Value.bytes b t from r); cases e; rfl
 | flt b=>obtain ⟨t,e⟩:=(show ∃ t,u = Value.float b t from r); cases e; rfl
 | ref a=>cases (show u = Value.ref a from r); rfl
 | ty n=>cases (show u = Value.type n from r); rfl
section
variable {P : Program} {w : World} {H H' : Hp} {h h' : Heap} {a C dx : Addr} {fs fs' : List (Str × V)}
theorem mB (hok : HOk P w H h) (e : H a = some (.ins C dx fs)) : ∃ mA,ObjM h a dx C mA∧(∀ f,RelO (fs.lookup f) (mA f))∧PySem.Within mA (fs.map (·.1))∧fs.length ≤ 1000∧H dx = some (.own a):=by
 obtain ⟨d,z,ne,ob,mA,n,r,q⟩:=(show bH P w H h a (.ins C dx fs) from hok a _ e)
 exact ⟨mA,⟨ob,n,ne⟩,r,q,z,d⟩
end
structure Cls (K : PySem.W.Frag) (C : Addr) : Prop where
 pg : PySem.W.plainGet K C Str.empty = true
 hd : PySem.W.hasDictIn K C = true
 po : PySem.W.plainOver K C = true
 sa : PySem.W.findIn K (.ref C) "__setattr__" = some (some (.builtin "object.__setattr__"))
theorem Cls.get {K : PySem.W.Frag} {C : Addr} (c : Cls K C) (f : Str) : PySem.W.plainGet K C f = true:=c.pg
def fJ (K : PySem.W.Frag) (C : Addr) (f : Str) : Prop:=PySem.W.findIn K (.ref C) f = some none
theorem fJ.taker {K : PySem.W.Frag} {C : Addr} {f : Str} (n : fJ K C f) : PySem.W.takerIn K C f = some none:=by
 unfold PySem.W.takerIn
 rw [show PySem.W.findIn K (.ref C) f = some none from n]
 rfl
structure Meth (K : PySem.W.Frag) (C : Addr) (m : Str) (f : Addr) : Prop where
 at_ : PySem.W.findIn K (.ref C) m = some (some (.ref f))
 fn : PySem.W.isFn K (.ref f) = true
 kp : PySem.W.keepIn K (.ref f) = true
section
variable {X : Cx} {pins : List (Addr × Obj)} {σ : St} {H : Hp} {s : Shared} {a C dx : Addr} {fs : List (Str × V)} {f : Str} {v : V} {A : Around} {E : Value→Shared→Prop}
theorem wK {b : Bool} {Q : Value→Shared→Prop} (I : Inv X pins σ H s) (e : H a = some (.ins C dx fs)) (c : Cls X.K C) (n : fJ X.K C f) (l : fs.lookup f = some v)
  (h : ∀ u s',Inv X pins σ H s'→RelV v u→Q u s') : wpAny (model X.prog X.w) A (getAttr (.ref a) f b) Q E s:=by
 obtain ⟨mA,O,r,_,_,_⟩:=mB I.hok e
 obtain ⟨u,hu,ru⟩:=RelO.some_of (v:=v) (o:=mA f) (by rw [← l]; exact r f)
 exact aBH I.kIn O (c.get f) c.hd n hu (jS ru) (h u _ (I.tok _) ru)
theorem wL {m : Str} {g : Addr} {pl : Sem Bool} {Q : Value × List Value→Shared→Prop} (I : Inv X pins σ H s) (e : H a = some (.ins C dx fs)) (c : Cls X.K C) (k : Meth X.K C m g) (l : fs.lookup m = none)
  (h : Q (.ref g,[.ref a]) s) : wpAny (model X.prog X.w) A (getMethod (.ref a) m pl) Q E s:=by
 obtain ⟨mA,O,r,_,_,_⟩:=mB I.hok e
 have hn : mA m = none:=RelO.none_of (by rw [← l]; exact r m)
 exact aAH I.kIn O (c.get m) k.at_ k.fn hn h
theorem wM {y : V} {u : Value} {Q : Unit→Shared→Prop} (I : Inv X pins σ H s) (e : H a = some (.ins C dx fs)) (c : Cls X.K C) (n : fJ X.K C f) (hl : fs.length < 1000) (ry : RelV y u)
  (h : ∀ s',Inv X pins σ (upd H a (.ins C dx (putF f y fs))) s'→Q () s') : wpAny (model X.prog X.w) A (setAttr (.ref a) f u) Q E s:=by
 obtain ⟨mA,O,r,wi,_,ho⟩:=mB I.hok e
 have hz : (fs.map (·.1)).length ≤ sizeLine:=by rw [List.length_map,sizeLine_eq]; omega
 refine aBI I.kIn O c.sa c.po n.taker c.hd wi hz fun h' O' sb=>h _ ?_
 have hd : ∃ o,h'.get? dx = some o:=let ⟨o,_,_,e',_⟩:=O'.ns; ⟨o,e'⟩
 refine I.write (x:=a) (e:=dx) (by rw [e]; exact True.intro) (.inr ho) (fun b q hb z=>(sb.2 b hb).trans z) hd ?_
 refine ⟨by rw [aD O.ne]; exact ho,?_,O.ne,O'.obj,_,O'.ns,fun g=>?_,fun g hg=>?_⟩
 ·have:=dJ f y fs; omega
 ·show RelO ((putF f y fs).lookup g) (if g = f then some u else mA g)
  rw [bS]
  by_cases q : g = f
  ·rw [if_pos q,if_pos q]; exact ry
  ·rw [if_neg q,if_neg q]; exact r g
 ·by_cases q : g = f
  ·rw [q]; exact (lF f y fs).1
  ·refine (lF f y fs).2 g (wi g fun z=>hg ?_)
   show (if g = f then some u else mA g) = none
   rw [if_neg q]; exact z
theorem Inv.made (I : Inv X pins σ H s) : Inv X pins σ (upd (upd H s.heap.objs.size (.own (s.heap.objs.size + 1))) (s.heap.objs.size + 1) (.ins C s.heap.objs.size []))
  { s with heap:=(s.heap.push PySem.W.emptyDict).push (PySem.W.instObj C s.heap.objs.size) }:=by
 have e1 : (s.heap.push PySem.W.emptyDict).get? s.heap.objs.size = some PySem.W.emptyDict:=Heap.get?_push_size s.heap rfl
 have e2 : ((s.heap.push PySem.W.emptyDict).push (PySem.W.instObj C s.heap.objs.size)).get? (s.heap.objs.size + 1) = some (PySem.W.instObj C s.heap.objs.size):=by
  have:=Heap.get?_push_size (s.heap.push PySem.W.emptyDict) (o:=PySem.W.instObj C s.heap.objs.size) rfl
  rwa [Heap.size_push] at this
 have e3 : (s.heap.push PySem.W.emptyDict).Ns s.heap.objs.size (fun _=>none):=⟨PySem.W.emptyDict,#[],_,e1,rfl,(fun e he=>absurd he (by simp)),fun _=>rfl⟩
 have I1:=I.laid (a:=s.heap.objs.size) (o:=.own (s.heap.objs.size + 1)) (h':=s.heap.push PySem.W.emptyDict) (t':=s.toks) (fun b u q=>Heap.get?_push_of_some _ q) (Nat.le_refl _) ⟨_,e1⟩
 refine I1.laid (a:=s.heap.objs.size + 1) (o:=.ins C s.heap.objs.size []) (t':=s.toks) (fun b u q=>Heap.get?_push_of_some _ q) (Nat.le_of_eq (Heap.size_push _ _)) ?_
 have ne : s.heap.objs.size ≠ s.heap.objs.size + 1:=Nat.ne_of_lt (Nat.lt_succ_self _)
 refine ⟨by rw [aD ne,aB],Nat.zero_le _,ne,e2,fun _=>none,(Heap.Ns1.of_empty e3).at fun o q=>Heap.get?_push_of_some _ q,fun _=>True.intro,fun y hy=>absurd rfl hy⟩
theorem aBJ {prog : Program} {w : World} {env : Env} {e : Expr} {f : Str} {pos : Pos} {s : Shared} {Q : Value→Shared→Prop} (hb : attributeBase e f env (eval e env) = eval e env)
  (h : wpAny (model prog w) A (eval e env) (fun o s₁=>wpAny (model prog w) A (getAttr o f true) Q E s₁) E s) : wpAny (model prog w) A (eval (.Attribute e f pos) env) Q E s :=
 Attribute_any_ h (by rw [arm_eval_Attribute,hb])
end
def tFld (K : PySem.W.Frag) (ta : TE) (f : Str) : TE:=fun σ H Q=>ta σ H fun x H1=>∃ a C dx fs v,x = .ref a∧H1 a = some (.ins C dx fs)∧Cls K C∧fJ K C f∧fs.lookup f = some v∧Q v H1
def sFld (K : PySem.W.Frag) (ta tv : TE) (f : Str) : TS:=fun D σ H=>tv σ H fun y H1=>ta σ H1 fun x H2=>∃ a C dx fs,x = .ref a∧H2 a = some (.ins C dx fs)∧Cls K C∧fJ K C f∧fs.length < 1000 ∧
 D.nx σ (upd H2 a (.ins C dx (putF f y fs)))
section
variable {X : Cx} {o e value : Expr} {f : Str} {pos pos' tpos : Pos} {ta tv : TE}
theorem nX (he : PE X e ta) (hb : attributeBase e f X.env (eval e X.env) = eval e X.env) : PE X (.Attribute e f pos) (tFld X.K ta f):=by
 intro pins s σ H Q I h
 refine aBJ hb (thn (he pins s σ H _ I h) fun u s1 ⟨x,H1,I1,rx,a,C,dx,fs,v,ex,ea,c,n,l,q⟩=>?_)
 subst ex
 obtain rfl : u = Value.ref a:=rx
 exact wK I1 ea c n l fun u' s2 I2 ru=>⟨v,H1,I2,ru,q⟩
theorem nY (ha : PE X o ta) (hv : PE X value tv) (hs : swapsWith value (some (.Attribute o f pos')) pos.line X.env = pure false) : PS X (.Assign [.Attribute o f pos'] value pos) (sFld X.K ta tv f):=by
 intro pins s σ H D I h
 refine plainObj_wpAny_Assign_Attribute (thn (hv pins s σ H _ I h) fun u s1 ⟨y,H1,I1,ry,q⟩=>thn (ha pins s1 σ H1 _ I1 q) fun ov s2 ⟨x,H2,I2,rx,a,C,dx,fs,ex,ea,c,n,l,q2⟩=>?_) hs
 subst ex
 obtain rfl : ov = Value.ref a:=rx
 exact wM I2 ea c n l ry fun s3 I3=>⟨σ,_,I3,q2⟩
end
section
variable {X : Cx} {pins : List (Addr × Obj)} {σ : St} {H : Hp} {s : Shared} {A : Around} {E : Value→Shared→Prop} {Q : Value→Shared→Prop} {c : Value} {b : Bool}
inductive TyOf (K : PySem.W.Frag) (H : Hp) : V→Value→Prop where
 | non : TyOf K H .non (.type "NoneType")
 | bl (x : Bool) : TyOf K H (.bl x) (.type "bool")
 | int (i : Int) : TyOf K H (.int i) (.type "int")
 | str (x : Str) : TyOf K H (.str x) (.type "str")
 | flt (x : UInt64) : TyOf K H (.flt x) (.type "float")
 | lst {a : Addr} {xs : List V} (e : H a = some (.lst xs)) : TyOf K H (.ref a) (.type "list")
 | frz {a : Addr} {o : Obj} {xs : List V} (e : H a = some (.frz o (.lst xs))) : TyOf K H (.ref a) (.type "list")
 | tup {a : Addr} {xs : List V} (e : H a = some (.tup xs)) : TyOf K H (.ref a) (.type "tuple")
 | dK {a : Addr} {kvs : List (Key × V)} (e : H a = some (.dK kvs)) : TyOf K H (.ref a) (.type "dict")
 | dT {a : Addr} {kvs : List (List Key × V)} (e : H a = some (.dT kvs)) : TyOf K H (.ref a) (.type "dict")
 | ins {a C dx : Addr} {fs : List (Str × V)} (e : H a = some (.ins C dx fs)) (cl : Cls K C) (ha : PySem.W.findIn K (.ref C) "__class__" = some (some (.builtin "object.__class__")))
   (hn : PySem.W.specialIn K (.builtin "object.__class__") "__get__" = some (some (.builtin "getset_descriptor.__get__"))) (htk : PySem.W.takesIn K (.builtin "object.__class__") = some true)
   (hm : PySem.W.mroIn K C (.type "object") = some true) : TyOf K H (.ref a) (.ref C)
theorem yN {x : V} {u t : Value} (I : Inv X pins σ H s) (rx : RelV x u) (ty : TyOf X.K H x t) (e : PySem.W.kitOne X.K t c = some b) (h : ∀ tk,Q (.bool b) { s with toks:=tk }) :
  wpAny (model X.prog X.w) A (call (.builtin "isinstance") [u,c]) Q E s:=by
 cases ty with
 | non=>cases (show u = Value.none from rx); exact PySem.W.kia_one PySem.W.kitx_none I.kIn True.intro e (fun z=>nomatch z) h
 | bl y=>cases (show u = Value.bool y from rx); exact PySem.W.kia_one PySem.W.kitx_bool I.kIn True.intro e (fun z=>nomatch z) h
 | int i=>obtain ⟨t,q⟩:=(show ∃ t,u = Value.int i t from rx); cases q; exact PySem.W.kia_one PySem.W.kitx_int I.kIn True.intro e (fun z=>nomatch z) h
 | str y=>obtain ⟨t,q⟩:=(show ∃ t,u = Value.str y t from rx); cases q; exact PySem.W.kia_one PySem.W.kitx_str I.kIn True.intro e (fun z=>nomatch z) h
 | flt y=>obtain ⟨t,q⟩:=(show ∃ t,u = Value.float y t from rx); cases q; exact PySem.W.kia_one PySem.W.kitx_float I.kIn True.intro e (fun z=>nomatch z) h
 | @lst a xs ea =>
  cases (show u = Value.ref a from rx)
  obtain ⟨_,_,n,_,h1⟩:=(show bH X.prog X.w H s.heap a (.lst xs) from I.hok a _ ea)
  exact PySem.W.kia_one PySem.W.kitx_list I.kIn ⟨_,h1,rfl⟩ e (fun z=>nomatch z) h
 | @frz a ob xs ea =>
  cases (show u = Value.ref a from rx)
  obtain ⟨_,_,_,n,_,h1⟩:=(show bH X.prog X.w H s.heap a (.frz ob (.lst xs)) from I.hok a _ ea)
  exact PySem.W.kia_one PySem.W.kitx_list I.kIn ⟨_,h1,rfl⟩ e (fun z=>nomatch z) h
 | @tup a xs ea =>
  cases (show u = Value.ref a from rx)
  obtain ⟨_,_,_,p⟩:=(show bH X.prog X.w H s.heap a (.tup xs) from I.hok a _ ea)
  obtain ⟨o,h1,h2,_⟩:=p
  exact PySem.W.kia_one PySem.W.kitx_tuple I.kIn ⟨o,h1,h2⟩ e (fun z=>nomatch z) h
 | @dK a kvs ea =>
  cases (show u = Value.ref a from rx)
  obtain ⟨_,_,vs,_,p⟩:=(show bH X.prog X.w H s.heap a (.dK kvs) from I.hok a _ ea)
  obtain ⟨o,es,ep,h1,h2,_⟩:=p
  exact PySem.W.kia_one PySem.W.kitx_dict I.kIn ⟨o,h1,h2.1⟩ e (fun z=>nomatch z) h
 | @dT a kvs ea =>
  cases (show u = Value.ref a from rx)
  obtain ⟨_,_,xs,_,o,es,ep,h1,h2,_⟩:=(show bH X.prog X.w H s.heap a (.dT kvs) from I.hok a _ ea)
  exact PySem.W.kia_one PySem.W.kitx_dict I.kIn ⟨o,h1,h2.1⟩ e (fun z=>nomatch z) h
 | @ins a C dx fs ea cl ha hn htk hm =>
  cases (show u = Value.ref a from rx)
  obtain ⟨mA,O,_⟩:=mB I.hok ea
  obtain ⟨od,J,_⟩:=O.look
  exact PySem.W.kia_one (PySem.W.kitx_own (cl.get _) cl.hd ha hn htk hm) I.kIn J e (fun z=>nomatch z) h
end
end L2
namespace L2
open PySem PySem.Spec PyProof.Rows
structure Room (k : Nat) (A : Around) : Prop where
 hd : A.handled = none
 dp : A.depth + 3 * k + 5 < recursionLimit
 un : A.units + 16 * k + 200 < cLine
theorem Room.mono {j k : Nat} {A : Around} (r : Room k A) (h : j ≤ k) : Room j A:=⟨r.hd,by have:=r.dp; omega,by have:=r.un; omega⟩
theorem Room.deeper {k : Nat} {A : Around} (r : Room (k + 1) A) (env : Env) : Room k (A.deeper env) :=
 ⟨r.hd,by have:=r.dp; show A.depth + 1 + 3 * k + 5 < _; omega,by have:=r.un; show A.units + 3 + 16 * k + 200 < _; omega⟩
theorem wN {A : Around} {C : Addr} {us : List Value} {kw : List (Str × Value)} : (A.under (.builtin "type.__call__" ⟨.ref C :: us,kw⟩)).depth = A.depth + 1:=by
 first | rfl | simp [Around.under,Code.weight,Code.isCreation,Code.isGuard,Code.isCaller,Code.frames,Code.isFrame,guardIds]
theorem wO {A : Around} {C : Addr} {us : List Value} {kw : List (Str × Value)} : (A.under (.builtin "type.__call__" ⟨.ref C :: us,kw⟩)).units = A.units + 1:=by
 first | rfl | simp [Around.under,Code.cUnits,Code.frames,Code.isFrame]
theorem Room.make {k : Nat} {A : Around} (r : Room (k + 1) A) (C : Addr) (us : List Value) (kw : List (Str × Value)) : Room k (A.under (.builtin "type.__call__" ⟨.ref C :: us,kw⟩)) :=
 ⟨r.hd,by have:=r.dp; rw [wN]; omega,by have:=r.un; rw [wO]; omega⟩
theorem Room.depth {k : Nat} {A : Around} (r : Room k A) : A.depth < recursionLimit:=by have:=r.dp; omega
def tNil : TA:=fun _ H Q=>Q [] H
def bV (ta : TE) (tr : TA) : TA:=fun σ H Q=>ta σ H fun x H1=>tr σ H1 fun xs H2=>Q (x :: xs) H2
section
variable {X : Cx} {e : Expr} {es : List Expr} {te : TE} {t : TA} {pos : Pos}
theorem aE : PA X [] tNil:=fun _ _ _ _ H Q I h=>Calls.spliced_nil ⟨[],H,I,.nil,h⟩
theorem aA (ha : PE X e te) (hr : PA X es t) (hs : starEach (e :: es) X.env = (false,eval e X.env) :: starEach es X.env:=by rfl) : PA X (e :: es) (bV te t):=by
 intro pos pins s σ H Q I h
 rw [hs]
 show wpAny _ _ (spliced ((false,eval e X.env) :: backTo pos (starEach es X.env))) _ _ s
 refine Calls.spliced_cons (thn (ha pins s σ H _ I h) fun u s1 ⟨x,H1,I1,r1,q1⟩=>?_)
 exact thn (hr pos pins s1 σ H1 _ I1 q1) fun us s2 ⟨xs,H2,I2,r2,q2⟩=>⟨x :: xs,H2,I2,.cons r1 r2,q2⟩
def tTup (t : TA) : TE:=fun σ H Q=>t σ H fun xs H1=>xs.length ≤ sizeLine∧∀ p,H1 p = none→Q (.ref p) (upd H1 p (.tup xs))
def tLst (t : TA) : TE:=fun σ H Q=>t σ H fun xs H1=>xs.length ≤ sizeLine∧∀ p,H1 p = none→Q (.ref p) (upd H1 p (.lst xs))
theorem fK {x1} (h : PA X es t) : PE X (.Tuple es x1 pos) (tTup t):=by
 intro pins s σ H Q I hq
 refine wpAny_Tuple_spliced (thn (h pos pins s σ H _ I hq) fun us s1 ⟨xs,H1,I1,r,z,q⟩=>⟨by rw [← r.length]; exact z,?_⟩)
 have hf : H1 s1.heap.objs.size = none:=I1.hok.fresh (Nat.le_refl _)
 refine ⟨.ref s1.heap.objs.size,upd H1 s1.heap.objs.size (.tup xs),I1.laid (t':=s1.toks) (fun b u e=>Heap.get?_push_of_some _ e) (Nat.le_refl _) ?_,rfl,q _ hf⟩
 exact ⟨z,us,r,⟨_,Heap.get?_push_size _ rfl,rfl,_,rfl⟩⟩
theorem cG (h : PA X es t) : PE X (.List es pos) (tLst t):=by
 intro pins s σ H Q I hq
 refine wpAny_List_spliced (thn (h pos pins s σ H _ I hq) fun us s1 ⟨xs,H1,I1,r,z,q⟩=>⟨by rw [← r.length]; exact z,?_⟩)
 have hf : H1 s1.heap.objs.size = none:=I1.hok.fresh (Nat.le_refl _)
 refine ⟨.ref s1.heap.objs.size,upd H1 s1.heap.objs.size (.lst xs),I1.laid (t':=s1.toks) (fun b u e=>Heap.get?_push_of_some _ e) (Nat.le_refl _) ?_,rfl,q _ hf⟩
 exact ⟨z,us,0,r,Heap.get?_push_size _ rfl⟩
end
abbrev Sp:=List V→Hp→VK→XK→Prop
abbrev CXT:=List Env→Hp→Shared→XK→Value→Shared→Prop
structure Env0 (P : Program) (w : World) (K : PySem.W.Frag) (mg : Str→Option Value) (base : Heap) (A : Around) (outer : List Env) (s : Shared) (H : Hp) : Prop where
 frames : A.frames = some outer
 mod : Mod K mg base
 bs : ∀ b o,base.get? b = some o→s.heap.get? b = some o∧H b = none
 bsz : base.objs.size ≤ s.heap.objs.size
 funs : s.heap.FunFrames base outer
 frf : ∀ b∈frs outer,H b = none
 hok : HOk P w H s.heap
 bare : AllBare s.gens
def CE (outer : List Env) (P : Program) (w : World) (H : Hp) (s : Shared) (Q : VK) (u : Value) (s' : Shared) : Prop :=
 ∃ v H',s'.os = s.os∧AllBare s'.gens∧Un (frs outer) [] H H' s.heap s'.heap∧HOk P w H' s'.heap∧RelV v u∧Q v H'
def CR (CX : CXT) (outer : List Env) (P : Program) (w : World) (H : Hp) (s : Shared) (Q : VK) (E : XK) (r : Result) (s' : Shared) : Prop :=
 match r with
 | .ok (.ret u)=>CE outer P w H s Q u s'
 | .ok _=>False
 | .error e=>CX outer H s E e s'
structure FnOk (P : Program) (w : World) (K : PySem.W.Frag) (mg : Str→Option Value) (base : Heap) (CX : CXT) (k : Nat) (f : Addr) (fd : FuncData) (ps : List Str) (sp : Sp) : Prop where
 len : ∀ vs H Q E,sp vs H Q E→vs.length = ps.length
 run : ∀ (A : Around) (outer : List Env) (s : Shared) (H : Hp) (args : Args) (us : List Value) (vs : List V) (Q : VK) (E : XK),Room k A→Env0 P w K mg base A outer s H→BindsTo s fd args (ps.zip us)→Vals vs us→sp vs H Q E →
  codeAny (model P w) A (.call (.ref f) args) (CR CX outer P w H s Q E) s
theorem Env0.make {P : Program} {w : World} {K : PySem.W.Frag} {mg : Str→Option Value} {base : Heap} {A : Around} {outer : List Env} {s : Shared} {H : Hp} (e : Env0 P w K mg base A outer s H) (C : Addr) (us : List Value) (kw : List (Str × Value)) :
  Env0 P w K mg base (A.under (.builtin "type.__call__" ⟨.ref C :: us,kw⟩)) outer s H:=⟨by first | exact e.frames | (simpa [Around.under,Code.envs,Code.isFrame,pushEnvs] using e.frames),e.mod,e.bs,e.bsz,e.funs,e.frf,e.hok,e.bare⟩
section
variable {X : Cx} {pins : List (Addr × Obj)} {σ : St} {H : Hp} {s s' : Shared}
theorem Inv.env0 (I : Inv X pins σ H s) : Env0 X.prog X.w X.K X.mg X.base X.A X.stack s H :=
 ⟨I.ok.frames,I.ok.mod,I.bs,Nat.le_trans I.ok.bsz I.sz,I.stack,I.stkFree,I.hok,I.bare⟩
theorem Inv.after {Q : VK} {u : Value} (I : Inv X pins σ H s) (h : CE X.stack X.prog X.w H s Q u s') : EP X pins σ Q u s':=by
 obtain ⟨v,H',os,bare,un,hok,r,q⟩:=h
 obtain ⟨hh,g,d,t,os'⟩:=s'
 obtain rfl : os' = s.os:=os
 exact ⟨v,H',I.call (h':=hh) (g':=g) (d':=d) (t':=t) (ch:=[]) un hok bare (fun b z=>absurd z (by simp)),r,q⟩
end
def mC (sp : Sp) (dvs : List V) (E : XK) (t : TA) : TE:=fun σ H Q=>t σ H fun vs H1=>sp (vs ++ dvs) H1 Q E
def aDL (C : Addr) (m : Str) (sp : Sp) (dvs : List V) (E : XK) (ta : TE) (t : TA) : TE:=fun σ H Q=>ta σ H fun x H1=>∃ a dx fs,x = .ref a∧H1 a = some (.ins C dx fs)∧fs.lookup m = none ∧
 t σ H1 fun vs H2=>sp (x :: (vs ++ dvs)) H2 Q E
def aDM (C : Addr) (sp : Sp) (dvs : List V) (E : XK) (t : TA) : TE:=fun σ H Q=>t σ H fun vs H1=>∀ x dx,H1 x = none→H1 dx = none→dx ≠ x →
 sp (.ref x :: (vs ++ dvs)) (upd (upd H1 dx (.own x)) x (.ins C dx [])) (fun v H2=>v = .non∧Q (.ref x) H2) E
def gB (K : PySem.W.Frag) (fd : FuncData) (ps : List Str) (ds : List Value) : Prop :=
 ∀ (s : Shared) (us : List Value),K.In s.heap→(us ++ ds).length = ps.length→BindsTo s fd ⟨us,[]⟩ (ps.zip (us ++ ds))
theorem gB.all {K : PySem.W.Frag} {fd : FuncData} {ps : List Str} (h : ∀ us : List Value,us.length = ps.length→bindArgs fd ⟨us,[]⟩ = pure (ps.zip us)) : gB K fd ps []:=fun s us _ hl=>by
 rw [List.append_nil] at hl ⊢
 exact .of_eq (h us hl)
def jD (CX : CXT) (X : Cx) (E : XK) : Prop:=∀ (pins : List (Addr × Obj)) (σ : St) (H : Hp) (s : Shared) (e : Value) (s' : Shared),Inv X pins σ H s→CX X.stack H s E e s'→X.xe e s'
section
variable {X : Cx} {CX : CXT} {k : Nat} {f C : Addr} {fd : FuncData} {ps : List Str} {sp : Sp} {dvs : List V} {ds : List Value} {E : XK} {x m : Str} {p pos apos : Pos} {e o : Expr} {es : List Expr} {ta : TE} {t : TA}
theorem yO {pins : List (Addr × Obj)} {σ : St} {H : Hp} {s : Shared} {Q : VK} {us : List Value} {vs : List V} (F : FnOk X.prog X.w X.K X.mg X.base CX k f fd ps sp) (hr : Room k X.A) (hb : gB X.K fd ps ds) (hd : Vals dvs ds) (hx : jD CX X E)
  (I : Inv X pins σ H s) (r : Vals vs us) (h : sp (vs ++ dvs) H Q E) : wpAny (model X.prog X.w) X.A (call (.ref f) us) (EP X pins σ Q) X.xe s:=by
 have r2 : Vals (vs ++ dvs) (us ++ ds):=r.append hd
 have hl : (us ++ ds).length = ps.length:=by rw [← r2.length]; exact F.len _ _ _ _ h
 refine wpAny_call (codeAny_mono (F.run X.A X.stack s H ⟨us,[]⟩ (us ++ ds) (vs ++ dvs) Q E hr I.env0 (hb s us I.kIn hl) r2 h) fun r s' hq=>?_)
 cases r with
 | error e=>exact hx pins σ H s e s' I hq
 | ok fl =>
  cases fl with
  | ret u=>exact I.after hq
  | next=>exact False.elim hq
  | brk=>exact False.elim hq
  | cont=>exact False.elim hq
theorem aBK (F : FnOk X.prog X.w X.K X.mg X.base CX k f fd ps sp) (hr : Room k X.A) (hg : Gl X x) (hm : X.mg x = some (.ref f)) (hk : PySem.W.keepIn X.K (.ref f) = true) (hb : gB X.K fd ps ds) (hd : Vals dvs ds) (hx : jD CX X E)
  (ha : PA X (e :: es) t) (hdb : (x == ("__debug__" : Str)) = false:=by decide) (he : starEach (e :: es) X.env = (false,eval e X.env) :: starEach es X.env:=by rfl) (hpl : (backTo pos (starEach es X.env)).any (·.1) = false:=by rfl) :
  PE X (.Call (.Name x p) (e :: es) [] pos) (mC sp dvs E t):=by
 intro pins s σ H Q I h
 refine wpAny_Call_Name_kw (pL I hg hm ?_ hdb)
 refine PySem.W.callWith_K (h₀:=X.base) I.ok.mod.kin hk (thn (ha pos pins s σ H _ I h) fun us s1 ⟨vs,H1,I1,r,q⟩=>⟨I1.kIn,?_⟩) he hpl
 exact yO F hr hb hd hx I1 r q
theorem pO {pl : Sem Bool} (he : PE X o ta) (c : Cls X.K C) (hm : Meth X.K C m f) (F : FnOk X.prog X.w X.K X.mg X.base CX k f fd ps sp) (hr : Room k X.A) (hb : gB X.K fd ps ds) (hd : Vals dvs ds) (hx : jD CX X E) (ha : PA X (e :: es) t)
  (hst : starEach (e :: es) X.env = (false,eval e X.env) :: starEach es X.env:=by rfl) (hpl : (backTo pos (starEach es X.env)).any (·.1) = false:=by rfl)
  (ht : eval (.Call (.Attribute o m apos) (e :: es) [] pos) X.env = (do
   let ov ← eval o X.env
   standAt apos.atName
   let (f,first) ← holding [ov] (getMethod ov m pl)
   callWith pos f first (backTo pos (starEach (e :: es) X.env)) (backToKw pos (keywordEach [] X.env))):=by rfl) :
  PE X (.Call (.Attribute o m apos) (e :: es) [] pos) (aDL C m sp dvs E ta t):=by
 intro pins s σ H Q I h
 refine PySem.W.methodCall_KW (pl:=pl) (thn (he pins s σ H _ I h) fun u s1 ⟨x,H1,I1,rx,a,dx,fs,ex,ea,l,q⟩=>?_) ht
 subst ex
 obtain rfl : u = Value.ref a:=rx
 refine wL I1 ea c hm l ?_
 refine PySem.W.callWith_K (first:=[.ref a]) (h₀:=X.base) I.ok.mod.kin hm.kp (thn (ha pos pins s1 σ H1 _ I1 q) fun us s2 ⟨vs,H2,I2,r,q2⟩=>⟨I2.kIn,?_⟩) hst hpl
 exact yO (us:=.ref a :: us) (vs:=.ref a :: vs) F hr hb hd hx I2 (.cons rfl r) q2
structure Mk (K : PySem.W.Frag) (C f : Addr) : Prop where
 makes : PySem.W.makesIn K C = true
 init : PySem.W.findIn K (.ref C) "__init__" = some (some (.ref f))
 fn : PySem.W.isFn K (.ref f) = true
 kp : PySem.W.keepIn K (.ref C) = true
theorem aAJ {pins : List (Addr × Obj)} {σ : St} {H : Hp} {s : Shared} {Q : VK} {us : List Value} {vs : List V} (M : Mk X.K C f) (F : FnOk X.prog X.w X.K X.mg X.base CX k f fd ps sp) (hr : Room (k + 1) X.A) (hb : gB X.K fd ps ds) (hd : Vals dvs ds)
  (hx : jD CX X E) (I : Inv X pins σ H s) (r : Vals vs us)
  (h : ∀ x dx,H x = none→H dx = none→dx ≠ x→sp (.ref x :: (vs ++ dvs)) (upd (upd H dx (.own x)) x (.ins C dx [])) (fun v H2=>v = .non∧Q (.ref x) H2) E) :
  wpAny (model X.prog X.w) X.A (call (.ref C) us) (EP X pins σ Q) X.xe s:=by
 have hq:=h (s.heap.objs.size + 1) s.heap.objs.size (I.hok.fresh (Nat.le_succ _)) (I.hok.fresh (Nat.le_refl _)) (Nat.ne_of_lt (Nat.lt_succ_self _))
 have I2:=Inv.made (C:=C) I
 have r2 : Vals (V.ref (s.heap.objs.size + 1) :: (vs ++ dvs)) (Value.ref (s.heap.objs.size + 1) :: (us ++ ds)):=.cons rfl (r.append hd)
 have hl : (Value.ref (s.heap.objs.size + 1) :: us ++ ds).length = ps.length:=by
  have e:=r2.length
  rw [F.len _ _ _ _ hq] at e
  exact e.symm
 refine wpAny_call (aAI (f:=f) I.kIn M.makes M.init (beq_iff_eq.mp M.fn) (codeAny_mono (F.run _ X.stack _ _ ⟨Value.ref (s.heap.objs.size + 1) :: us,[]⟩ (Value.ref (s.heap.objs.size + 1) :: (us ++ ds)) _ _ E (hr.make C us [])
  (I2.env0.make C us []) (hb _ (Value.ref (s.heap.objs.size + 1) :: us) I2.kIn hl) r2 hq) fun r s' hq'=>?_))
 cases r with
 | error e=>exact hx pins σ _ _ e s' I2 hq'
 | ok fl =>
  cases fl with
  | ret u =>
   obtain ⟨v,H',I3,rv,ev,q3⟩:=I2.after hq'
   subst ev
   exact ⟨rv,⟨V.ref (s.heap.objs.size + 1),H',I3,rfl,q3⟩⟩
  | next=>exact False.elim hq'
  | brk=>exact False.elim hq'
  | cont=>exact False.elim hq'
theorem aBL (M : Mk X.K C f) (F : FnOk X.prog X.w X.K X.mg X.base CX k f fd ps sp) (hr : Room (k + 1) X.A) (hg : Gl X x) (hm : X.mg x = some (.ref C)) (hb : gB X.K fd ps ds) (hd : Vals dvs ds) (hx : jD CX X E)
  (ha : PA X (e :: es) t) (hdb : (x == ("__debug__" : Str)) = false:=by decide) (he : starEach (e :: es) X.env = (false,eval e X.env) :: starEach es X.env:=by rfl) (hpl : (backTo pos (starEach es X.env)).any (·.1) = false:=by rfl) :
  PE X (.Call (.Name x p) (e :: es) [] pos) (aDM C sp dvs E t):=by
 intro pins s σ H Q I h
 refine wpAny_Call_Name_kw (pL I hg hm ?_ hdb)
 refine PySem.W.callWith_K (h₀:=X.base) I.ok.mod.kin M.kp (thn (ha pos pins s σ H _ I h) fun us s1 ⟨vs,H1,I1,r,q⟩=>⟨I1.kIn,?_⟩) he hpl
 exact aAJ M F hr hb hd hx I1 r q
end
def PK (X : Cx) (kws : List Keyword) (t : TA) : Prop :=
 ∀ (pos : Pos) (pins : List (Addr × Obj)) (s : Shared) (σ : St) (H : Hp) (Q : List V→Hp→Prop),Inv X pins σ H s→t σ H Q→wpAny (model X.prog X.w) X.A (evalAll ((backToKw pos (keywordEach kws X.env)).map (·.2))) (AP X pins σ Q) X.xe s
section
variable {X : Cx} {CX : CXT} {k : Nat} {f C : Addr} {fd : FuncData} {ps ks : List Str} {sp : Sp} {E : XK} {x m : Str} {p pos apos kpos : Pos} {e o : Expr} {es : List Expr} {kws : List Keyword} {te ta : TE} {t tk : TA} {nm : Option Str}
theorem aCV : PK X [] tNil:=fun _ _ _ _ H Q I h=>wpAny_evalAll_nil ⟨[],H,I,.nil,h⟩
theorem aBM (ha : PE X e te) (hr : PK X kws t) : PK X (⟨nm,e,kpos⟩ :: kws) (bV te t):=by
 intro pos pins s σ H Q I h
 show wpAny _ _ (evalAll ((do let v ← eval e X.env; standAt pos; pure v) :: (backToKw pos (keywordEach kws X.env)).map (·.2))) _ _ s
 refine wpAny_evalAll_cons (wpAny_bind (thn (ha pins s σ H _ I h) fun u s1 ⟨x,H1,I1,r1,q1⟩=>wpAny_bind (wpAny_standAt (wpAny_pure ?_))))
 exact thn (hr pos pins s1 σ H1 _ I1 q1) fun us s2 ⟨xs,H2,I2,r2,q2⟩=>⟨x :: xs,H2,I2,.cons r1 r2,q2⟩
variable {g : List Value→List Value→List Value} {gV : List V→List V→List V}
end
structure aY (N P : List Str) (sc : Scope) : Prop where
 kind : sc.kind = .function
 co : sc.isCoroutine = false
 gen : sc.isGenerator = false
 nd : N.Nodup
 pre : N.take P.length = P
 par : ∀ x∈P,sc.names.lookup x = some .local∨sc.names.lookup x = some .cell
 nofree : ∀ y∈sc.names,y.2 ≠ .free
theorem qP {kindOf : Str→Option NameKind} {x : Str} : ∀ {binds : List (Str × Value)} {m : Str→Option Value},(∀ v,(x,v) ∉ binds)→bindL kindOf binds m x = m x
 | [],_,_=>rfl
 | (n,v) :: r,m,h=>by
  unfold bindL
  rw [qP fun w hw=>h w (List.mem_cons_of_mem _ hw)]
  split
  ·have : x ≠ n:=by rintro rfl; exact h v List.mem_cons_self
   simp [this]
  ·rfl
theorem qQ {kindOf : Str→Option NameKind} {x : Str} : ∀ {binds : List (Str × Value)} {m : Str→Option Value},(∀ v,(x,v) ∉ binds)→bindC kindOf binds m x = m x
 | [],_,_=>rfl
 | (n,v) :: r,m,h=>by
  unfold bindC
  rw [qQ fun w hw=>h w (List.mem_cons_of_mem _ hw)]
  split
  ·rfl
  ·have : x ≠ n:=by rintro rfl; exact h v List.mem_cons_self
   simp [this]
theorem qR {kindOf : Str→Option NameKind} {x : Str} {v : Value} : ∀ {P : List Str} {vs : List Value} {i : Nat} {m : Str→Option Value},P.Nodup→P[i]? = some x→vs[i]? = some v→kindOf x = some .local →
  bindL kindOf (P.zip vs) m x = some v
 | [],_,_,_,_,h,_,_=>by simp at h
 | _ :: _,[],_,_,_,_,h,_=>by simp at h
 | p :: P,w :: vs,0,m,nd,h1,h2,hk=>by
  simp at h1 h2; subst h1; subst h2
  show bindL kindOf ((p,w) :: P.zip vs) m p = _
  unfold bindL
  rw [qP fun v hv=>(List.nodup_cons.mp nd).1 (List.of_mem_zip hv).1,if_pos hk]
  simp
 | p :: P,w :: vs,i + 1,m,nd,h1,h2,hk=>by
  show bindL kindOf ((p,w) :: P.zip vs) m x = _
  unfold bindL
  exact qR (i:=i) (List.nodup_cons.mp nd).2 (by simpa using h1) (by simpa using h2) hk
theorem qS {kindOf : Str→Option NameKind} {x : Str} {v : Value} : ∀ {P : List Str} {vs : List Value} {i : Nat} {m : Str→Option Value},P.Nodup→P[i]? = some x→vs[i]? = some v→kindOf x ≠ some .local →
  bindC kindOf (P.zip vs) m x = some v
 | [],_,_,_,_,h,_,_=>by simp at h
 | _ :: _,[],_,_,_,_,h,_=>by simp at h
 | p :: P,w :: vs,0,m,nd,h1,h2,hk=>by
  simp at h1 h2; subst h1; subst h2
  show bindC kindOf ((p,w) :: P.zip vs) m p = _
  unfold bindC
  rw [qQ fun v hv=>(List.nodup_cons.mp nd).1 (List.of_mem_zip hv).1,if_neg hk]
  simp
 | p :: P,w :: vs,i + 1,m,nd,h1,h2,hk=>by
  show bindC kindOf ((p,w) :: P.zip vs) m x = _
  unfold bindC
  exact qS (i:=i) (List.nodup_cons.mp nd).2 (by simpa using h1) (by simpa using h2) hk
def start (N : List Str) (vs : List V) : St:=vs.map some ++ List.replicate (N.length - vs.length) none
def cxOf (CX : CXT) (P : Program) (w : World) (K : PySem.W.Frag) (mg : Str→Option Value) (base : Heap) (N : List Str) (qual : Str) (scope : Scope) (f : Addr) (cd : Value) (A : Around) (outer : List Env) (s : Shared) (H : Hp) (E : XK) : Cx where
 prog:=P
 w:=w
 K:=K
 mg:=mg
 base:=base
 A:=A.deeper (envOfC qual scope s.heap.objs.size f cd)
 N:=N
 s₀:=s
 H₀:=H
 env:=envOfC qual scope s.heap.objs.size f cd
 outer:=outer
 stack:=envOfC qual scope s.heap.objs.size f cd :: outer
 ex:=[]
 calm:=true
 fn:=fun _=>true
 pn:=[]
 xe:=fun e s'=>wpAny (model P w) (A.deeper (envOfC qual scope s.heap.objs.size f cd)) (leaving (envOfC qual scope s.heap.objs.size f cd) e) (fun _ s''=>CX outer H s E e s'') (fun e' s''=>CX outer H s E e' s'') s'
theorem sK {sc : Scope} {n : Nat} {x : Str} (h : sc.names.lookup x = some .cell) : ∃ c,(cellsFrom n sc.names []).lookup x = some c:=by
 have q:=PySem.W.cellsFrom_some sc.names n [] (.inl h)
 exact Option.isSome_iff_exists.mp q
theorem yP {CX : CXT} {P : Program} {w : World} {K : PySem.W.Frag} {mg : Str→Option Value} {base : Heap} {N ps : List Str} {qual : Str} {scope : Scope} {f : Addr} {cd : Value} {A : Around} {outer : List Env} {s s1 : Shared} {H : Hp} {E : XK} {us : List Value} {vs : List V}
  (S : aY N ps scope) (hd : A.handled = none) (e0 : Env0 P w K mg base A outer s H) (hl : vs.length = ps.length) (r : Vals vs us)
  (x : InCallC s s.heap.objs.size (bindL (envOfC qual scope s.heap.objs.size f cd).kindOf (ps.zip us) fun _=>none) (cellsFrom (s.heap.objs.size + 1) scope.names []) (bindC (envOfC qual scope s.heap.objs.size f cd).kindOf (ps.zip us) fun _=>none) s1) :
  Inv (cxOf CX P w K mg base N qual scope f cd A outer s H E) [] (start N vs) H s1:=by
 have hpl : ps.length ≤ N.length:=by have:=congrArg List.length S.pre; rw [List.length_take] at this; omega
 obtain ⟨h1,tk,rfl,hk⟩:=x.done
 have noA : ∀ b : Addr,b ∉ (cxOf CX P w K mg base N qual scope f cd A outer s H E).ex:=fun b z=>absurd (show b∈([] : List Addr) from z) (by simp)
 refine ⟨⟨e0.mod,S.kind,rfl,rfl,Nat.le_refl _,fun y z c h1 h2=>?_,fun y hy=>?_,fun y c _ h=>?_,fun _=>hd,Around.frames_deeper e0.frames,.inr ⟨rfl,rfl⟩,fun b z=>absurd z (noA b),e0.bs,e0.bsz,fun b _ _=>noA b,fun b z=>absurd z (noA b),e0.funs,e0.frf⟩,
  rfl,e0.bare,Un.kept hk,⟨_,x.toInCall.ns,fun i y v h1 h2 h3=>?_⟩,fun y c h=>⟨_,x.cell y c h⟩,e0.hok.fresh (Nat.le_refl _),fun y c h=>?_,fun p hp=>absurd (show p∈([] : List (Addr × Obj)) from hp) (by simp),e0.hok.kept hk,?_⟩
 ·exact name_of_addr x.apart (PySem.mem_of_lookup h1) (PySem.mem_of_lookup h2)
 ·have hy : scope.names.lookup y = some .cell∨scope.names.lookup y = some .free:=hy
  rcases hy with hy | hy
  ·exact sK hy
  ·exact absurd rfl (S.nofree _ (PySem.mem_of_lookup hy))
 ·exact Nat.le_of_lt (x.above y c (PySem.mem_of_lookup h))
 ·have hi : i < vs.length:=by
   unfold start at h2
   by_cases hi : i < vs.length
   ·exact hi
   ·rw [List.getElem?_append_right (by simpa using hi)] at h2
    rw [List.getElem?_replicate] at h2
    split at h2 <;> cases h2
  have ha : vs[i]? = some v:=by
   unfold start at h2
   rw [List.getElem?_append_left (by simpa using hi),List.getElem?_map] at h2
   cases e : vs[i]? with
   | none=>rw [e] at h2; cases h2
   | some a=>rw [e] at h2; cases h2; rfl
  obtain ⟨u,hu,rv⟩:=r.get ha
  have hp : ps[i]? = some y:=by
   rw [← S.pre,List.getElem?_take_of_lt (by omega)]; exact h1
  have ndP : ps.Nodup:=by rw [← S.pre]; exact S.nd.sublist (List.take_sublist _ _)
  refine ⟨u,rv,?_⟩
  rcases S.par y (List.mem_of_getElem? hp) with k | k
  ·exact .inl ⟨k,qR ndP hp hu k⟩
  ·obtain ⟨c,e⟩:=sK (n:=s.heap.objs.size + 1) k
   refine .inr ⟨.inl k,c,e,?_⟩
   have q:=x.cell y c e
   rw [qS ndP hp hu (by show scope.names.lookup y ≠ _; rw [k]; decide)] at q
   exact q
 ·exact e0.hok.fresh (Nat.le_of_lt (x.above y c (PySem.mem_of_lookup h)))
 ·unfold start
  show _ = N.length
  rw [List.length_append,List.length_map,List.length_replicate]
  omega
theorem aBq {CX : CXT} {P : Program} {w : World} {K : PySem.W.Frag} {mg : Str→Option Value} {base : Heap} {k : Nat} {f : Addr} {name qual : Str} {params : Arguments} {body : List Stmt} {scope : Scope} {dV kV doc pm cdv ct oc : Value} {an od : Option Addr}
  {osl : Array (Option Value)} {N ps : List Str} {sp : Sp} (lk : K.lookup f = some ⟨oc,od,.func (PySem.W.fnOf name qual params body scope dV kV doc pm an cdv ct),osl⟩) (hcd : PySem.W.codeIn K cdv qual = true) (S : aY N ps scope)
  (len : ∀ vs H Q E,sp vs H Q E→vs.length = ps.length)
  (hbody : ∀ (A : Around) (outer : List Env) (s : Shared) (H : Hp) (vs : List V) (Q : VK) (E : XK),Room k (A.deeper (envOfC qual scope s.heap.objs.size f cdv))→sp vs H Q E →
   ∃ t,PSs (cxOf CX P w K mg base N qual scope f cdv A outer s H E) body t∧t { nx:=fun _ H'=>Q .non H',rt:=Q } (start N vs) H) :
  FnOk P w K mg base CX (k + 1) f (PySem.W.fnOf name qual params body scope dV kV doc pm an cdv ct) ps sp:=by
 refine ⟨len,fun A outer s H args us vs Q E hr e0 hb r hsp=>?_⟩
 have hl:=len _ _ _ _ hsp
 have KX : K.In s.heap:=e0.mod.kin.keeps fun b o e=>(e0.bs b o e).1
 have lim : s.heap.NoLimit:=e0.mod.nolimit.keeps fun b o e=>(e0.bs b o e).1
 have hkind : ∀ y∈ps.zip us,scope.names.lookup y.1 = some .local∨(scope.names.lookup y.1 = some .cell∧((cellsFrom (s.heap.objs.size + 1) scope.names []).lookup y.1).isSome = true):=fun ⟨n,v⟩ hy=>by
  rcases S.par n (List.of_mem_zip hy).1 with q | q
  ·exact .inl q
  ·exact .inr ⟨q,PySem.W.cellsFrom_some _ _ _ (.inl q)⟩
 refine codeAny_call_function hr.depth (KX _ _ lk) rfl S.co S.gen rfl (PySem.W.codeRec_of KX hcd) (hb _ _ _ _ ?_)
 refine wpAny_newFunctionEnv_cells S.kind hkind fun env he s1 x=>?_
 subst he
 refine ⟨lim.keeps x.toInCall.keep,codeAny_func ?_⟩
 obtain ⟨t,ht,hq⟩:=hbody A outer s H vs Q E (hr.deeper _) hsp
 have I : Inv (cxOf CX P w K mg base N qual scope f cdv A outer s H E) [] (start N vs) H s1:=yP S hr.hd e0 hl r x
 refine wpAny_mono (ht [] s1 (start N vs) H _ I hq) (fun fl s' hs=>?_) fun e s' hs=>hs
 have fin : ∀ {σ' : St} {H' : Hp} {v : V} {u : Value},Inv (cxOf CX P w K mg base N qual scope f cdv A outer s H E) [] σ' H' s'→RelV v u→Q v H'→CE outer P w H s Q u s' :=
  fun {σ' H' v u} J rv q=>⟨v,H',J.os,J.bare,J.base,J.hok,rv,q⟩
 cases fl with
 | ret u =>
  obtain ⟨v,σ',H',J,rv,q⟩:=hs
  exact fin J rv q
 | next =>
  obtain ⟨σ',H',J,q⟩:=hs
  exact fin (v:=V.non) (u:=Value.none) J rfl q
 | brk =>
  obtain ⟨_,_,_,q⟩:=hs
  exact False.elim q
 | cont =>
  obtain ⟨_,_,_,q⟩:=hs
  exact False.elim q
end L2
namespace L2
open PySem PySem.Spec PyProof.Rows
section
variable {X : Cx} {x : Str} {p pos : Pos} {e : Expr} {es : List Expr} {t : TA} {id T : String} {r : List V→Hp→VK→Prop}
def tCB (r : List V→Hp→VK→Prop) (t : TA) : TE:=fun σ H Q=>t σ H fun vs H1=>r vs H1 Q
theorem aQ (hc : cY X (.builtin id) r) (hg : Gl X x) (hm : X.mg x = none) (hv : bootBuiltins x = some (.builtin id)) (ha : PA X (e :: es) t) (hn : x ≠ "__name__" := by decide) (hdb : (x == ("__debug__" : Str)) = false:=by decide)
  (he : starEach (e :: es) X.env = (false,eval e X.env) :: starEach es X.env:=by rfl) (hpl : (backTo pos (starEach es X.env)).any (·.1) = false:=by rfl) : PE X (.Call (.Name x p) (e :: es) [] pos) (tCB r t):=by
 intro pins s σ H Q I h
 refine wpAny_Call_Name_kw (iB I hg hm hv ?_ hn hdb)
 exact PyProof.Rows.callWith_builtin1 (thn (ha pos pins s σ H _ I h) fun us s1 ⟨vs,H1,I1,r1,q1⟩=>hc pins s1 σ H1 vs us Q I1 r1 q1) he hpl
theorem bT (hc : cY X (.type T) r) (hg : Gl X x) (hm : X.mg x = none) (hv : bootBuiltins x = some (.type T)) (ha : PA X (e :: es) t) (hn : x ≠ "__name__" := by decide) (hdb : (x == ("__debug__" : Str)) = false:=by decide)
  (he : starEach (e :: es) X.env = (false,eval e X.env) :: starEach es X.env:=by rfl) (hpl : (backTo pos (starEach es X.env)).any (·.1) = false:=by rfl) : PE X (.Call (.Name x p) (e :: es) [] pos) (tCB r t):=by
 intro pins s σ H Q I h
 refine wpAny_Call_Name_kw (iB I hg hm hv ?_ hn hdb)
 exact PyProof.Rows.callWith_type1 (thn (ha pos pins s σ H _ I h) fun us s1 ⟨vs,H1,I1,r1,q1⟩=>hc pins s1 σ H1 vs us Q I1 r1 q1) he hpl
end
end L2
namespace HT
open PySem PyProof.Rows
section
open PySem.SeqAt
open PySem.AutoSeq1 (wpAny_loadPart')
open PySem.MeetsSeq PySem.MeetsSeq2 PySem.MeetsSeq3
end
section
variable {prog : Program} {w : World} {A : Around} {E : Value→Shared→Prop} {s : Shared}
def sIx (n d : Nat) : Option Int→Nat
 | none=>d
 | some v=>if v < 0 then (v + (n : Int)).toNat else min v.toNat n
end
end HT
namespace L2
open PySem PySem.Spec PyProof.Rows
abbrev TO:=St→Hp→(Option Int→Hp→Prop)→Prop
def PO (X : Cx) (e : Option Expr) (t : TO) : Prop :=
 ∀ (pins : List (Addr × Obj)) (s : Shared) (σ : St) (H : Hp) (Q : Option Int→Hp→Prop),Inv X pins σ H s→t σ H Q →
  wpAny (model X.prog X.w) X.A (evalPart e X.env) (fun u s'=>∃ o H',Inv X pins σ H' s'∧IsPart u o∧Q o H') X.xe s
def aBN : TO:=fun _ H Q=>Q none H
def aDN (t : TE) : TO:=fun σ H Q=>t σ H fun x H1=>∃ i,x = .int i∧Q (some i) H1
section
variable {X : Cx} {e : Expr} {te : TE} {lo hi : Option Expr} {tl th : TO} {pos p2 : Pos}
theorem pP : PO X none aBN:=by
 intro pins s σ H Q I h
 rw [evalPart_none]
 exact wpAny_pure ⟨none,H,I,.none,h⟩
theorem pQ (h : PE X e te) : PO X (some e) (aDN te):=by
 intro pins s σ H Q I hw
 rw [evalPart_some]
 refine thn (h pins s σ H _ I hw) fun u s1 ⟨x,H1,I1,r1,q1⟩=>?_
 obtain ⟨i,rfl,q⟩:=q1
 obtain ⟨t,rfl⟩:=r1
 exact ⟨some i,H1,I1,.int i t,q⟩
def SlR (X : Cx) (r : V→Option Int→Option Int→Hp→VK→Prop) : Prop :=
 ∀ (pins : List (Addr × Obj)) (s : Shared) (σ : St) (H : Hp) (x : V) (v vl vu : Value) (lo hi : Option Int) (sl : Addr) (Q : VK),Inv X pins σ H s→RelV x v→s.heap.IsSliceOf sl vl vu .none→IsPart vl lo→IsPart vu hi→r x lo hi H Q →
  ∃ T id,typeLookup (.type T) "__getitem__" = pure (some (.builtin id))∧s.TypeIs v T∧wpAny (model X.prog X.w) X.A (getItem v (.ref sl)) (EP X pins σ Q) X.xe s
def tSl (r : V→Option Int→Option Int→Hp→VK→Prop) (te : TE) (tl th : TO) : TE:=fun σ H Q=>te σ H fun x H1=>tl σ H1 fun l H2=>th σ H2 fun u H3=>r x l u H3 Q
theorem mZ {r : V→Option Int→Option Int→Hp→VK→Prop} (hr : SlR X r) (he : PE X e te) (hl : PO X lo tl) (hu : PO X hi th) : PE X (.Subscript e (.Slice lo hi none p2) pos) (tSl r te tl th):=by
 intro pins s σ H Q I h
 refine Subscript_ (thn (he pins s σ H _ I h) fun v s1 ⟨x,H1,I1,r1,q1⟩=>?_)
 refine wpAny_Slice (thn (hl pins s1 σ H1 _ I1 q1) fun vl s2 ⟨l,H2,I2,pl,q2⟩=>thn (hu pins s2 σ H2 _ I2 q2) fun vu s3 ⟨u,H3,I3,pu,q3⟩=>?_)
 rw [evalPart_none]
 refine wpAny_pure ?_
 have I4 : Inv X pins σ H3 { s3 with heap:=s3.heap.push { cls:=.type "slice",data:=.fields #[vl,vu,.none] } }:=I3.kept (t':=s3.toks) fun b ob q=>Heap.get?_push_of_some _ q
 obtain ⟨T,id,hT,ht,hg⟩:=hr pins { s3 with heap:=s3.heap.push { cls:=.type "slice",data:=.fields #[vl,vu,.none] } } σ H3 x v vl vu l u s3.heap.objs.size Q I4 r1 (Heap.IsSliceOf.new ..) pl pu q3
 show wpAny (model X.prog X.w) X.A (subscriptTail e (.Slice lo hi none p2) v (.ref s3.heap.objs.size)) (EP X pins σ Q) X.xe { s3 with heap:=s3.heap.push { cls:=.type "slice",data:=.fields #[vl,vu,.none] } }
 exact tail_any (ops:=[.ref s3.heap.objs.size,v]) ht hT hg (by with_unfolding_all rfl)
def cutV (xs : List V) (lo hi : Option Int) : List V:=(xs.drop (HT.sIx xs.length 0 lo)).take (HT.sIx xs.length xs.length hi - HT.sIx xs.length 0 lo)
theorem uP (xs : List V) (lo hi : Option Int) : (cutV xs lo hi).length ≤ xs.length:=by
 unfold cutV
 rw [List.length_take,List.length_drop]
 omega
end
end L2
namespace L2
open PySem PySem.Spec PyProof.Rows
def ixN (n : Nat) (i : Int) : Option Nat:=if 0 ≤ i then (if i < n then some i.toNat else none) else if -(n : Int) ≤ i then some (i + n).toNat else none
def atI {α : Type} (xs : List α) (i : Int) : Option α:=(ixN xs.length i).bind fun j=>xs[j]?
theorem vJ {n : Nat} {i : Int} {j : Nat} (h : ixN n i = some j) : seqIndex? i n = some j∧j < n∧-(n : Int) ≤ i∧i < n:=by
 unfold ixN at h
 by_cases h0 : 0 ≤ i
 ·rw [if_pos h0] at h
  by_cases h1 : i < n
  ·rw [if_pos h1] at h
   have e : i.toNat = j:=Option.some.inj h
   exact ⟨by rw [seqIndex_of h0 h1,e],by omega,by omega,h1⟩
  ·rw [if_neg h1] at h; cases h
 ·rw [if_neg h0] at h
  by_cases h1 : -(n : Int) ≤ i
  ·rw [if_pos h1] at h
   have e : (i + n).toNat = j:=Option.some.inj h
   exact ⟨by rw [seqIndex_neg (by omega) h1,e],by omega,h1,by omega⟩
  ·rw [if_neg h1] at h; cases h
theorem vK {α : Type} {xs : List α} {i : Int} {v : α} (h : atI xs i = some v) : ∃ j,seqIndex? i xs.length = some j∧xs[j]? = some v∧j < xs.length∧-(xs.length : Int) ≤ i∧i < xs.length:=by
 unfold atI at h
 cases e : ixN xs.length i with
 | none=>rw [e] at h; cases h
 | some j =>
  rw [e] at h
  obtain ⟨h1,h2,h3,h4⟩:=vJ e
  exact ⟨j,h1,h,h2,h3,h4⟩
theorem bQ {α : Type} {xs : List α} {j : Nat} {v : α} (h : xs[j]? = some v) : atI xs (j : Int) = some v:=by
 have hj : j < xs.length:=(List.getElem?_eq_some_iff.mp h).1
 have e : ixN xs.length (j : Int) = some j:=by
  unfold ixN
  rw [if_pos (by omega),if_pos (by omega)]; simp
 unfold atI; rw [e]; exact h
theorem gO {α : Type} (xs : List α) (v : α) : atI (xs ++ [v]) (-1) = some v:=by
 have hl : (xs ++ [v]).length = xs.length + 1:=by simp
 have e : ixN (xs ++ [v]).length (-1) = some xs.length:=by
  unfold ixN
  rw [hl,if_neg (by decide),if_pos (by omega)]
  congr 1
  omega
 unfold atI
 rw [e]
 show (xs ++ [v])[xs.length]? = some v
 simp
def pR (b : Expr) : Prop:=∀ o i,subscripted b false o i = operate [o,i] (getItem o i)
def IxR (X : Cx) (r : R2) : Prop :=
 ∀ (value slice : Expr) (pins : List (Addr × Obj)) (s : Shared) (σ : St) (H : Hp) (x y : V) (v u : Value) (Q : VK),Inv X pins σ H s→RelV x v→RelV y u→r x y H Q →
  subscripted slice false v u = operate [v,u] (getItem v u)→wpAny (model X.prog X.w) X.A (subscriptTail value slice v u) (EP X pins σ Q) X.xe s
def MtR (X : Cx) (id : String) (r : V→List V→Hp→VK→Prop) : Prop :=
 ∀ (pins : List (Addr × Obj)) (s : Shared) (σ : St) (H : Hp) (x : V) (xs : List V) (v : Value) (us : List Value) (Q : VK),Inv X pins σ H s→RelV x v→Vals xs us→r x xs H Q →
  wpAny (model X.prog X.w) X.A (call (.builtin id) (v :: us)) (EP X pins σ Q) X.xe s
section
variable {X : Cx} {a b : Expr} {ta tb : TE} {pos : Pos}
theorem aO {r : R2} (hr : IxR X r) (ha : PE X a ta) (hb : PE X b tb) (hs : pR b) : PE X (.Subscript a b pos) (tOp r ta tb):=by
 intro pins s σ H Q I h
 exact Subscript_ (binT ha hb I h fun v u s2 x y H2 I2 rx ry q=>hr a b pins s2 σ H2 x y v u Q I2 rx ry q (hs _ _))
def rIxL (K : PySem.W.Frag) : R2:=fun x y H Q=>∃ p xs i v,x = .ref p∧y = .int i∧SqL K H p xs∧atI xs i = some v∧Q v H
def rIxT (K : PySem.W.Frag) : R2:=fun x y H Q=>∃ p xs i v,x = .ref p∧y = .int i∧SqT K H p xs∧atI xs i = some v∧Q v H
theorem aR : IxR X (rIxL X.K):=by
 intro value slice pins s σ H x y v u Q I rx ry h hs
 obtain ⟨p,xs,i,z,rfl,rfl,hq,he,q⟩:=h
 cases rx
 obtain ⟨t,rfl⟩:=ry
 obtain ⟨its,r,pl,hz⟩:=I.list hq
 obtain ⟨j,h1,h2,h3,h4,h5⟩:=vK he
 obtain ⟨w,ew,rw'⟩:=r.get h2
 have hl:=r.length
 have hn:=nW
 have fin : EP X pins σ Q w s:=⟨z,H,I,rw',q⟩
 by_cases h0 : 0 ≤ i
 ·have hj : i.toNat = j:=by
   rw [seqIndex_of h0 h5] at h1
   exact Option.some.inj h1
  exact item_listR pl.isList h0 (by omega) (by rw [hj]; simpa using ew) fin hs
 ·have hj : (i + (its.toArray.size : Int)).toNat = j:=by
   rw [seqIndex_neg (by omega) h4] at h1
   rw [List.size_toArray,← hl]
   exact Option.some.inj h1
  exact subscriptTail_builtinR (x:=w) pl.isList.typeIs slot_list_getitem.lookup
   (wpAny_getItem_list_neg (Q:=fun r s'=>r = w∧EP X pins σ Q r s') pl.isList (by omega) (by rw [List.size_toArray] <;> omega) (by omega) (by rw [hj]; simpa using ew) ⟨rfl,fin⟩) hs
theorem bP : IxR X (rIxT X.K):=by
 intro value slice pins s σ H x y v u Q I rx ry h hs
 obtain ⟨p,xs,i,z,rfl,rfl,hq,he,q⟩:=h
 cases rx
 obtain ⟨t,rfl⟩:=ry
 obtain ⟨its,r,pl,hz⟩:=I.tuple hq
 obtain ⟨j,h1,h2,h3,h4,h5⟩:=vK he
 obtain ⟨w,ew,rw'⟩:=r.get h2
 have hl:=r.length
 have hn:=nW
 have fin : EP X pins σ Q w s:=⟨z,H,I,rw',q⟩
 exact subscriptTail_builtinR (x:=w) pl.typeIs slot_tuple_getitem.lookup
  (getItem_tuple (j:=j) (Q:=fun r s'=>r = w∧EP X pins σ Q r s') pl (by omega) (by omega) (by rw [List.size_toArray,← hl]; exact h1) (by simpa using ew) ⟨rfl,fin⟩) hs
theorem wP (its : List Value) (n j : Nat) (u : Value) : Obj.mapSeq (·.setIfInBounds j u) { cls:=.type "list",data:=.seq its.toArray n } = { cls:=.type "list",data:=.seq (its.set j u).toArray n }:=by
 simp [Obj.mapSeq]
theorem Inv.lst {pins : List (Addr × Obj)} {σ : St} {H : Hp} {s : Shared} {p : Addr} {xs : List V} (I : Inv X pins σ H s) (h : H p = some (.lst xs)) :
  ∃ (its : List Value) (n : Nat),Vals xs its∧s.heap.get? p = some { cls:=.type "list",data:=.seq its.toArray n }∧xs.length ≤ sizeLine:=by
 obtain ⟨z,its,n,r,e⟩:=I.hok p _ h
 exact ⟨its,n,r,e,z⟩
theorem Inv.lstUpd {pins : List (Addr × Obj)} {σ : St} {H : Hp} {s : Shared} {p : Addr} {xs ys : List V} {its its' : List Value} {n n' : Nat} {f : Obj→Obj} (I : Inv X pins σ H s) (h : H p = some (.lst xs))
  (ho : s.heap.get? p = some { cls:=.type "list",data:=.seq its.toArray n }) (hf : f { cls:=.type "list",data:=.seq its.toArray n } = { cls:=.type "list",data:=.seq its'.toArray n' }) (r : Vals ys its') (hz : ys.length ≤ sizeLine) (t : Nat) :
  Inv X pins σ (upd H p (.lst ys)) { s with heap:=s.heap.update p f,toks:=t }:=by
 have e : (s.heap.update p f).get? p = some { cls:=.type "list",data:=.seq its'.toArray n' }:=by
  rw [Heap.get?_update_self f ho (by rw [hf] <;> rfl),hf]
 refine I.write (x:=p) (e:=p) (by rw [h]; trivial) (.inl rfl) (fun b u hb q=>(Heap.get?_update_other _ _ (Ne.symm hb)).trans q) ⟨_,e⟩ ?_
 exact ⟨hz,its',n',r,e⟩
def aDO : V→V→V→Hp→(Hp→Prop)→Prop:=fun o i v H Q=>∃ p xs k j,o = .ref p∧i = .int k∧H p = some (.lst xs)∧ixN xs.length k = some j∧Q (upd H p (.lst (xs.set j v)))
theorem fQ : PSet X aDO:=by
 intro pins s σ H o i v ov iv u Q I ro ri rv h
 obtain ⟨p,xs,k,j,rfl,rfl,hp,hj,q⟩:=h
 cases ro
 obtain ⟨t,rfl⟩:=ri
 obtain ⟨its,n,r,ho,hz⟩:=I.lst hp
 obtain ⟨h1,h2,h3,h4⟩:=vJ hj
 have hl:=r.length
 have hn:=nW
 have I' : Inv X pins σ (upd H p (.lst (xs.set j v))) { s with heap:=s.heap.update p (Obj.mapSeq (·.setIfInBounds j u)) } :=
  I.lstUpd hp ho (wP its n j u) (r.set rv j) (by rw [List.length_set]; exact hz) s.toks
 by_cases h0 : 0 ≤ k
 ·have hk : k.toNat = j:=by
   rw [seqIndex_of h0 h4] at h1
   exact Option.some.inj h1
  exact PySem.W.ki_setAt ho h0 (by omega) (by rw [List.size_toArray,← hl]; exact h4) (by rw [hk]; exact ⟨_,I',q⟩)
 ·have hk : (k + (its.toArray.size : Int)).toNat = j:=by
   rw [seqIndex_neg (by omega) h3] at h1
   rw [List.size_toArray,← hl]
   exact Option.some.inj h1
  exact PySem.W.ki_setBack ho (by omega) (by rw [List.size_toArray,← hl]; exact h3) (by omega) (by rw [hk]; exact ⟨_,I',q⟩)
theorem sL (lo hi : Option Int) (n : Nat) : (sliceBounds lo hi none n).1 = ((HT.sIx n 0 lo : Nat) : Int)∧(sliceBounds lo hi none n).2.1 = ((HT.sIx n n hi : Nat) : Int)∧(sliceBounds lo hi none n).2.2 = 1:=by
 refine ⟨?_,?_,rfl⟩
 ·cases lo with
  | none=>simp [sliceBounds,HT.sIx]
  | some i =>
   simp only [sliceBounds,HT.sIx,Option.getD_none,show (1 : Int) > 0 by decide,if_true]
   by_cases h : i < 0
   ·simp only [h,if_true] <;> omega
   ·simp only [h,if_false] <;> omega
 ·cases hi with
  | none=>simp [sliceBounds,HT.sIx]
  | some i =>
   simp only [sliceBounds,HT.sIx,Option.getD_none,show (1 : Int) > 0 by decide,if_true]
   by_cases h : i < 0
   ·simp only [h,if_true] <;> omega
   ·simp only [h,if_false] <;> omega
theorem rO (its : List Value) (lo hi : Option Int) : slicePick its.toArray lo hi none = ((its.drop (HT.sIx its.length 0 lo)).take (HT.sIx its.length its.length hi - HT.sIx its.length 0 lo)).toArray:=by
 obtain ⟨h1,h2,h3⟩:=sL lo hi its.toArray.size
 unfold slicePick
 rw [h1,h2,h3]
 simp only [sliceRange_one,pick_run,List.size_toArray] <;> rfl
def rSlL (K : PySem.W.Frag) : V→Option Int→Option Int→Hp→VK→Prop:=fun x lo hi H Q=>∃ a xs,x = .ref a∧SqL K H a xs∧∀ p,H p = none→Q (.ref p) (upd H p (.lst (cutV xs lo hi)))
theorem pS : SlR X (rSlL X.K):=by
 intro pins s σ H x v vl vu lo hi sl Q I rx hs pl pu h
 obtain ⟨a,xs,rfl,hx,q⟩:=h
 cases rx
 obtain ⟨its,r,ht,hz⟩:=I.list hx
 have hlen:=r.length
 refine ⟨"list",_,slot_list_getitem.lookup,ht.isList.typeIs,?_⟩
 refine wpAny_getItem_list_slice ht.isList hs pl pu .none (by simp) ?_ (by rw [List.size_toArray] <;> omega)
 rw [rO,← hlen]
 refine ⟨.ref s.heap.objs.size,_,I.laid (t':=s.toks) (o:=.lst (cutV xs lo hi)) (fun b ob q=>Heap.get?_push_of_some _ q) (Nat.le_refl _) ?_,rfl,q _ (I.hok.fresh (Nat.le_refl _))⟩
 exact ⟨Nat.le_trans (uP xs lo hi) hz,_,0,(r.drop (HT.sIx xs.length 0 lo)).take (HT.sIx xs.length xs.length hi - HT.sIx xs.length 0 lo),Heap.get?_push_size _ rfl⟩
def dN : V→Bool
 | .non=>true
 | .bl _=>true
 | .int _=>true
 | .str _=>true
 | _=>false
def eqV : V→V→Bool
 | .non,.non=>true
 | .bl a,.bl b=>a == b
 | .bl a,.int b=>(if a then 1 else 0) == b
 | .int a,.bl b=>a == (if b then 1 else 0)
 | .int a,.int b=>a == b
 | .str a,.str b=>a == b
 | _,_=>false
theorem aCW {A : Around} {s : Shared} {y x : V} {u v : Value} (ry : RelV y u) (rx : RelV x v) (fy : dN y = true) (fx : dN x = true) : SeqAt.EqAt A s u v (eqV y x):=by
 cases y with
 | non =>
  cases ry
  cases x with
  | non=>cases rx; exact SeqAt.EqAt.same _
  | bl b=>cases rx; exact SeqAt.EqAt.none_bool b
  | int b=>obtain ⟨t,rfl⟩:=rx; exact SeqAt.EqAt.none_int b t
  | str b=>obtain ⟨t,rfl⟩:=rx; exact SeqAt.EqAt.none_str b t
  | _=>exact absurd (show false = true from fx) Bool.false_ne_true
 | bl a =>
  cases ry
  cases x with
  | non=>cases rx; exact SeqAt.EqAt.bool_none a
  | bl b=>cases rx; exact SeqAt.EqAt.bool_bool a b
  | int b=>obtain ⟨t,rfl⟩:=rx; exact SeqAt.EqAt.bool_int a b t
  | str b=>obtain ⟨t,rfl⟩:=rx; exact SeqAt.EqAt.bool_str a b t
  | _=>exact absurd (show false = true from fx) Bool.false_ne_true
 | int a =>
  obtain ⟨t',rfl⟩:=ry
  cases x with
  | non=>cases rx; exact SeqAt.EqAt.int_none a t'
  | bl b=>cases rx; exact SeqAt.EqAt.int_bool a t' b
  | int b=>obtain ⟨t,rfl⟩:=rx; exact SeqAt.EqAt.int_int a t' b t
  | str b=>obtain ⟨t,rfl⟩:=rx; exact SeqAt.EqAt.int_str a t' b t
  | _=>exact absurd (show false = true from fx) Bool.false_ne_true
 | str a =>
  obtain ⟨t',rfl⟩:=ry
  cases x with
  | non=>cases rx; exact SeqAt.EqAt.str_none a t'
  | bl b=>cases rx; exact SeqAt.EqAt.str_bool a t' b
  | int b=>obtain ⟨t,rfl⟩:=rx; exact SeqAt.EqAt.str_int a t' b t
  | str b=>obtain ⟨t,rfl⟩:=rx; exact SeqAt.EqAt.str_str a t' b t
  | _=>exact absurd (show false = true from fx) Bool.false_ne_true
 | _=>exact absurd (show false = true from fy) Bool.false_ne_true
def eqU (x : V) (u : Value) : Bool:=match u with
 | .none=>eqV .non x
 | .bool b=>eqV (.bl b) x
 | .int i _=>eqV (.int i) x
 | .str z _=>eqV (.str z) x
 | _=>false
theorem yQ {x y : V} {u : Value} (r : RelV y u) (f : dN y = true) : eqU x u = eqV y x:=by
 cases y with
 | non=>cases r; rfl
 | bl b=>cases r; rfl
 | int i=>obtain ⟨t,rfl⟩:=r; rfl
 | str z=>obtain ⟨t,rfl⟩:=r; rfl
 | _=>exact absurd (show false = true from f) Bool.false_ne_true
theorem iS {x : V} : ∀ {xs : List V} {us : List Value},Vals xs us→xs.all dN = true→us.any (eqU x) = xs.any fun y=>eqV y x
 | _,_,.nil,_=>rfl
 | y :: xs,u :: us,.cons r t,f=>by
  rw [List.all_cons,Bool.and_eq_true] at f
  rw [List.any_cons,List.any_cons,yQ r f.1,iS t f.2]
theorem gP {A : Around} {s : Shared} {x : V} {v : Value} (rx : RelV x v) (fx : dN x = true) : ∀ {xs : List V} {us : List Value},Vals xs us→xs.all dN = true→∀ u∈us,SeqAt.EqAt A s u v (eqU x u)
 | _,_,.nil,_=>fun u hu=>by cases hu
 | y :: xs,u :: us,.cons r t,f=>fun u' hu=>by
  rw [List.all_cons,Bool.and_eq_true] at f
  rcases List.mem_cons.mp hu with rfl | hu
  ·rw [yQ r f.1]; exact aCW r rx f.1 fx
  ·exact gP rx fx t f.2 u' hu
def inV (x : V) (xs : List V) : Bool:=xs.any fun y=>eqV y x
def rIn (K : PySem.W.Frag) (neg : Bool) : R2:=fun x y H Q=>∃ p xs,y = .ref p∧(SqL K H p xs∨SqT K H p xs)∧dN x = true∧xs.all dN = true∧Q (.bl (if neg then !inV x xs else inV x xs)) H
theorem lG : OpR X (compareOp .In) (rIn X.K false):=by
 intro pins s σ H x y v u Q I rx ry h
 obtain ⟨p,xs,rfl,hq,fx,fs,q⟩:=h
 cases ry
 rcases hq with hq | hq
 ·obtain ⟨its,r,pl,hz⟩:=I.list hq
  refine SeqAt.in_listAt (eqU x) pl.isList (fun w hw=>gP rx fx r fs w (by simpa using hw)) ⟨.bl _,H,I,rfl,?_⟩
  rw [show its.toArray.any (eqU x) = its.any (eqU x) by simp,iS r fs]
  exact q
 ·obtain ⟨its,r,pl,hz⟩:=I.tuple hq
  refine SeqAt.in_tupleAt (eqU x) pl (fun w hw=>gP rx fx r fs w (by simpa using hw)) ⟨.bl _,H,I,rfl,?_⟩
  rw [show its.toArray.any (eqU x) = its.any (eqU x) by simp,iS r fs]
  exact q
theorem sO : OpR X (compareOp .NotIn) (rIn X.K true):=by
 intro pins s σ H x y v u Q I rx ry h
 obtain ⟨p,xs,rfl,hq,fx,fs,q⟩:=h
 cases ry
 rcases hq with hq | hq
 ·obtain ⟨its,r,pl,hz⟩:=I.list hq
  refine SeqAt.notIn_listAt (eqU x) pl.isList (fun w hw=>gP rx fx r fs w (by simpa using hw)) ⟨.bl _,H,I,rfl,?_⟩
  rw [show its.toArray.any (eqU x) = its.any (eqU x) by simp,iS r fs]
  exact q
 ·obtain ⟨its,r,pl,hz⟩:=I.tuple hq
  refine SeqAt.notIn_tupleAt (eqU x) pl (fun w hw=>gP rx fx r fs w (by simpa using hw)) ⟨.bl _,H,I,rfl,?_⟩
  rw [show its.toArray.any (eqU x) = its.any (eqU x) by simp,iS r fs]
  exact q
theorem aT : cY X (.builtin "len") (fun xs H Q=>∃ p ys,xs = [.ref p]∧(SqL X.K H p ys∨SqT X.K H p ys)∧Q (.int ys.length) H):=by
 intro pins s σ H xs us Q I r h
 obtain ⟨p,ys,rfl,hq,q⟩:=h
 obtain ⟨u,rfl,rx⟩:=jQ r
 cases rx
 have hn:=nW
 rcases hq with hq | hq
 ·obtain ⟨its,r',pl,hz⟩:=I.list hq
  have hlen:=r'.length
  exact Calls.call_len_list pl.isList (by simp only [List.size_toArray] <;> omega) ⟨.int ys.length,H,I.tok _,⟨s.toks + 1,by rw [List.size_toArray,hlen]⟩,q⟩
 ·obtain ⟨its,r',pl,hz⟩:=I.tuple hq
  have hlen:=r'.length
  exact len_tuple pl (by simp only [List.size_toArray] <;> omega) ⟨.int ys.length,H,I.tok _,⟨s.toks + 1,by rw [List.size_toArray,hlen]⟩,q⟩
theorem lH : cY X (.type "list") (fun xs H Q=>∃ p ys,xs = [.ref p]∧(SqL X.K H p ys∨SqT X.K H p ys)∧∀ l,H l = none→Q (.ref l) (upd H l (.lst ys))):=by
 intro pins s σ H xs us Q I r h
 obtain ⟨p,ys,rfl,hq,q⟩:=h
 obtain ⟨u,rfl,rx⟩:=jQ r
 cases rx
 have fin : ∀ (its : List Value),Vals ys its→ys.length ≤ sizeLine→∀ (h' : Heap) (c' : Nat),(∀ b o',s.heap.get? b = some o'→h'.get? b = some o') →
   h'.get? s.heap.objs.size = some { cls:=.type "list",dict:=none,data:=.seq its.toArray c',slots:=#[] }→EP X pins σ Q (.ref s.heap.objs.size) { s with heap:=h' }:=fun its r' hz h' c' kp e =>
  ⟨.ref s.heap.objs.size,_,I.laid (t':=s.toks) kp (Nat.le_refl _) (show bH X.prog X.w _ h' _ (.lst ys) from ⟨hz,its,c',r',e⟩),rfl,q _ (I.hok.fresh (Nat.le_refl _))⟩
 rcases hq with hq | hq
 ·obtain ⟨its,r',pl,hz⟩:=I.list hq
  have hlen:=r'.length
  obtain ⟨o,ho,hc,n,hd⟩:=pl.isList
  exact call_list_seq p (.inl rfl) ho hc hd (fun h' c' kp e=>fin its r' hz h' c' kp e) (by simp only [List.size_toArray] <;> omega)
 ·obtain ⟨its,r',pl,hz⟩:=I.tuple hq
  have hlen:=r'.length
  obtain ⟨o,ho,hc,n,hd⟩:=pl
  exact call_list_seq p (.inr rfl) ho hc hd (fun h' c' kp e=>fin its r' hz h' c' kp e) (by simp only [List.size_toArray] <;> omega)
theorem eK : cY X (.type "tuple") (fun xs H Q=>∃ p ys,xs = [.ref p]∧((SqL X.K H p ys∧∀ l,H l = none→Q (.ref l) (upd H l (.tup ys)))∨(SqT X.K H p ys∧Q (.ref p) H))):=by
 intro pins s σ H xs us Q I r h
 obtain ⟨p,ys,rfl,h⟩:=h
 obtain ⟨u,rfl,rx⟩:=jQ r
 cases rx
 rcases h with ⟨hq,q⟩ | ⟨hq,q⟩
 ·obtain ⟨its,r',pl,hz⟩:=I.list hq
  have hlen:=r'.length
  refine call_tuple_list pl.isList (fun h' kp=>?_) (by simp only [List.size_toArray] <;> omega)
  have I1 : Inv X pins σ H { s with heap:=h' }:=I.kept (t':=s.toks) kp
  have I2 : Inv X pins σ (upd H h'.objs.size (.tup ys)) { s with heap:=h'.push { cls:=.type "tuple",data:=.seq its.toArray } } :=
   I1.laid (t':=s.toks) (fun b o e=>Heap.get?_push_of_some _ e) (Nat.le_refl _) (show bH X.prog X.w _ _ _ (.tup ys) from ⟨hz,its,r',IsTup.new _ _⟩)
  exact ⟨.ref h'.objs.size,_,I2,rfl,q _ (I1.hok.fresh (Nat.le_refl _))⟩
 ·obtain ⟨its,r',pl,hz⟩:=I.tuple hq
  exact call_tuple_same pl ⟨.ref p,H,I,rfl,q⟩
def tyV (K : PySem.W.Frag) (T : String) (x : V) (H : Hp) : Prop:=match x with
 | .str _=>T = "str"
 | .int _=>T = "int"
 | .ref p=>(T = "list" ∧ ∃ xs,SqL K H p xs)∨(T = "tuple" ∧ ∃ o,K.lookup p = some o∧o.cls = .type "tuple" ∧ o.dict = none) ∨
   (T = "dict" ∧ ((∃ kvs,H p = some (.dK kvs))∨∃ kvs,H p = some (.dT kvs)))∨(T = "set" ∧ ∃ S n,H p = some (.set S n))
 | _=>False
theorem aCX {pins : List (Addr × Obj)} {σ : St} {H : Hp} {s : Shared} {T : String} {x : V} {v : Value} (I : Inv X pins σ H s) (r : RelV x v) (ty : tyV X.K T x H) :
  s.TypeIs v T∧∀ a,v = .ref a→∃ ob,s.heap.get? a = some ob∧ob.dict = none:=by
 cases x with
 | str z =>
  obtain ⟨t,rfl⟩:=r
  cases (show T = "str" from ty)
  exact ⟨typeIs_str s z t,fun _ e=>nomatch e⟩
 | int i =>
  obtain ⟨t,rfl⟩:=r
  cases (show T = "int" from ty)
  exact ⟨typeIs_int s i t,fun _ e=>nomatch e⟩
 | ref p =>
  cases r
  rcases ty with ⟨rfl,xs,hq⟩ | ⟨rfl,o,hk,hc,hd⟩ | ⟨rfl,hk⟩ | ⟨rfl,S,n,hk⟩
  ·obtain ⟨its,_,pl,_⟩:=I.list hq
   refine ⟨pl.isList.typeIs,fun a e=>?_⟩
   cases e
   obtain ⟨o,n,e,c,hd,_⟩:=pl
   exact ⟨o,e,hd⟩
  ·refine ⟨⟨o,I.kIn p o hk,hc⟩,fun a e=>?_⟩
   cases e
   exact ⟨o,I.kIn _ o hk,hd⟩
  ·have z : ∃ o,s.heap.get? p = some o∧o.ExactDict:=by
    rcases hk with ⟨kvs,hk⟩ | ⟨kvs,hk⟩
    ·obtain ⟨_,_,_,_,o,_,_,e,ex,_⟩:=I.hok p _ hk
     exact ⟨o,e,ex⟩
    ·obtain ⟨_,_,_,_,o,_,_,e,ex,_⟩:=I.hok p _ hk
     exact ⟨o,e,ex⟩
   obtain ⟨o,e,ex⟩:=z
   refine ⟨⟨o,e,ex.1⟩,fun a e2=>?_⟩
   cases e2
   exact ⟨o,e,ex.2.1⟩
  ·obtain ⟨o,_,_,_,e,ex,_⟩:=I.hok p _ hk
   refine ⟨⟨o,e,ex.1⟩,fun a e2=>?_⟩
   cases e2
   exact ⟨o,e,ex.2.1⟩
 | _=>exact False.elim ty
def tBM (K : PySem.W.Frag) (T : String) (r : V→List V→Hp→VK→Prop) (to : TE) (t : TA) : TE:=fun σ H Q=>to σ H fun x H1=>tyV K T x H1∧t σ H1 fun xs H2=>r x xs H2 Q
variable {o e : Expr} {es : List Expr} {to : TE} {t : TA} {name : Str} {apos cpos : Pos} {T id : String} {r : V→List V→Hp→VK→Prop}
theorem eA (pa : PlainAttrs T) (slot : Slot T name id) (hty : typeOf (.builtin id) = pure (.type "method_descriptor")) (hm : MtR X id r) (ho : PE X o to) (ha : PA X (e :: es) t)
  (hbase : attributeBase o name X.env (eval o X.env) = eval o X.env:=by rfl)
  (hfew : ((backTo cpos (starEach (e :: es) X.env)).all (fun x=>!x.1) && (backToKw cpos (keywordEach [] X.env)).all (fun x=>x.1.isSome)
   && decide ((e :: es).length + ([] : List Keyword).length + (if ([] : List Keyword).isEmpty then 0 else 1) < 30)) = true:=by rfl)
  (hline : (apos.endLine == cpos.line) = true:=by rfl) (hs : starEach (e :: es) X.env = (false,eval e X.env) :: starEach es X.env:=by rfl) (hplain : (backTo cpos (starEach es X.env)).any (·.1) = false:=by rfl) :
  PE X (.Call (.Attribute o name apos) (e :: es) [] cpos) (tBM X.K T r to t):=by
 intro pins s σ H Q I h
 refine wpAny_Call_method_late hbase hfew hline rfl (thn (ho pins s σ H _ I h) fun v s1 ⟨x,H1,I1,r1,ty,q1⟩=>?_)
 obtain ⟨h1,h2⟩:=aCX I1 r1 ty
 refine ⟨T,id,pa,slot,hty,h1,h2,?_⟩
 have hA:=ha cpos pins s1 σ H1 _ I1 q1
 rw [hs] at hA ⊢
 refine Calls.callWith_builtin (by show (false || (backTo cpos (starEach es X.env)).any (·.1)) = false; rw [hplain] <;> rfl) (Calls.evalArgs_plain ?_)
 exact thn hA fun us s2 ⟨vs,H2,I2,r2,q2⟩=>hm pins s2 σ H2 x vs v us Q I2 r1 r2 q2
end
end L2
namespace L2
open PySem PySem.Spec PyProof.Rows
def MtM (X : Cx) (id : String) (r : V→List V→Hp→VK→Prop) : Prop :=
 ∀ (pins : List (Addr × Obj)) (s : Shared) (σ : St) (H : Hp) (x : V) (xs : List V) (v : Value) (us : List Value) (Q : VK),Inv X pins σ H s→RelV x v→Vals xs us→r x xs H Q →
  wpAny (model X.prog X.w) X.A (call (.builtin id) (v :: us)) (EP X pins σ Q) X.xe s
theorem Vals.one : ∀ {x : V} {us : List Value},Vals [x] us→∃ u,us = [u]∧RelV x u
 | _,_,.cons r .nil=>⟨_,rfl,r⟩
theorem Vals.two : ∀ {x y : V} {us : List Value},Vals [x,y] us→∃ u v,us = [u,v]∧RelV x u∧RelV y v
 | _,_,_,.cons r (.cons q .nil)=>⟨_,_,rfl,r,q⟩
theorem Vals.eraseIdx : ∀ {xs : List V} {us : List Value} (i : Nat),Vals xs us→Vals (xs.eraseIdx i) (us.eraseIdx i)
 | _,_,_,.nil=>.nil
 | _,_,0,.cons _ t=>t
 | _,_,i + 1,.cons r t=>.cons r (Vals.eraseIdx i t)
theorem Vals.rep {xs : List V} {us : List Value} (h : Vals xs us) : ∀ k : Nat,Vals (List.replicate k xs).flatten (List.replicate k us).flatten
 | 0=>.nil
 | k + 1=>by
  rw [List.replicate_succ,List.replicate_succ,List.flatten_cons,List.flatten_cons]
  exact Vals.append h (Vals.rep h k)
theorem qT (its : List Value) : ∀ (k : Nat) (acc : List Value),
  List.foldl (fun x1 x2=>x1 ++ x2) acc.toArray (List.replicate k its.toArray) = (acc ++ (List.replicate k its).flatten).toArray
 | 0,acc=>by simp
 | k + 1,acc=>by
  have e : acc.toArray ++ its.toArray = (acc ++ its).toArray:=by simp
  have e2 : (acc ++ its) ++ (List.replicate k its).flatten = acc ++ (List.replicate (k + 1) its).flatten:=by
   rw [List.replicate_succ,List.flatten_cons,List.append_assoc]
  rw [← e2,← qT its k (acc ++ its),← e,List.replicate_succ,List.foldl_cons]
section
variable {X : Cx} {pins : List (Addr × Obj)} {σ : St} {H : Hp} {s : Shared} {l b : Addr} {xs ys zs : List V}
theorem Inv.lset {its its' : List Value} {n : Nat} {f : Array Value→Array Value} {t' : Nat} (I : Inv X pins σ H s) (hH : H l = some (.lst xs))
  (e : s.heap.get? l = some { cls:=.type "list",data:=.seq its.toArray n }) (hf : f its.toArray = its'.toArray) (hv : Vals ys its') (hz : ys.length ≤ sizeLine) :
  Inv X pins σ (upd H l (.lst ys)) { s with heap:=s.heap.update l (Obj.mapSeq f),toks:=t' }:=by
 have q:=PySem.IsL.update e f
 rw [hf] at q
 refine I.write (x:=l) (e:=l) (by rw [hH]; exact trivial) (.inl rfl) (fun b' u hb hu=>(Heap.get?_update_other s.heap (Obj.mapSeq f) (Ne.symm hb)).trans hu) ⟨_,q⟩ ?_
 exact ⟨hz,its',_,hv,q⟩
theorem Inv.lnew {its : List Value} {t' : Nat} (I : Inv X pins σ H s) (hv : Vals ys its) (hz : ys.length ≤ sizeLine) :
  Inv X pins σ (upd H s.heap.objs.size (.lst ys)) { s with heap:=s.heap.push { cls:=.type "list",data:=.seq its.toArray },toks:=t' } :=
 I.laid (fun _ _ q=>Heap.get?_push_of_some _ q) (Nat.le_refl _) ⟨hz,its,0,hv,Heap.get?_push_size _ rfl⟩
theorem Inv.fresh (I : Inv X pins σ H s) : H s.heap.objs.size = none:=I.hok.fresh (Nat.le_refl _)
theorem Inv.lstM (I : Inv X pins σ H s) (hH : H l = some (.lst xs)) : xs.length ≤ sizeLine∧∃ (its : List Value) (n : Nat),Vals xs its∧xs.length = its.length∧s.heap.get? l = some { cls:=.type "list",data:=.seq its.toArray n }:=by
 obtain ⟨z,its,n,r,e⟩:=I.hok l _ hH
 exact ⟨z,its,n,r,r.length,e⟩
theorem sP {n : Nat} (h : n ≤ sizeLine) : Builtin.List.listTooLong n = false:=by
 unfold Builtin.List.listTooLong
 exact decide_eq_false (by omega)
end
section
variable {X : Cx}
def aBO : V→List V→Hp→VK→Prop:=fun x vs H Q=>∃ l xs y,x = .ref l∧vs = [y]∧H l = some (.lst xs)∧xs.length < sizeLine∧Q .non (upd H l (.lst (xs ++ [y])))
theorem dD : MtM X "list.append" aBO:=by
 intro pins s σ H x vs v us Q I rx rv h
 obtain ⟨l,xs,y,rfl,rfl,hH,hz,q⟩:=h
 cases rx
 obtain ⟨u,rfl,ru⟩:=rv.one
 obtain ⟨z,its,n,r,hl,e⟩:=I.lstM hH
 refine call_meets F.slot_list_append ⟨_,e,rfl⟩ F.entry_list_append (F.args_list_append_2 _ _) (PySem.list_append l its.toArray n u (by rw [List.size_toArray]; omega)) ⟨e,?_⟩
 refine ⟨.non,_,I.lset (its':=its ++ [u]) hH e (by simp) (r.append (.cons ru .nil)) ?_,rfl,q⟩
 rw [List.length_append,List.length_singleton]
 omega
def aBP : V→List V→Hp→VK→Prop:=fun x vs H Q=>∃ l b xs zs,x = .ref l∧vs = [.ref b]∧H l = some (.lst xs)∧H b = some (.lst zs)∧xs.length + zs.length ≤ sizeLine∧Q .non (upd H l (.lst (xs ++ zs)))
theorem qU : MtM X "list.extend" aBP:=by
 intro pins s σ H x vs v us Q I rx rv h
 obtain ⟨l,b,xs,zs,rfl,rfl,hH,hB,hz,q⟩:=h
 cases rx
 obtain ⟨u,rfl,ru⟩:=rv.one
 cases ru
 obtain ⟨z,its,n,r,hl,e⟩:=I.lstM hH
 obtain ⟨z2,its2,n2,r2,hl2,e2⟩:=I.lstM hB
 have hsz : its.toArray.size + its2.toArray.size ≤ sizeLine:=by rw [List.size_toArray,List.size_toArray]; omega
 have hlong : ¬ (!its.toArray.isEmpty && Builtin.List.listTooLong (its.toArray.size + its2.toArray.size)) = true:=by
  rw [sP hsz,Bool.and_false]
  exact Bool.false_ne_true
 refine call_meets F.slot_list_extend ⟨_,e,rfl⟩ F.entry_list_extend (F.args_list_extend_2 _ _)
  (AutoSeq1.list_extend_list_list_0 l its.toArray n b its2.toArray n2 hlong (by rw [List.size_toArray]; omega) (by omega)) ⟨e,e2,?_⟩
 refine ⟨.non,_,I.lset (its':=its ++ its2) hH e (by simp) (r.append r2) ?_,rfl,q⟩
 rw [List.length_append]
 omega
def rRep : R2:=fun x y H Q=>∃ l k xs,x = .ref l∧y = .int k∧H l = some (.lst xs)∧-(2 ^ 63) ≤ k∧k < 2 ^ 63∧xs.length * k.toNat ≤ sizeLine ∧
 ∀ p,H p = none→Q (.ref p) (upd H p (.lst (List.replicate k.toNat xs).flatten))
theorem aBQ {α : Type} (xs : List α) (k : Nat) : (List.replicate k xs).flatten.length = k * xs.length:=by
 induction k with
 | zero=>simp
 | succ k ih=>rw [List.replicate_succ,List.flatten_cons,List.length_append,ih,Nat.succ_mul,Nat.add_comm]
theorem aCY : OpR X (binaryOp .Mult) rRep:=by
 intro pins s σ H x y v u Q I rx ry h
 obtain ⟨l,k,xs,rfl,rfl,hH,h1,h2,hz,q⟩:=h
 cases rx
 obtain ⟨t,rfl⟩:=ry
 obtain ⟨z,its,n,r,hl,e⟩:=I.lstM hH
 have hlen : its.toArray.size * k.toNat ≤ sizeLine:=by rw [List.size_toArray,← hl]; exact hz
 have hcap : ¬ its.toArray.size * k.toNat > (2 ^ 63 - 1) / 8:=by
  have : (sizeLine : Nat) ≤ (2 ^ 63 - 1) / 8:=by decide
  omega
 have hfit : ¬ (!Builtin.List.listFitsIndex k) = true:=by
  rw [fitsIndex_both h1 h2]
  exact Bool.false_ne_true
 have hlong : ¬ Builtin.List.listTooLong (its.toArray.size * k.toNat) = true:=by
  rw [sP hlen]
  exact Bool.false_ne_true
 have hnew : List.foldl (fun x1 x2=>x1 ++ x2) #[] (List.replicate (if its.toArray.isEmpty = true then 0 else k.toNat) its.toArray) = (List.replicate k.toNat its).flatten.toArray:=by
  have f0 : ∀ m : Nat,List.foldl (fun x1 x2=>x1 ++ x2) #[] (List.replicate m its.toArray) = (List.replicate m its).flatten.toArray:=fun m=>by
   have:=qT its m []
   rw [List.nil_append] at this
   exact this
  rw [f0]
  cases its with
  | nil=>simp
  | cons a r'=>rw [if_neg (by simp)]
 refine wpAny_binaryOp_repeat_ref (T := "list") (U := "int") (by decide) ⟨_,e,rfl⟩ (fun s'=>typeIs_int s' k t) noFill_list_mul F.fills_int_mul F.slot_int_rmul repeat_list F.slot_int_index.lookup
  (call_meets F.slot_int_rmul (typeIs_int s k t) F.entry_int_rmul (F.args_int_rmul_2 _ _) (int___rmul___int_list k t l its.toArray n)
   ⟨e,rfl,⟨_,e,rfl⟩,call_meets F.slot_list_mul ⟨_,e,rfl⟩ F.entry_list_mul (F.args_list_mul_2 _ _) (AutoListH.list___mul___list_int_3 l its.toArray n k t hfit hcap hlong) ⟨e,?_⟩⟩)
 rw [hnew]
 exact ⟨.ref _,_,I.lnew (t':=s.toks) (r.rep k.toNat) (by rw [aBQ,Nat.mul_comm]; exact hz),rfl,q _ I.fresh⟩
end
section
variable {prog : Program} {w : World} {A : Around} {E : Value→Shared→Prop} {s : Shared}
end
section
variable {X : Cx}
end
end L2
namespace Att
open PySem PySem.W PySem.Calls PyProof.Rows
theorem nZ {P : Params} {h : Heap} : ∀ (ns : List Int) (vs : List Value),WellAll P h vs (ns.map WData.int)→IntsAre vs ns:=by
 intro ns
 induction ns with
 | nil =>
  intro vs w
  rw [List.map_nil] at w
  cases w
  exact .nil
 | cons n ns ih =>
  intro vs w
  rw [List.map_cons] at w
  cases w with
  | cons a b =>
   cases a
   exact .cons _ _ (ih _ b)
theorem yR {l : OpenLaw} {n : Nat} (hn : l.most = some n) {P : Params} {h : Heap} {args : List WData} {vals : List Value}
  (hpre : l.row.toRowW.claim.pre args = true) (hwl : WellAll P h vals args) :
  ∃ a vs ns,vals = [Value.ref a]∧args = [WData.list (ns.map WData.int)]∧h.get? a = some { cls:=.type "list",data:=.seq vs.toArray }∧IntsAre vs ns∧ns.length ≤ n:=by
 have hsh : WShape.hasAll [] args [.list .int] = true:=(pre_splitW hpre).1
 have hc : l.pre.holds [] { args:=args } = true:=(pre_splitW hpre).2
 obtain ⟨d,r,rfl,h1,h2⟩:=hasAllW_cons hsh
 obtain rfl:=hasAllW_nil h2
 obtain ⟨xs,rfl,h3⟩:=hasW_list h1
 obtain ⟨ns,rfl⟩:=items_int h3
 have hlen : ns.length ≤ n:=by
  unfold OpenLaw.pre at hc
  have h4 : (WTm.not (.lt (.lit (.int (n : Int))) (.len (.arg 0)))).holds [] { args:=[.list (ns.map .int)] } = true:=by
   have h4:=(holds_andW hc).1
   rw [hn] at h4
   exact h4
  have h5:=condW_of h4 (w_not (w_lt w_lit (w_len_list (w_arg rfl))))
  rw [List.length_map] at h5
  refine Nat.le_of_not_lt fun q=>?_
  have q' : (n : Int) < ((ns.length : Nat) : Int):=by omega
  first
   | (rw [decide_eq_true q'] at h5; exact absurd h5 (by decide))
   | (simp at h5; omega)
 cases hwl with
 | cons w1 w2 =>
  cases w2
  cases w1 with
  | list ho hall=>exact ⟨_,_,ns,rfl,rfl,ho,nZ ns _ hall,hlen⟩
theorem yS (l : OpenLaw) (args : List WData) : l.row.toRowW.claim.post args (.bool true) args = true :=
 postW_of (r:=l.row.toRowW) (X:=(true == true))
  (show WShape.has [] (.bool true) .bool = true by first | rfl | decide | simp [WShape.has,WShape.arms,WShape.armsAll])
  (show (WTm.eq .res (.lit (.bool true))).value [] { args:=args,res:=some (.bool true),after:=args } = some (.bool (true == true)) from w_eq_bool (w_res rfl) w_lit) rfl
theorem attach_call {l : OpenLaw} {n : Nat} {q : Program} {loose : List Str} {XP : (Str→Option Value)→Heap→Prop} {YP : World→Heap→Prop} {d : DefRec}
  (hn : l.most = some n) (hdf : d.params.defaults = [])
  (call : ∀ (w : World) (s₀ s₁ : Shared) (mg mb : Str→Option Value) (fa : Addr) (o : Obj) (pm cd doc : Value) (a : Addr) (vs : List Value) (ns : List Int),
   Ground q loose [] XP w s₀ mg mb s₁.heap→YP w s₁.heap →
   s₁.heap.get? fa = some o→o.data = .func (docDef d.name d.params d.body d.scope pm cd doc)→s₁.heap.CodeRec cd d.name→mg d.name = some (.ref fa) →
   s₁.heap.get? a = some { cls:=.type "list",data:=.seq vs.toArray }→IntsAre vs ns→ns.length ≤ n→s₁.gens = #[] →
   codeAny (model l.prog w) callerA (.call (.ref fa) ⟨[.ref a],[]⟩) (fun r s'=>r = .ok (.ret (.bool true))∧OldK s₁.heap s'.heap∧s'.os = s₁.os∧AllBare s'.gens) s₁) :
  WalkO q loose XP YP l.row.toRowW d [] (fun f vs=>PySem.call f vs):=by
 intro w s₀ s₁ mg mb G Y fa o pm cd doc dV kV ho hd hcd hD hmg hg args vals as hpre hlay hrd hwl hlo
 obtain rfl : dV = .none:=Dflts.none hD hdf
 obtain rfl : kV = .none:=Dflts.noKw hD
 obtain ⟨a,vs,ns,rfl,rfl,hobj,hints,hlen⟩:=yR hn hpre hwl
 refine enter_call (codeAny_mono (call w s₀ s₁ mg mb fa o pm cd doc a vs ns G Y ho (fd_plain hd) hcd hmg hobj hints hlen hg) fun r s' hq=>?_)
 obtain ⟨rfl,h2,h3,h4⟩:=hq
 exact ⟨.inl ⟨.bool true,.bool true,[],rfl,fun _=>rfl,.bool true,yS l _,fun _=>⟨List.Pairwise.nil,fun _ hm=>(nomatch hm)⟩⟩,h2,h3,h4⟩
section
variable {prog : Program} {w : World} {A : Around} {E : Value→Shared→Prop} {s : Shared} {K : Frag}
end
end Att
namespace L2
open PySem PySem.Spec PyProof.Rows
theorem qV : ∀ {vs : List Value} {ns : List Int},IntsAre vs ns→Vals (ns.map V.int) vs
 | _,_,.nil=>.nil
 | _,_,.cons n t h=>.cons ⟨t,rfl⟩ (qV h)
end L2
namespace L2
open PySem PySem.Spec PyProof.Rows
end L2
namespace L2
open PySem PySem.Spec PyProof.Rows
def pT (s : Stmt) (j : Nat) : Stmt:=match s with
 | .ClassDef _ _ _ body _ _ _ _ _ _ _=>body.getD j (.Pass ⟨0,0,0,0⟩)
 | _=>.Pass ⟨0,0,0,0⟩
def cP (s : Stmt) : Arguments:=match s with
 | .FunctionDef _ a _ _ _ _ _ _ _ _=>a
 | _=>{ posonlyargs:=[],args:=[],vararg:=none,kwonlyargs:=[],kw_defaults:=[],kwarg:=none,defaults:=[] }
def cC (s : Stmt) : List Stmt:=match s with
 | .FunctionDef _ _ b _ _ _ _ _ _ _=>b
 | _=>[]
def aI (s : Stmt) : Scope:=match s with
 | .FunctionDef _ _ _ _ _ _ sc _ _ _=>sc
 | _=>{ kind:=.function,names:=[],isGenerator:=false,isCoroutine:=false }
abbrev CX0 : CXT:=fun _ _ _ _ _ _=>False
abbrev E0 : XK:=fun _ _ _=>False
theorem aU {X : Cx} : jD CX0 X E0:=fun _ _ _ _ _ _ _ h=>h.elim
structure Fun (K : PySem.W.Frag) (x qual : Str) (st : Stmt) (f : Addr) (fd : FuncData) : Prop where
 ex : ∃ (oc : Value) (od : Option Addr) (kV doc pm : Value) (an : Option Addr) (cdv ct : Value) (osl : Array (Option Value)),
  fd = PySem.W.fnOf x qual (cP st) (cC st) (aI st) .none kV doc pm an cdv ct∧K.lookup f = some ⟨oc,od,.func fd,osl⟩∧PySem.W.codeIn K cdv qual = true
 kp : PySem.W.keepIn K (.ref f) = true
section
variable {P : Program} {w : World} {K : PySem.W.Frag} {mg : Str→Option Value} {base : Heap}
theorem Fun.ok {x qual : Str} {st : Stmt} {f : Addr} {fd : FuncData} {N ps : List Str} {k : Nat} {sp : Sp} (F : Fun K x qual st f fd) (S : aY N ps (aI st)) (len : ∀ vs H Q E,sp vs H Q E→vs.length = ps.length)
  (hbody : ∀ (cdv : Value) (A : Around) (outer : List Env) (s : Shared) (H : Hp) (vs : List V) (Q : VK) (E : XK),Room k (A.deeper (envOfC qual (aI st) s.heap.objs.size f cdv))→sp vs H Q E →
   ∃ t,PSs (cxOf CX0 P w K mg base N qual (aI st) f cdv A outer s H E).nox (cC st) t∧t { nx:=fun _ H'=>Q .non H',rt:=Q } (start N vs) H) : FnOk P w K mg base CX0 (k + 1) f fd ps sp:=by
 obtain ⟨oc,od,kV,doc,pm,an,cdv,ct,osl,rfl,lk,hcd⟩:=F.ex
 refine aBq lk hcd S len fun A outer s H vs Q E hr hsp=>?_
 obtain ⟨t,h,q⟩:=hbody cdv A outer s H vs Q E hr hsp
 exact ⟨t,h.nox,q⟩
theorem Fun.binds {x qual : Str} {st : Stmt} {f : Addr} {fd : FuncData} {ps : List Str} (F : Fun K x qual st f fd)
  (h : ∀ (kV doc pm : Value) (an : Option Addr) (cdv ct : Value) (us : List Value),us.length = ps.length→bindArgs (PySem.W.fnOf x qual (cP st) (cC st) (aI st) .none kV doc pm an cdv ct) ⟨us,[]⟩ = pure (ps.zip us)) : gB K fd ps []:=by
 obtain ⟨oc,od,kV,doc,pm,an,cdv,ct,osl,rfl,lk,hcd⟩:=F.ex
 exact .all (h kV doc pm an cdv ct)
theorem oB {x qual : Str} {st : Stmt} {f : Addr} {oc : Value} {od an : Option Addr} {osl : Array (Option Value)} {kV doc pm cdv ct : Value} (l : K.lookup f = some ⟨oc,od,.func (PySem.W.fnOf x qual (cP st) (cC st) (aI st) .none kV doc pm an cdv ct),osl⟩)
  (c : PySem.W.codeIn K cdv qual = true) (k : PySem.W.keepIn K (.ref f) = true) : Fun K x qual st f (PySem.W.fnOf x qual (cP st) (cC st) (aI st) .none kV doc pm an cdv ct):=⟨⟨oc,od,kV,doc,pm,an,cdv,ct,osl,rfl,l,c⟩,k⟩
end
section
variable {X : Cx}
theorem pv (i : Nat) {x : Str} {pos : Pos} (hN : X.N[i]? = some x:=by rfl) (hv : Vis X.env.scope x:=by first | exact Or.inl rfl | exact Or.inr (Or.inl rfl) | exact Or.inr (Or.inr rfl)) (hd : (x == ("__debug__" : Str)) = false:=by decide)
  (hcd : (x == ("__classdict__" : Str)) = false:=by decide) : PE X (.Name x pos) (tVar i):=aCP hN hv hd hcd
end
theorem iteF {A B : Prop} (h : B) : if false = true then A else B:=by
 rw [if_neg Bool.false_ne_true]
 exact h
theorem iteT {A B : Prop} (h : A) : if true = true then A else B:=by
 rw [if_pos rfl]
 exact h
theorem ite2 {c A B : Prop} [Decidable c] (h1 : c→A) (h2 : ¬ c→B) : if c then A else B:=by
 by_cases h : c
 ·rw [if_pos h]
  exact h1 h
 ·rw [if_neg h]
  exact h2 h
def Same (H H' : Hp) : Prop:=∀ b o,H b = some o→H' b = some o
theorem Same.refl (H : Hp) : Same H H:=fun _ _ h=>h
theorem Same.trans {H H1 H2 : Hp} (a : Same H H1) (b : Same H1 H2) : Same H H2:=fun c o h=>b c o (a c o h)
theorem Same.free {H H' : Hp} (e : Same H H') {l : Addr} (h : H' l = Option.none) : H l = Option.none:=by
 cases q : H l with
 | none=>rfl
 | some o =>
  rw [e l o q] at h
  cases h
end L2
namespace L2
open PySem PySem.Spec PyProof.Rows
def cSt (src : List (Option Nat)) (σ : St) : St:=src.map fun o=>match o with | some j=>σ.getD j none | none=>none
theorem aBR {src : List (Option Nat)} {σ : St} {i : Nat} {v : V} (h : (cSt src σ)[i]? = some (some v)) : ∃ j,src[i]? = some (some j)∧σ[j]? = some (some v):=by
 unfold cSt at h
 rw [List.getElem?_map] at h
 cases e : src[i]? with
 | none=>rw [e] at h; cases h
 | some o =>
  rw [e] at h
  cases o with
  | none=>cases h
  | some j =>
   refine ⟨j,rfl,?_⟩
   have h' : σ.getD j none = some v:=Option.some.inj h
   rw [List.getD_eq_getElem?_getD] at h'
   cases e2 : σ[j]? with
   | none=>rw [e2] at h'; cases h'
   | some o=>rw [e2] at h'; rw [show o = some v from h']
structure fR (NB : List Str) (src : List (Option Nat)) (scope : Scope) (X : Cx) : Prop where
 kind : scope.kind = .function
 nd : NB.Nodup
 len : src.length = NB.length
 cells : ∀ y∈scope.names,y.2 = .cell→scope.names.lookup y.1 = some .cell
 names : ∀ y∈scope.names,y.2 = .local→scope.names.lookup y.1 = some .local
 free : ∀ y∈scope.names,y.2 = .free→X.env.scope.names.lookup y.1 = some .cell∨X.env.scope.names.lookup y.1 = some .free
 src : ∀ (i : Nat) (x : Str) (j : Nat),NB[i]? = some x→src[i]? = some (some j)→X.N[j]? = some x∧scope.names.lookup x = some .free
def pU (scope : Scope) (x : Str) : Bool:=match scope.names.lookup x with
 | some .cell=>true
 | _=>false
theorem uQ {scope : Scope} {x : Str} : pU scope x = true↔scope.names.lookup x = some .cell:=by
 unfold pU
 split
 ·rename_i h; exact ⟨fun _=>h,fun _=>rfl⟩
 ·rename_i h; exact ⟨fun z=>(by cases z),fun z=>absurd z h⟩
def blk (X : Cx) (NB : List Str) (scope : Scope) (cl : List (Str × Addr)) (C : Addr) (s₃ : Shared) (H₃ : Hp) (fp : List Addr) : Cx :=
 { X with N:=NB,s₀:=s₃,H₀:=H₃,env:=compEnvC scope cl C X.env,outer:=X.stack,stack:=X.stack,ex:=fp,fn:=pU scope,pn:=[],xe:=fun _ _=>False }
theorem kO {env : Env} : ∀ (names : List (Str × NameKind)) (acc : List (Str × Addr)),(∀ y∈names,y.2 = NameKind.free→∃ c,env.cells.lookup y.1 = some c)→(∀ x c,acc.lookup x = some c→env.cells.lookup x = some c) →
  ∃ cl,(forIn names acc fun x r=>(if (x.2 == NameKind.free) = true then (do let a ← cellOf env x.1; pure (ForInStep.yield ((x.1,a) :: r))) else pure (ForInStep.yield r) : Sem (ForInStep (List (Str × Addr))))) = (pure cl : Sem (List (Str × Addr))) ∧
   (∀ x c,cl.lookup x = some c→env.cells.lookup x = some c)∧(∀ x c,acc.lookup x = some c→∃ c',cl.lookup x = some c')∧∀ x,(x,NameKind.free)∈names→∃ c,cl.lookup x = some c
 | [],acc,_,ha=>⟨acc,by rw [List.forIn_nil],ha,fun x c h=>⟨c,h⟩,fun x h=>nomatch h⟩
 | (n,k) :: r,acc,hf,ha=>by
  by_cases hk : k = NameKind.free
  ·subst hk
   obtain ⟨c,hc⟩:=hf (n,NameKind.free) List.mem_cons_self rfl
   have ha' : ∀ x c',((n,c) :: acc).lookup x = some c'→env.cells.lookup x = some c':=fun x c' h=>by
    rw [List.lookup_cons] at h
    cases hx : x == n with
    | true =>
     rw [hx] at h
     cases h
     have : x = n:=by simpa using hx
     rw [this]; exact hc
    | false=>rw [hx] at h; exact ha x c' h
   obtain ⟨cl,e1,e2,e3,e4⟩:=kO r ((n,c) :: acc) (fun y hy=>hf y (List.mem_cons_of_mem _ hy)) ha'
   refine ⟨cl,?_,e2,fun x c' h=>?_,fun x h=>?_⟩
   ·rw [List.forIn_cons]
    have ec : cellOf env n = pure c:=by unfold cellOf; rw [hc]
    have e0 : (if ((n,NameKind.free).2 == NameKind.free) = true then (do let a ← cellOf env (n,NameKind.free).1; pure (ForInStep.yield (((n,NameKind.free).1,a) :: acc))) else pure (ForInStep.yield acc) : Sem (ForInStep (List (Str × Addr)))) = pure (ForInStep.yield ((n,c) :: acc)):=by
     rw [if_pos (show (NameKind.free == NameKind.free) = true by decide)]
     show cellOf env n >>= _ = _
     rw [ec]; rfl
    rw [e0]
    exact e1
   ·cases hx : x == n with
    | true=>exact e3 x c (by rw [List.lookup_cons,hx])
    | false=>exact e3 x c' (by rw [List.lookup_cons,hx]; exact h)
   ·rcases List.mem_cons.mp h with h | h
    ·cases h
     exact e3 n c (by rw [List.lookup_cons]; simp)
    ·exact e4 x h
  ·obtain ⟨cl,e1,e2,e3,e4⟩:=kO r acc (fun y hy=>hf y (List.mem_cons_of_mem _ hy)) ha
   refine ⟨cl,?_,e2,e3,fun x h=>?_⟩
   ·rw [List.forIn_cons]
    have hb : (k == NameKind.free) = false:=by simpa using hk
    have e0 : (if ((n,k).2 == NameKind.free) = true then (do let a ← cellOf env (n,k).1; pure (ForInStep.yield (((n,k).1,a) :: acc))) else pure (ForInStep.yield acc) : Sem (ForInStep (List (Str × Addr)))) = pure (ForInStep.yield acc):=by
     rw [if_neg (by show ¬ (k == NameKind.free) = true; rw [hb]; decide)]
    rw [e0]
    exact e1
   ·rcases List.mem_cons.mp h with h | h
    ·cases h; exact absurd rfl hk
    ·exact e4 x h
theorem kP {X : Cx} (ok : X.Ok) {NB : List Str} {src : List (Option Nat)} {scope : Scope} (S : fR NB src scope X) :
  ∃ cl,closureFor scope X.env = pure cl∧(∀ x c,cl.lookup x = some c→X.env.cells.lookup x = some c)∧∀ x,(x,NameKind.free)∈scope.names→∃ c,cl.lookup x = some c:=by
 obtain ⟨cl,e1,e2,_,e4⟩:=kO (env:=X.env) scope.names [] (fun y hy hk=>ok.has y.1 (S.free y hy hk)) (fun x c h=>nomatch h)
 refine ⟨cl,?_,e2,e4⟩
 unfold closureFor
 simp only [bind_pure]
 exact e1
theorem sQ {scope : Scope} {env : Env} {x : Str} (h : scope.names.lookup x = some .free) : (relabel scope env).names.lookup x = some .cell∨(relabel scope env).names.lookup x = some .free:=by
 have go : ∀ names : List (Str × NameKind),names.lookup x = some .free →
   (names.map fun (n,k)=>if (k == NameKind.free && env.scope.kind == .function && env.kindOf n == some .cell) then (n,NameKind.cell) else (n,k)).lookup x = some .cell ∨
   (names.map fun (n,k)=>if (k == NameKind.free && env.scope.kind == .function && env.kindOf n == some .cell) then (n,NameKind.cell) else (n,k)).lookup x = some .free:=by
  intro names
  induction names with
  | nil=>intro h; simp at h
  | cons y r ih =>
   intro h
   obtain ⟨n,k⟩:=y
   rw [List.lookup_cons] at h
   rw [List.map_cons]
   cases hx : x == n with
   | true =>
    rw [hx] at h
    cases h
    by_cases hc : (NameKind.free == NameKind.free && env.scope.kind == .function && env.kindOf n == some .cell) = true
    ·left; show List.lookup x ((if _ then _ else _) :: _) = _; rw [if_pos hc,List.lookup_cons,hx]
    ·right; show List.lookup x ((if _ then _ else _) :: _) = _; rw [if_neg hc,List.lookup_cons,hx]
   | false =>
    rw [hx] at h
    by_cases hc : (k == NameKind.free && env.scope.kind == .function && env.kindOf n == some .cell) = true
    ·show List.lookup x ((if _ then _ else _) :: _) = _∨List.lookup x ((if _ then _ else _) :: _) = _
     rw [if_pos hc,List.lookup_cons,hx]; exact ih h
    ·show List.lookup x ((if _ then _ else _) :: _) = _∨List.lookup x ((if _ then _ else _) :: _) = _
     rw [if_neg hc,List.lookup_cons,hx]; exact ih h
 exact go scope.names h
theorem lI {scope : Scope} {env : Env} {x : Str} {k : NameKind} (h : (relabel scope env).names.lookup x = some k) (hk : k = .cell∨k = .free) : (x,NameKind.free)∈scope.names∨(x,NameKind.cell)∈scope.names:=by
 have m:=PySem.mem_of_lookup h
 obtain ⟨⟨n,k'⟩,hm,e⟩:=List.mem_map.mp m
 by_cases q : (k' == NameKind.free && env.scope.kind == .function && env.kindOf n == some .cell) = true
 ·have e' : (n,NameKind.cell) = (x,k):=by simpa [q] using e
  have k1 : k' = NameKind.free:=by
   simp only [Bool.and_eq_true,beq_iff_eq] at q
   exact q.1.1
  cases e'
  left
  rw [← k1]; exact hm
 ·have e' : (n,k') = (x,k):=by simpa [q] using e
  cases e'
  rcases hk with z | z
  ·subst z; exact .inr hm
  ·subst z; exact .inl hm
theorem lJ : ∀ (names : List (Str × NameKind)) (h : Heap) (acc : List (Str × Addr)) (x : Str) (c : Addr),(cellsFrom h.objs.size names acc).lookup x = some c→acc.lookup x = some c∨(h.objs.size ≤ c∧(pushCells h names).IsCell c none)
 | [],_,_,_,_,e=>.inl e
 | (name,kind) :: r,h,acc,x,c,e=>by
  unfold cellsFrom at e
  unfold pushCells
  split at e
  ·rename_i hk
   rw [if_pos hk]
   have hsz : (h.push { cls:=.type "cell",data:=.cell none }).objs.size = h.objs.size + 1:=Heap.size_push ..
   rw [← hsz] at e
   rcases lJ r _ _ x c e with z | ⟨z1,z2⟩
   ·rw [List.lookup_cons] at z
    cases hx : x == name with
    | true =>
     rw [hx] at z
     cases z
     exact .inr ⟨Nat.le_refl _,_,pushCells_keeps r _ _ _ (Heap.get?_push_size _ rfl),rfl⟩
    | false=>rw [hx] at z; exact .inl z
   ·exact .inr ⟨by omega,z2⟩
  ·rename_i hk
   rw [if_neg hk]
   exact lJ r h acc x c e
theorem qW : ∀ (names : List (Str × NameKind)) (n : Nat) (acc : List (Str × Addr)) (x : Str),(x,NameKind.cell)∈names→∃ c,n ≤ c∧(cellsFrom n names acc).lookup x = some c:=by
 have up : ∀ (names : List (Str × NameKind)) (n m : Nat) (acc : List (Str × Addr)) (x : Str) (c : Addr),acc.lookup x = some c→m ≤ c→m ≤ n→∃ c',m ≤ c'∧(cellsFrom n names acc).lookup x = some c':=by
  intro names
  induction names with
  | nil=>intro n m acc x c e h _; exact ⟨c,h,e⟩
  | cons y r ih =>
   intro n m acc x c e h hm
   obtain ⟨name,kind⟩:=y
   unfold cellsFrom
   split
   ·cases hx : x == name with
    | true=>exact ih (n + 1) m _ x n (by rw [List.lookup_cons,hx]) hm (by omega)
    | false=>exact ih (n + 1) m _ x c (by rw [List.lookup_cons,hx]; exact e) h (by omega)
   ·exact ih n m acc x c e h hm
 intro names
 induction names with
 | nil=>intro n acc x h; cases h
 | cons y r ih =>
  intro n acc x h
  obtain ⟨name,kind⟩:=y
  unfold cellsFrom
  rcases List.mem_cons.mp h with z | z
  ·cases z
   rw [if_pos (by decide)]
   exact up r (n + 1) n _ x n (by rw [List.lookup_cons]; simp) (Nat.le_refl _) (by omega)
  ·split
   ·obtain ⟨c,h1,h2⟩:=ih (n + 1) ((name,n) :: acc) x z
    exact ⟨c,by omega,h2⟩
   ·exact ih n acc x z
theorem jT : ∀ (names : List (Str × NameKind)) (n : Nat) (acc : List (Str × Addr)) (x : Str) (c : Addr),acc.lookup x = some c→(x,NameKind.cell) ∉ names→(cellsFrom n names acc).lookup x = some c
 | [],_,_,_,_,e,_=>e
 | (name,kind) :: r,n,acc,x,c,e,h=>by
  have hr : (x,NameKind.cell) ∉ r:=fun z=>h (List.mem_cons_of_mem _ z)
  unfold cellsFrom
  split
  ·rename_i hk
   have hne : (x == name) = false:=by
    cases hx : x == name with
    | false=>rfl
    | true =>
     have e1 : x = name:=by simpa using hx
     have e2 : kind = .cell:=by simpa using hk
     exact absurd (by rw [e1,e2]; exact List.mem_cons_self) h
   exact jT r (n + 1) _ x c (by rw [List.lookup_cons,hne]; exact e) hr
  ·exact jT r n acc x c e hr
theorem lK : ∀ (names : List (Str × NameKind)) (n : Nat) (acc : List (Str × Addr)),(∀ x y c,acc.lookup x = some c→acc.lookup y = some c→x = y)→(∀ x c,acc.lookup x = some c→c < n)→∀ x y c,(cellsFrom n names acc).lookup x = some c→(cellsFrom n names acc).lookup y = some c→x = y
 | [],_,_,hi,_=>hi
 | (name,kind) :: r,n,acc,hi,hl=>by
  unfold cellsFrom
  split
  ·refine lK r (n + 1) _ (fun x y c h1 h2=>?_) (fun x c h=>?_)
   ·rw [List.lookup_cons] at h1 h2
    cases hx : x == name <;> cases hy : y == name <;> rw [hx] at h1 <;> rw [hy] at h2
    ·exact hi x y c h1 h2
    ·cases h2; exact absurd (hl x _ h1) (Nat.lt_irrefl _)
    ·cases h1; exact absurd (hl y _ h2) (Nat.lt_irrefl _)
    ·have e1 : x = name:=by simpa using hx
     have e2 : y = name:=by simpa using hy
     rw [e1,e2]
   ·rw [List.lookup_cons] at h
    cases hx : x == name <;> rw [hx] at h
    ·exact Nat.lt_succ_of_lt (hl x c h)
    ·cases h; exact Nat.lt_succ_self _
  ·exact lK r n acc hi hl
section
variable {X : Cx} {pins : List (Addr × Obj)} {σ : St} {H : Hp} {s : Shared} {NB : List Str} {src : List (Option Nat)} {scope : Scope} {cl : List (Str × Addr)} {fp : List Addr} {h₁ : Heap} {t₁ : Nat}
theorem aBS (I : Inv X pins σ H s) (S : fR NB src scope X) (c1 : ∀ x c,cl.lookup x = some c→X.env.cells.lookup x = some c) (c2 : ∀ x,(x,NameKind.free)∈scope.names→∃ c,cl.lookup x = some c)
  (hf : ∀ b∈fp,FpOk X pins H b) (hfo : ∀ b∈fp,b < s.heap.objs.size) {m : Str→Option Value} (hn : h₁.Ns s.heap.objs.size m) (hk : ∀ b o,s.heap.get? b = some o→h₁.get? b = some o)
  (hnew : ∀ x c,(cellsFrom (s.heap.objs.size + 1) scope.names cl).lookup x = some c→cl.lookup x = some c∨(s.heap.objs.size < c∧h₁.IsCell c none)) :
  Inv (blk X NB scope (cellsFrom (s.heap.objs.size + 1) scope.names cl) s.heap.objs.size s H fp) [] (cSt src σ) H { s with heap:=h₁,toks:=t₁ }:=by
 have stk : ∀ b∈frs X.stack,b∈X.env.locals :: X.fs:=I.stkSub
 have cellOk : ∀ x c,cl.lookup x = some c→∃ v,s.heap.IsCell c v:=fun x c e=>I.cell x c (c1 x c e)
 have clLt : ∀ x c,cl.lookup x = some c→c < s.heap.objs.size:=fun x c e=>by obtain ⟨v,o,ho,_⟩:=cellOk x c e; exact Heap.lt_size ho
 refine ⟨⟨I.ok.mod,S.kind,I.ok.glob,I.ok.blt,Nat.le_refl _,lK _ _ _ (fun x y c e1 e2=>I.ok.inj x y c (c1 x c e1) (c1 y c e2)) (fun x c e=>Nat.lt_succ_of_lt (clLt x c e)),fun x hx=>?_,fun x c z e=>?_,I.ok.hd,I.ok.frames,.inl rfl,fun b hb=>⟨?_,fun x c e=>?_⟩,I.bs,Nat.le_trans I.ok.bsz I.sz,fun b o e hb=>?_,fun b hb=>?_,I.stack,I.stkFree⟩,
  rfl,I.bare,Un.kept hk,⟨m,hn,fun i x v e1 e2 e3=>?_⟩,fun x c e=>?_,I.hok.fresh (Nat.le_refl _),fun x c e=>?_,fun p hp=>absurd (show p∈([] : List (Addr × Obj)) from hp) (by simp),I.hok.kept hk,?_⟩
 ·have both : (x,NameKind.free)∈scope.names∨(x,NameKind.cell)∈scope.names:=by
   rcases hx with hx | hx
   ·exact lI hx (.inl rfl)
   ·exact lI hx (.inr rfl)
  by_cases hc : (x,NameKind.cell)∈scope.names
  ·obtain ⟨c,_,e⟩:=qW scope.names (s.heap.objs.size + 1) cl x hc
   exact ⟨c,e⟩
  ·rcases both with z | z
   ·obtain ⟨c,e⟩:=c2 x z
    exact ⟨c,jT _ _ _ _ _ e hc⟩
   ·exact absurd z hc
 ·have hm:=PySem.mem_of_lookup (uQ.mp z)
  obtain ⟨c',h1,h2⟩:=qW scope.names (s.heap.objs.size + 1) cl x hm
  have e' : (cellsFrom (s.heap.objs.size + 1) scope.names cl).lookup x = some c:=e
  rw [h2] at e'
  cases e'
  exact Nat.le_of_succ_le h1
 ·exact Nat.ne_of_lt (hfo b hb)
 ·rcases hnew x c e with z | ⟨z,_⟩
  ·exact (hf b hb).2.2.2.2.1 x c (c1 x c z)
  ·exact Nat.ne_of_gt (Nat.lt_trans (hfo b hb) z)
 ·rcases (hf b hb).2.2.2.1 with z | z
  ·exact I.ok.noex b o e z
  ·exact absurd (Nat.lt_of_lt_of_le (Heap.lt_size e) (Nat.le_trans I.ok.bsz z)) (Nat.lt_irrefl _)
 ·intro z
  rcases List.mem_cons.mp (stk b z) with e | e
  ·exact (hf b hb).2.1 e
  ·exact (hf b hb).2.2.1 e
 ·obtain ⟨j,hj,hv⟩:=aBR e2
  obtain ⟨hN,hF⟩:=S.src i x j e1 hj
  obtain ⟨m0,hn0,hl0⟩:=I.loc
  have hmem:=PySem.mem_of_lookup hF
  have kx:=S.free _ hmem rfl
  have vis : Vis X.env.scope x:=by
   rcases kx with z | z
   ·exact .inr (.inl z)
   ·exact .inr (.inr z)
  obtain ⟨u,r,l⟩:=hl0 j x v hN hv vis
  refine ⟨u,r,.inr ⟨sQ hF,?_⟩⟩
  obtain ⟨c,hc⟩:=c2 x hmem
  have hnc : (x,NameKind.cell) ∉ scope.names:=fun z=>by
   have:=S.cells _ z rfl
   rw [hF] at this; cases this
  refine ⟨c,jT _ _ _ _ _ hc hnc,?_⟩
  rcases l with ⟨hk',_⟩ | ⟨_,c',e,z⟩
  ·have hk'' : X.env.scope.names.lookup x = some .local:=hk'
   rcases kx with z | z <;> (rw [z] at hk''; cases hk'')
  ·rw [c1 x c hc] at e
   cases e
   obtain ⟨o,ho,hd⟩:=z
   exact ⟨o,hk _ _ ho,hd⟩
 ·rcases hnew x c e with z | ⟨_,z⟩
  ·obtain ⟨v,o,ho,hd⟩:=cellOk x c z
   exact ⟨v,o,hk _ _ ho,hd⟩
  ·exact ⟨none,z⟩
 ·rcases hnew x c e with z | ⟨z,_⟩
  ·exact I.freeC x c (c1 x c z)
  ·exact I.hok.fresh (Nat.le_of_lt z)
 ·show (cSt src σ).length = NB.length
  unfold cSt
  rw [List.length_map]
  exact S.len
theorem Inv.unblk {C : Addr} {σB : St} {H' : Hp} {s' : Shared} (I : Inv X pins σ H s) (J : Inv (blk X NB scope cl C s H fp) [] σB H' s') (hf : ∀ b∈fp,FpOk X pins H b) : Inv X pins σ H' s':=by
 refine I.call' (ch:=fp) J.os J.base J.hok J.bare fun b hb=>?_
 obtain ⟨_,f1,_,f3,f4,f5⟩:=hf b hb
 exact ⟨f3,f1,f4,f5⟩
end
def PTs (X : Cx) (ifs : List Expr) (t : TT) : Prop :=
 ∀ (pins : List (Addr × Obj)) (s : Shared) (σ : St) (H : Hp) (Q : Bool→Hp→Prop),Inv X pins σ H s→t σ H Q →
  wpAny (model X.prog X.w) X.A (forIn ifs true fun c r=>if r = true then do let ok ← isTrue c X.env (eval c X.env); pure (ForInStep.yield ok) else pure (ForInStep.yield r)) (TP X pins σ Q) X.xe s
def tYes : TT:=fun _ H Q=>Q true H
theorem dU {X : Cx} : PTs X [] tYes:=fun _ _ _ H _ I h=>wpAny_tests_nil ⟨H,I,h⟩
theorem eN {X : Cx} {c : Expr} {t : TT} (h : PT X c t) : PTs X [c] t:=fun pins s σ H Q I q=>wpAny_tests_one (h pins s σ H Q I q)
def hV (J : It) (g : TG) (tt : TT) (te : TE) (D : Addr) (fin : Hp→Prop) (σB : St) (H1 : Hp) : Prop :=
 ∃ W : Nat→Nat→St→Hp→Prop,(∃ m,W 0 m σB H1)∧∀ i m σ H,W i m σ H→(J.stop i H∧fin H)∨(J.go i H∧∀ x H',J.yld i H x H'→g x σ H' fun σ2 H2=>tt σ2 H2 fun b H3 =>
  if b = true then te σ2 H3 fun v H4=>∃ ys,H4 D = some (.lst ys)∧ys.length < sizeLine∧∃ m',m' < m∧W (i + 1) m' σ2 (upd H4 D (.lst (ys ++ [v]))) else ∃ m',m' < m∧W (i + 1) m' σ2 H3)
theorem yT {B : Cx} {elt tg iter : Expr} {ifs : List Expr} {scope : Scope} {pos : Pos} {J : It} {g : TG} {tt : TT} {te : TE} {D it : Addr} {fp : List Addr} {tn : Nat→Heap→Prop} {fin : Hp→Prop} {R : Result→Shared→Prop} {s : Shared} {σB : St} {H1 : Hp}
  (hx : B.xe = fun _ _=>False) (hc : B.calm = true) (T : Turn B.prog B.w B.K tg J fp it tn) (hg : PG B tg g) (ht : PTs B ifs tt) (he : PE B elt te) (I : Inv B [] σB H1 s) (st : tn 0 s.heap) (hf : ∀ b∈fp,FpOk B [] H1 b)
  (hw : hV J g tt te D fin σB H1) (hR : ∀ σ' H' s',Inv B [] σ' H' s'→fin H'→R (.ok .next) s') :
  codeAny (model B.prog B.w) B.A (.compLoop (.ListComp elt [⟨tg,iter,ifs,0⟩] scope pos) 0 (.ref it) (.ref D) B.env) R s:=by
 obtain ⟨W,⟨m0,w0⟩,turn⟩:=hw
 have stat : ∀ {H' : Hp},(∀ b∈fp,H' b = none)→∀ b∈fp,FpOk B [] H' b:=fun hn b hb=>⟨hn b hb,(hf b hb).2⟩
 refine codeAny_loop rfl (fun n s'=>∃ i σ' H',Inv B [] σ' H' s'∧tn i s'.heap∧(∀ b∈fp,H' b = none)∧W i n σ' H') ?_ m0 ⟨0,σB,H1,I,st,fun b hb=>(hf b hb).1,w0⟩
 rintro n s3 ⟨i,σ3,H3,I3,st3,fr3,w3⟩
 show wpAny _ B.A ((compTurn (.ListComp elt [⟨tg,iter,ifs,0⟩] scope pos) 0 (.ref it) (.ref D) B.env).onRaise (fun x=>do noteFrame x B.env; theTreesLotGoes x)) _ _ s3
 refine wpAny_noted ?_
 rw [compTurn_list]
 have nx : ∀ {α : Type} {t : Sem α} {Q : α→Shared→Prop} {E' : Value→Shared→Prop} {s : Shared},wpAny (model B.prog B.w) B.A t Q B.xe s→wpAny (model B.prog B.w) B.A t Q E' s:=fun h =>
  wpAny_mono h (fun _ _ q=>q) fun _ _ z=>by rw [hx] at z; exact z.elim
 rcases turn i n σ3 H3 w3 with ⟨stop,qn⟩ | ⟨go,step⟩
 ·refine wpAny_bind (wpAny_standAt (wpAny_bind (thn (T.done B rfl rfl rfl hc i [] s3 σ3 H3 _ I3 (stat fr3) st3 stop) fun r s4 ⟨hr,I4⟩=>?_)))
  subst hr
  exact wpAny_pure (hR σ3 H3 s4 I4 qn)
 ·refine wpAny_bind (wpAny_standAt (wpAny_bind (thn (T.item B rfl rfl rfl hc i [] s3 σ3 H3 _ I3 (stat fr3) st3 go) fun r s4 ⟨u,hr,h4⟩=>?_)))
  subst hr
  refine wpAny_bind (thn h4 fun _ s5 ⟨x,H5,I5,r5,y5,st5,fr5⟩=>?_)
  have I5':=I5.pinned (stat fr5) (T.obj _ _ st5)
  refine wpAny_bind (nx (thn (hg _ s5 σ3 H5 x u _ I5' r5 (step x H5 y5)) fun _ s6 ⟨σ6,H6,I6,q6⟩=>?_))
  have back : ∀ {σ7 : St} {H7 : Hp} {s7 : Shared} {m' : Nat},Inv B ([] ++ lE fp s5.heap) σ7 H7 s7→m' < n→W (i + 1) m' σ7 H7→∃ m,m < n∧∃ i σ' H',Inv B [] σ' H' s7∧tn i s7.heap∧(∀ b∈fp,H' b = none)∧W i m σ' H':=fun {σ7 H7 s7 m'} I7 hm w7=>by
   refine ⟨m',hm,i + 1,σ7,H7,I7.unpinned,T.keep _ _ _ st5 fun b hb o e=>(I7.pin (b,o) (List.mem_append_right _ (List.mem_append_right _ (iF hb e)))).1,fun b hb=>?_,w7⟩
   obtain ⟨o,e,d⟩:=T.obj _ _ st5 b hb
   exact (I7.pin (b,o) (List.mem_append_right _ (List.mem_append_right _ (iF hb e)))).2.1
  refine wpAny_bind (nx (thn (ht _ s6 σ6 H6 _ I6 q6) fun ok s7 ⟨H7,I7,q7⟩=>?_))
  cases ok with
  | false =>
   rw [if_neg Bool.false_ne_true] at q7
   obtain ⟨m',hm,w7⟩:=q7
   exact wpAny_pure ⟨rfl,back I7 hm w7⟩
  | true =>
   rw [if_pos rfl] at q7
   refine wpAny_bind (wpAny_bind (nx (thn (he _ s7 σ6 H7 _ I7 q7) fun v s8 ⟨y,H8,I8,r8,ys,hD,hl,m',hm,w8⟩=>?_)))
   refine wpAny_bind (nx (thn (dD _ s8 σ6 H8 (.ref D) [y] (.ref D) [v] (fun _ H9=>H9 = upd H8 D (.lst (ys ++ [y]))) I8 rfl (.cons r8 .nil) ⟨D,ys,y,rfl,rfl,hD,hl,rfl⟩) fun _ s9 ⟨_,H9,I9,_,e9⟩=>?_))
   subst e9
   exact wpAny_pure (wpAny_pure ⟨rfl,back I9 hm w8⟩)
end L2
namespace L2
open PySem PySem.Spec PyProof.Rows
theorem sR {M : Model} {A : Around} {E : Value→Shared→Prop} {s : Shared} {scope : Scope} {globals : Addr} {cl : List (Str × Addr)} {qual : Str} {outer : Env} {Q : Env→Shared→Prop}
  (hQ : Q { scope:=scope,locals:=s.heap.objs.size,globals:=globals,cells:=cellsFrom (s.heap.objs.size + 1) scope.names cl,qual:=qual,func:=none,code:=outer.code,frame:=outer.frame,builtins:=outer.builtins }
   { s with heap:=pushCells (s.heap.push { cls:=.type "dict",data:=.dict #[] }) scope.names }) :
  wpAny M A (newFunctionEnv scope globals cl [] qual none .none (some outer)) Q E s:=by
 simp only [newFunctionEnv,Option.isSome_some,if_true]
 refine wpAny_bind (wpAny_alloc ?_)
 refine wpAny_bind (wpAny_layCells _ (fun name kind cells=>by cases hkc : kind == NameKind.cell <;> simp [hkc]) _ _ _ _ ?_)
 rw [show ({ s with heap:=s.heap.push { cls:=.type "dict",data:=.dict #[] } } : Shared).heap.objs.size = s.heap.objs.size + 1 from Heap.size_push ..]
 refine wpAny_bind ?_
 rw [List.forIn_nil]
 exact wpAny_pure (wpAny_pure hQ)
section
variable {X : Cx} {elt tg iter : Expr} {ifs : List Expr} {scope : Scope} {pos : Pos} {wi : TI} {g : TG} {tt : TT} {te : TE} {NB : List Str} {src : List (Option Nat)}
def aBr (src : List (Option Nat)) (wi : TI) (g : TG) (tt : TT) (te : TE) : TE:=fun σ H Q=>wi σ H fun J H1=>∀ D,H1 D = none→hV J g tt te D (fun H'=>Q (.ref D) H') (cSt src σ) (upd H1 D (.lst []))
theorem oC {pins : List (Addr × Obj)} {σ : St} {H2 : Hp} {s2 : Shared} {J : It} {fp : List Addr} {it : Addr} {tn : Nat→Heap→Prop} {cl : List (Str × Addr)} {fin : Addr→Hp→Prop} {E' : Value→Shared→Prop} {RR : Value→Addr→Result→Shared→Prop}
  (S : fR NB src scope X) (hc : X.calm = true) (c1 : ∀ x c,cl.lookup x = some c→X.env.cells.lookup x = some c) (c2 : ∀ x,(x,NameKind.free)∈scope.names→∃ c,cl.lookup x = some c)
  (hg : ∀ cl C s₃ H₃ fp,PG (blk X NB scope cl C s₃ H₃ fp) tg g) (ht : ∀ cl C s₃ H₃ fp,PTs (blk X NB scope cl C s₃ H₃ fp) ifs tt) (he : ∀ cl C s₃ H₃ fp,PE (blk X NB scope cl C s₃ H₃ fp) elt te)
  (I2 : Inv X pins σ H2 s2) (T : Turn X.prog X.w X.K tg J fp it tn) (st2 : tn 0 s2.heap) (f2 : ∀ b∈fp,FpOk X pins H2 b)
  (hw : ∀ D,H2 D = none→hV J g tt te D (fin D) (cSt src σ) (upd H2 D (.lst [])))
  (hR : ∀ D C H' s',FpOk X pins H' C→Inv X pins σ H' s'→(∃ m,s'.heap.Ns C m)→fin D H'→RR (.ref D) C (.ok .next) s') :
  wpAny (model X.prog X.w) X.A (newList []) (fun acc s₃=>wpAny (model X.prog X.w) X.A (newFunctionEnv scope X.env.globals cl [] X.env.qual none .none (some X.env)) (fun cenv s₄ =>
   codeAny (model X.prog X.w) X.A (.compStart (.ListComp elt [⟨tg,iter,ifs,0⟩] scope pos) 0 (.ref it) acc { cenv with scope:=relabel scope X.env }) (RR acc cenv.locals) s₄) E' s₃) E' s2:=by
 refine wpAny_newObj_type (sR ?_)
 have I3:=I2.lnew (ys:=[]) (its:=[]) (t':=s2.toks) .nil (Nat.zero_le _)
 have hD : H2 s2.heap.objs.size = none:=I2.fresh
 have fo : ∀ b∈fp,b < s2.heap.objs.size:=fun b hb=>by obtain ⟨o,e,_⟩:=T.obj _ _ st2 b hb; exact Heap.lt_size e
 have up : ∀ {b : Addr},b∈fp→upd H2 s2.heap.objs.size (.lst []) b = H2 b:=fun {b} hb=>aD (Nat.ne_of_lt (fo b hb))
 have f3 : ∀ b∈fp,FpOk X pins (upd H2 s2.heap.objs.size (.lst [])) b:=fun b hb=>⟨by rw [up hb]; exact (f2 b hb).1,(f2 b hb).2⟩
 have hsz : (s2.heap.push { cls:=.type "list",data:=.seq ([] : List Value).toArray }).objs.size = s2.heap.objs.size + 1:=by rw [Heap.size_push]
 generalize hs3 : ({ s2 with heap:=s2.heap.push { cls:=.type "list",data:=.seq ([] : List Value).toArray } } : Shared) = s3 at I3 ⊢
 have hh3 : s3.heap = s2.heap.push { cls:=.type "list",data:=.seq ([] : List Value).toArray }:=by rw [← hs3]
 have fo3 : ∀ b∈fp,b < s3.heap.objs.size:=fun b hb=>by rw [hh3,hsz]; exact Nat.lt_succ_of_lt (fo b hb)
 have hsz3 : (s3.heap.push { cls:=.type "dict",data:=.dict #[] }).objs.size = s3.heap.objs.size + 1:=Heap.size_push ..
 have hnew : ∀ x c,(cellsFrom (s3.heap.objs.size + 1) scope.names cl).lookup x = some c→cl.lookup x = some c∨(s3.heap.objs.size < c∧(pushCells (s3.heap.push { cls:=.type "dict",data:=.dict #[] }) scope.names).IsCell c none):=fun x c e=>by
  rw [← hsz3] at e
  rcases lJ _ _ _ _ _ e with z | ⟨z1,z2⟩
  ·exact .inl z
  ·exact .inr ⟨by rw [hsz3] at z1; exact z1,z2⟩
 have hns₁:=(Heap.Ns.new s3.heap (.type "dict")).keeps (pushCells_keeps scope.names _)
 have keep : ∀ b o,s3.heap.get? b = some o→(pushCells (s3.heap.push { cls:=.type "dict",data:=.dict #[] }) scope.names).get? b = some o:=fun b o e=>pushCells_keeps _ _ b o (Heap.get?_push_of_some _ e)
 generalize hh1 : pushCells (s3.heap.push { cls:=.type "dict",data:=.dict #[] }) scope.names = h₁ at hnew hns₁ keep ⊢
 have IB : Inv (blk X NB scope (cellsFrom (s3.heap.objs.size + 1) scope.names cl) s3.heap.objs.size s3 (upd H2 s2.heap.objs.size (.lst [])) fp) [] (cSt src σ) (upd H2 s2.heap.objs.size (.lst [])) { s3 with heap:=h₁,toks:=s3.toks } :=
  aBS I3 S c1 c2 f3 fo3 hns₁ keep hnew
 have stB : tn 0 h₁:=T.keep 0 s2.heap h₁ st2 fun b hb o e=>keep b o (by rw [hh3]; exact Heap.get?_push_of_some _ e)
 have fB : ∀ b∈fp,FpOk (blk X NB scope (cellsFrom (s3.heap.objs.size + 1) scope.names cl) s3.heap.objs.size s3 (upd H2 s2.heap.objs.size (.lst [])) fp) [] (upd H2 s2.heap.objs.size (.lst [])) b:=fun b hb=>by
  refine ⟨(f3 b hb).1,Nat.ne_of_lt (fo3 b hb),fun z=>?_,.inl hb,fun x c e=>(IB.ok.exf b hb).2 x c e,fun p hp=>absurd (show p∈([] : List (Addr × Obj)) from hp) (by simp)⟩
  rcases List.mem_cons.mp (I3.stkSub b z) with e | e
  ·exact (f3 b hb).2.1 e
  ·exact (f3 b hb).2.2.1 e
 have loop : codeAny (model X.prog X.w) X.A (.compLoop (.ListComp elt [⟨tg,iter,ifs,0⟩] scope pos) 0 (.ref it) (.ref s2.heap.objs.size) (compEnvC scope (cellsFrom (s3.heap.objs.size + 1) scope.names cl) s3.heap.objs.size X.env)) (RR (.ref s2.heap.objs.size) s3.heap.objs.size)
   { s3 with heap:=h₁,toks:=s3.toks }:=by
  refine yT (B:=blk X NB scope (cellsFrom (s3.heap.objs.size + 1) scope.names cl) s3.heap.objs.size s3 (upd H2 s2.heap.objs.size (.lst [])) fp) rfl hc T (hg _ _ _ _ _) (ht _ _ _ _ _) (he _ _ _ _ _) IB stB fB (hw _ hD) fun σ' H' s' J' q=>?_
  obtain ⟨m,hm,_⟩:=J'.loc
  exact hR _ _ H' s' (I3.fpOk (Nat.le_refl _) J'.free) (I3.unblk J' f3) ⟨m,hm⟩ q
 exact codeAny_compStart_list loop (T.self _ 0 _ _ _ stB loop)
theorem cZ (S : fR NB src scope X) (hc : X.calm = true) (hi : PI X tg iter wi) (hg : ∀ cl C s₃ H₃ fp,PG (blk X NB scope cl C s₃ H₃ fp) tg g) (ht : ∀ cl C s₃ H₃ fp,PTs (blk X NB scope cl C s₃ H₃ fp) ifs tt)
  (he : ∀ cl C s₃ H₃ fp,PE (blk X NB scope cl C s₃ H₃ fp) elt te) (hs : ∀ x,foldedSetIterable iter X.env x = pure x:=by intro _; rfl) : PE X (.ListComp elt [⟨tg,iter,ifs,0⟩] scope pos) (aBr src wi g tt te):=by
 intro pins s σ H Q I h
 obtain ⟨cl,hcl,c1,c2⟩:=kP I.ok S
 rw [eval_ListComp]
 refine wpAny_comprehension_free (use:=none) (cl:=cl) rfl hs hcl S.kind S.names (thn (hi pins s σ H _ I h) fun v s1 h1=>thn h1 fun itv s2 h2=>?_)
 obtain ⟨it,fp,tn,J,H2,e,I2,T,st2,f2,hw⟩:=h2
 subst e
 refine oC (RR:=fun acc C=>compPost (model X.prog X.w) X.A X.xe none (EP X pins σ Q) acc C) S hc c1 c2 hg ht he I2 T st2 f2 hw fun D C H' s' fC I' hm q=>?_
 obtain ⟨m,hm⟩:=hm
 refine ⟨m,hm,fun h' sb=>⟨.ref D,H',?_,rfl,q⟩⟩
 obtain ⟨g0,g1,_,g3,g4,g5⟩:=fC
 exact I'.turned (t':=s'.toks) (fun b o hb e=>(sb.2 b hb).trans e) g0 g1 g3 g4 g5
theorem eB {i : Nat} {y : Str} {py spos : Pos} (S : fR NB src scope X) (hc : X.calm = true) (hi : PI X tg iter wi) (hg : ∀ cl C s₃ H₃ fp,PG (blk X NB scope cl C s₃ H₃ fp) tg g) (ht : ∀ cl C s₃ H₃ fp,PTs (blk X NB scope cl C s₃ H₃ fp) ifs tt)
  (he : ∀ cl C s₃ H₃ fp,PE (blk X NB scope cl C s₃ H₃ fp) elt te) (hN : X.N.Nodup) (hix : X.N[i]? = some y) (hy : X.env.scope.names.lookup y = some .local)
  (hsw : swapsWith (.ListComp elt [⟨tg,iter,ifs,0⟩] scope pos) (some (.Name y py)) spos.line X.env = pure true) (hs : ∀ x,foldedSetIterable iter X.env x = pure x:=by intro _; rfl) :
  PS X (.Assign [.Name y py] (.ListComp elt [⟨tg,iter,ifs,0⟩] scope pos) spos) (tAsg (aBr src wi g tt te) (bG i)):=by
 intro pins s σ H D0 I h
 obtain ⟨cl,hcl,c1,c2⟩:=kP I.ok S
 rw [exec_Assign_Name_used _ _ _ _ hsw]
 refine wpAny_bind (wpAny_standAt (wpAny_bind ?_))
 show wpAny _ X.A (do let _ ← comprehension (.ListComp elt [⟨tg,iter,ifs,0⟩] scope pos) scope X.env _ (newList []) false (eval iter X.env) (some (assign (.Name y py) X.env))) _ _ s
 refine wpAny_bind (wpAny_mono (wpAny_comprehension_free (use:=some (assign (.Name y py) X.env)) (Q:=fun _ s'=>SP X pins D0 .next s') (cl:=cl) rfl hs hcl S.kind S.names
  (thn (hi pins s σ H _ I h) fun v s1 h1=>thn h1 fun itv s2 h2=>?_)) (fun _ s' hq=>wpAny_pure (wpAny_pure hq)) fun _ _ e=>e)
 obtain ⟨it,fp,tn,J,H2,e,I2,T,st2,f2,hw⟩:=h2
 subst e
 refine oC (RR:=fun acc C=>compPost (model X.prog X.w) X.A X.xe (some (assign (.Name y py) X.env)) (fun _ s'=>SP X pins D0 .next s') acc C) S hc c1 c2 hg ht he I2 T st2 f2 hw fun D C H' s' fC I' hm q=>?_
 obtain ⟨m,hm⟩:=hm
 obtain ⟨g0,g1,_,g3,g4,g5⟩:=fC
 show wpAny _ X.A (assign (.Name y py) X.env (.ref D)) _ _ _
 refine wpAny_assign_Name (qN I' hN hix (.inl hy) (v:=.ref D) rfl (fun s'' I'' sb=>?_) (.inr hy))
 obtain ⟨a,sb,ha⟩:=sb
 have hne : C ≠ a:=by
  rcases ha with z | z
  ·rw [z]; exact g1
  ·exact fun z'=>g4 y a z z'.symm
 refine ⟨m,hm.sameBut sb hne,fun h' sb'=>⟨_,H',I''.turned (t':=s''.toks) (fun b o hb e=>(sb'.2 b hb).trans e) g0 g1 g3 g4 g5,q⟩⟩
end
end L2
namespace L2
open PySem PySem.Spec PyProof.Rows
section
variable {P : Program} {w : World} {K : PySem.W.Frag} {mg : Str→Option Value} {base : Heap} {N : List Str} {qual : Str} {scope : Scope} {f : Addr} {cd : Value} {A : Around} {outer : List Env} {s : Shared} {H : Hp} {E : XK}
end
end L2
namespace L2
open PySem PySem.Spec PyProof.Rows PySem.W
abbrev bmV : List Value:=[.type "ValueError",.type "Exception",.type "BaseException",.type "object"]
structure ECls (K : PySem.W.Frag) (C : Addr) : Prop where
 ex : PySem.W.excIn K C bmV "ValueError.__new__" = true
 kp : PySem.W.keepIn K (.ref C) = true
 ga : PySem.W.findIn K (.ref C) "__getattribute__" = some (some (.builtin "BaseException.__getattribute__"))
 gt : PySem.W.findIn K (.ref C) "__getattr__" = some none
 cl : PySem.W.findIn K (.ref C) "__class__" = some (some (.builtin "object.__class__"))
 mo : PySem.W.mroIn K C (.type "object") = some true
 mb : PySem.W.mroIn K C (.type "BaseException") = some true
 ty : (PySem.W.clsIn K C).isSome = true
def IsX (p : Addr) (C : Value) (h : Heap) : Prop:=∃ o,h.get? p = some o∧o.cls = C
abbrev excO (p : Addr) (C : Value) : HO:=.ext (IsX p C)
theorem bH.get {P : Program} {w : World} {H : Hp} {h : Heap} {a : Addr} {o : HO} (x : bH P w H h a o) : ∃ u,h.get? a = some u:=by
 cases o with
 | lst xs=>obtain ⟨_,_,_,_,e⟩:=x; exact ⟨_,e⟩
 | tup xs=>obtain ⟨_,_,_,ob,e,_⟩:=x; exact ⟨_,e⟩
 | dK kvs=>obtain ⟨_,_,_,_,o,_,_,e,_⟩:=x; exact ⟨_,e⟩
 | dT kvs=>obtain ⟨_,_,_,_,o,_,_,e,_⟩:=x; exact ⟨_,e⟩
 | set S n=>obtain ⟨o,_,_,_,e,_⟩:=x; exact ⟨_,e⟩
 | ins C dx fs=>obtain ⟨_,_,_,e,_⟩:=x; exact ⟨_,e⟩
 | own y=>exact x
 | xd fs=>obtain ⟨_,⟨_,_,_,e,_⟩,_⟩:=x; exact ⟨_,e⟩
 | rng lo hi=>obtain ⟨_,_,_,e⟩:=x; exact ⟨_,e⟩
 | frz ob u=>obtain ⟨e,_⟩:=x; exact ⟨_,e⟩
 | tbl ps=>exact ⟨_,(show h.get? a = some _ from x)⟩
 | met f y=>exact ⟨_,(show h.get? a = some _ from x)⟩
 | ext φ=>exact x.2.1
theorem HOk.freshN {P : Program} {w : World} {H : Hp} {h : Heap} {a : Addr} (x : HOk P w H h) (e : h.get? a = none) : H a = none:=by
 cases q : H a with
 | none=>rfl
 | some u=>obtain ⟨o,z⟩:=(x a u q).get; rw [e] at z; cases z
theorem Inv.laidN {X : Cx} {pins : List (Addr × Obj)} {σ : St} {H : Hp} {s : Shared} {h' : Heap} {a : Addr} {o : HO} {t' : Nat} (I : Inv X pins σ H s) (k : ∀ b u,s.heap.get? b = some u→h'.get? b = some u) (hp : s.heap.get? a = none) (new : bH X.prog X.w (upd H a o) h' a o) :
  Inv X pins σ (upd H a o) { s with heap:=h',toks:=t' }:=by
 have hn:=I.hok.freshN hp
 have ne : ∀ b u,s.heap.get? b = some u→b ≠ a:=fun b u e z=>by rw [z,hp] at e; cases e
 refine I.un ⟨fun b u e _ _ _=>k b u e,fun b u e _ _ _=>⟨u.slots,k b u e⟩,fun b u e n _=>by rw [aD (ne b u e)]; exact n,fun b u e _=>⟨u,k b u e⟩,fun b xs e=>by rw [aD (aF e hn)]; exact e,fun b u v e=>by rw [aD (aF e hn)]; exact e,fun b ps e=>⟨#[],by rw [aD (aF e hn),e]; simp⟩⟩ fun b u e=>?_
 by_cases hb : b = a
 ·subst hb; rw [aB] at e; cases e; exact new
 ·rw [aD hb] at e
  exact (I.hok b u e).stay (fun c v _ q=>k c v q) (fun c q=>by rw [aD (aF q hn)]; exact q) fun c xs q=>by rw [aD (aF q hn)]; exact q
section
variable {prog : Program} {w : World} {A : Around} {E : Value→Shared→Prop} {s : Shared} {K : PySem.W.Frag} {x C : Addr} {ox : Obj}
theorem vL {M : Model} {h : Heap} (hx : h.get? x = some ox) (hc : ox.cls = .ref C) : PySem.W.Looks M h (typeOf (.ref x)) (.ref C):=hc ▸ (PySem.W.Looks.ld hx).andThen .now
open Builtin Builtin.ObjectAttr Builtin.Getset_descriptor in
theorem wQ {tp : Value} {R : Result→Shared→Prop} (X : K.In s.heap) (hx : s.heap.get? x = some ox) (hc : ox.cls = .ref C) (hm : PySem.W.mroIn K C (.type "object") = some true)
  (h : R (.ok (.ret (.ref C))) s) : codeAny (model prog w) A (.call (.builtin "getset_descriptor.__get__") ⟨[.builtin "object.__class__",.ref x,tp],[]⟩) R s:=by
 obtain ⟨hh,g,dr,t,os⟩:=s
 have L0:=vL (M:=model prog w) hx hc
 have L1:=looks_mroIn (M:=model prog w) X hm
 refine codeAny_call_builtin KF.slot_gs.plain KF.entry_gs (KF.slot_gs.check _ _ _ _ _ _ _ _ KF.type_class (KF.args_gs _ _ _) ?_)
 unfold Builtin.«getset_descriptor.__get__» descrGet
 rw [dga_obj]
 refine wpAny_bind (wpAny_pure ?_)
 unfold descrGetter descrCheckInstance descrNameAndClass isInstance
 simp only [KF.owner_class]
 repeat lk
 refine ⟨Code.quiet_builtin _ (by decide +kernel),codeAny_builtin KF.entry_class ?_⟩
 unfold Builtin.«object.__class__» shownTypeOf
 repeat lk
 exact h
theorem yU {tk : Tok} {Q : Fin→Shared→Prop} {h : Heap} {g d t os} (T : ECls K C) (X : K.In h) (hx : h.get? x = some ox) (hc : ox.cls = .ref C) (hq : Q (.done (.ret (.ref C))) ⟨h,g,d,t,os⟩) :
  wpAny (model prog w) A (Builtin.«object.__getattribute__» ⟨[.ref x,.str "__class__" tk],[]⟩) Q E ⟨h,g,d,t,os⟩:=by
 have f5:=F.typeOf_bexc_args
 have hT5 : (⟨h,g,d,t,os⟩ : Shared).TypeIs (.builtin "object.__class__") "getset_descriptor" := PySem.F.typeOf_object_class
 have f5':=PySem.F.typeOf_object_class
 have f6:=F.slot_gs_get.lookup
 have f7:=F.slot_gs_set.lookup
 have L1:=looks_findIn (M:=model prog w) X T.cl
 repeat (any_goals (first | assumption | (with_reducible refine wpAny_loadPart_at hx ?_; rw [hc]) | with_reducible refine L1.at ?_ | wp_step))
 refine wQ (s:=⟨h,g,d,t,os⟩) X hx hc T.mo ?_
 repeat (any_goals (first | assumption | wp_step))
theorem yV {M : Model} {nameV : Value} {Q : Unit→Shared→Prop} {h : Heap} {g d t os} (T : ECls K C) (X : K.In h) (hx : h.get? x = some ox) (hc : ox.cls = .ref C) (hq : Q () ⟨h,g,d,t,os⟩) :
  wpAny M A (checkBuiltinCall "BaseException.__getattribute__" ⟨[.ref x,nameV],[]⟩) Q E ⟨h,g,d,t,os⟩:=by
 have hk : builtinKind "BaseException.__getattribute__" = some .slot:=by decide +kernel
 have hsplit : splitId "BaseException.__getattribute__" = some ("BaseException", "__getattribute__"):=by decide +kernel
 have ha:=F.args_bexc_ga (.ref x) nameV
 have L1:=looks_mroIn (M:=M) X T.mb
 simp only [checkBuiltinCall,hk,hsplit]
 refine wpAny_bind ?_
 ·unfold isInstance
  repeat (first | (with_reducible refine wpAny_loadPart_at hx ?_; rw [hc]) | with_reducible refine L1.at ?_ | wp_step)
  exact hq
theorem aCZ {tk : Tok} {fill expr : Bool} {Q : Value→Shared→Prop} {h : Heap} {g d t os} (T : ECls K C) (X : K.In h) (hx : h.get? x = some ox) (hc : ox.cls = .ref C) (hq : Q (.ref C) ⟨h,g,d,t,os⟩) :
  wpAny (model prog w) A (getAttrBy (.ref x) (.str "__class__" tk) fill expr) Q E ⟨h,g,d,t,os⟩:=by
 have f3:=F.attr_ValueError.ga.bind (.ref x)
 have hx0 : (expr && onTheHeap (Value.builtin "BaseException.__getattribute__")) = false:=by cases expr <;> rfl
 have hx2 : (Value.builtin "BaseException.__getattribute__" == Value.builtin "object.__getattribute__") = false:=by decide +kernel
 have hx1 : (onTheHeap (Value.ref C) && Value.builtin "BaseException.__getattribute__" == Value.builtin "object.__getattribute__") = false:=by rw [hx2]; rfl
 have L1:=looks_findIn (M:=model prog w) X T.ga
 have L2:=looks_findIn (M:=model prog w) X T.gt
 repeat (any_goals (first | assumption | (with_reducible refine wpAny_loadPart_at hx ?_; rw [hc]) | with_reducible refine L1.at ?_ | with_reducible refine L2.at ?_ | wp_step))
 refine codeAny_call_builtin F.attr_ValueError.ga.plain F.entry_bexc_ga (yV T X hx hc (yU T X hx hc ?_))
 repeat (any_goals (first | assumption | wp_step))
theorem aAK {Q : Option Value→Shared→Prop} {h : Heap} {g d t os} (T : ECls K C) (X : K.In h) (hx : h.get? x = some ox) (hc : ox.cls = .ref C) (hq : Q (some (.ref C)) ⟨h,g,d,t + 1,os⟩) :
  wpAny (model prog w) A (getAttr? (.ref x) "__class__") Q E ⟨h,g,d,t,os⟩:=by
 unfold getAttr?
 repeat (any_goals (first | assumption | with_reducible apply aCZ T X hx hc | wp_step))
theorem aAL (T : ECls K C) : PySem.W.KitX K (.ref x) (.ref C) (IsX x (.ref C)) where
 ty:=fun _ _ _ ⟨o,e,c⟩=>vL e c
 it:=fun _ _ X _=>by
  obtain ⟨cdD,hcD⟩:=Option.isSome_iff_exists.mp T.ty
  unfold clsIn at hcD
  split at hcD
  ·rename_i c' d' cd' sl' ho
   intro A' Q' E' s' k q
   unfold isType loadHead
   exact wpAny_bind (wpAny_loadPart (k _ _ (X _ _ ho)) (wpAny_pure q))
  ·cases hcD
 ne:=fun h tp dd its n sl X htp=>by
  obtain ⟨cdD,hcD⟩:=Option.isSome_iff_exists.mp T.ty
  refine Bool.eq_false_iff.mpr fun q=>?_
  have e : C = tp:=Value.ref.inj (beq_iff_eq.mp q)
  subst e
  unfold clsIn at hcD
  split at hcD
  ·rename_i c' d' cd' sl' ho
   have z:=(X _ _ ho).symm.trans htp
   cases z
  ·cases hcD
 ca:=fun {_ _ _ _ _ s} X ⟨o,e,c⟩ k=>by
  obtain ⟨h,g,d,t,os⟩:=s
  exact aAK T X e c k
end
section
variable {X : Cx}
inductive TyX (K : PySem.W.Frag) (H : Hp) : V→Value→Prop where
 | of {v : V} {t : Value} (h : TyOf K H v t) : TyX K H v t
 | exc {p C : Addr} (T : ECls K C) (e : H p = some (excO p (.ref C))) : TyX K H (.ref p) (.ref C)
def rIsi (K : PySem.W.Frag) : List V→Hp→VK→Prop:=fun xs H Q=>∃ x c cv t b,xs = [x,c]∧(c = .ty cv∧PySem.W.kitOne K t (.type cv) = some b)∧TyX K H x t∧Q (.bl b) H
theorem eU : cY X (.builtin "isinstance") (rIsi X.K):=by
 intro pins s σ H xs us Q I r h
 obtain ⟨x,c,cv,t,b,rfl,⟨rfl,e⟩,ty,q⟩:=h
 obtain ⟨u1,u2,rfl,r1,r2⟩:=r.two
 obtain rfl : u2 = Value.type cv:=r2
 cases ty with
 | of ty=>exact yN I r1 ty e fun tk=>⟨.bl b,H,I.tok tk,rfl,q⟩
 | @exc p C T ea =>
  obtain rfl : u1 = Value.ref p:=r1
  have p1 : IsX p (.ref C) s.heap:=(I.hok p _ ea).1
  exact PySem.W.kia_one (aAL T) I.kIn p1 e (fun z=>nomatch z) fun tk=>⟨.bl b,H,I.tok tk,rfl,q⟩
end
section
variable {X : Cx} {x : Str} {C : Addr} {np cpos pos : Pos} {e : Expr} {es : List Expr} {t : TA}
end
end L2
namespace L2
open PySem PySem.Spec PyProof.Rows
section
variable {X : Cx} {CX : CXT} {k : Nat} {f C : Addr} {fd : FuncData} {ps : List Str} {sp : Sp} {dvs : List V} {ds : List Value} {E : St→XK} {x m : Str} {p pos apos : Pos} {e o : Expr} {es : List Expr} {ta : TE} {t : TA}
end
section
variable {X : Cx} {CX : CXT} {k : Nat} {f : Addr} {fd : FuncData} {ps : List Str} {sp : Sp} {dvs : List V} {ds : List Value} {E : XK} {x : Str} {p pos : Pos} {e : Expr} {es : List Expr} {t : TA}
end
section
variable {P : Program} {w : World} {K : PySem.W.Frag} {mg : Str→Option Value} {base : Heap}
end
end L2
namespace L2
open PySem PySem.Spec PyProof.Rows
section
variable {X : Cx} {pins : List (Addr × Obj)} {σ : St} {H : Hp} {s : Shared}
end
end L2
namespace L2
open PySem PySem.Spec PyProof.Rows PySem.W
theorem aBT {h : Heap} {a : Addr} {m m' : Str→Option Value} (x : h.Ns a m) (y : h.Ns a m') : m = m':=by
 obtain ⟨o,es,ep,e,d,_,q⟩:=x
 obtain ⟨o',es',ep',e',d',_,q'⟩:=y
 rw [e] at e'; cases e'
 rw [d] at d'; cases d'
 funext z
 rw [← q z,q' z]
theorem Inv.fromK {X : Cx} {pins : List (Addr × Obj)} {σ : St} {H : Hp} {s : Shared} {h' : Heap} {m : Str→Option Value} {D : Addr} {o : HO} {t' : Nat} (I : Inv X pins σ H s) (F : Fr X.base X.env.locals s.heap m) (F' : Fr X.base X.env.locals h' m)
  (N' : News X.base X.env.locals h' (gN X.base s.heap X.env.locals)) (hD : s.heap.get? D = none) (new : bH X.prog X.w (upd H D o) h' D o) : Inv X pins σ (upd H D o) { s with heap:=h',toks:=t' }:=by
 have hn:=I.hok.freshN hD
 have ne : ∀ b u,s.heap.get? b = some u→b ≠ D:=fun b u e z=>by rw [z,hD] at e; cases e
 have keep : ∀ b u,b ≠ X.env.locals→s.heap.get? b = some u→h'.get? b = some u:=fun b u hb e=>by
  cases q : X.base.get? b with
  | some v =>
   have:=I.bk b v q
   rw [e] at this; cases this
   exact F'.keep b _ q
  | none=>exact (N' (b,u) (kA hb q e)).1
 refine I.step (g':=s.gens) (d':=s.drawn) (ch:=[]) (fun _ z=>absurd z (by simp)) (fun b u hb _ _ e _=>keep b u hb e) (fun b u hb _ _ e _=>⟨u.slots,keep b u hb e⟩) (fun b u _ e n=>by rw [aD (ne b u e)]; exact n) (fun b u _ e=>?_)
  (fun b xs e=>by rw [aD (aF e hn)]; exact e) (fun b u v e=>by rw [aD (aF e hn)]; exact e) (fun b ps e=>⟨#[],by rw [aD (aF e hn),e]; simp⟩) (fun m1 hm=>by rw [aBT hm F.ns]; exact F'.ns) (fun b u e=>?_) I.bare
 ·by_cases hb : b = X.env.locals
  ·obtain ⟨o',_,_,q,_⟩:=F'.ns
   exact ⟨o',by rw [hb]; exact q⟩
  ·exact ⟨u,keep b u hb e⟩
 ·by_cases hb : b = D
  ·subst hb; rw [aB] at e; cases e; exact new
  ·rw [aD hb] at e
   refine (I.hok b u e).stay (fun c v hc q=>keep c v ?_ q) (fun c q=>by rw [aD (aF q hn)]; exact q) fun c xs q=>by rw [aD (aF q hn)]; exact q
   rintro rfl
   rcases hc with z | hc
   ·have f:=I.free; rw [z,e] at f; cases f
   ·rw [I.free] at hc; cases hc
theorem rP {X : Cx} {pins : List (Addr × Obj)} {σ : St} {H : Hp} {s : Shared} {h' : Heap} {D : Addr} {o : Obj} (I : Inv X pins σ H s) (N : News X.base X.env.locals h' ((D,o) :: gN X.base s.heap X.env.locals)) (hlt : ∀ q∈gN X.base s.heap X.env.locals,q.1 < D) : s.heap.get? D = none:=by
 cases e : s.heap.get? D with
 | none=>rfl
 | some u =>
  obtain ⟨_,n1,n2⟩:=N (D,o) List.mem_cons_self
  exact absurd (hlt (D,u) (kA n1 n2 e)) (Nat.lt_irrefl _)
end L2
namespace L2
open PySem PySem.Spec PyProof.Rows PySem.W
def yW (K : PySem.W.Frag) (H : Hp) (a : Addr) (y : Int × Int) : Prop:=SqT K H a [.int y.1,.int y.2]
section
variable {X : Cx}
theorem wR {pins : List (Addr × Obj)} {σ : St} {H : Hp} {s : Shared} {a : Addr} {y : Int × Int} (I : Inv X pins σ H s) (h : yW X.K H a y) : ∃ o n t u,s.heap.get? a = some o∧o.cls = .type "tuple" ∧ o.data = .seq #[.int y.1 t,.int y.2 u] n:=by
 obtain ⟨its,r,p,_⟩:=I.tuple h
 obtain ⟨u1,u2,rfl,r1,r2⟩:=r.two
 obtain ⟨t,rfl⟩:=r1
 obtain ⟨t',rfl⟩:=r2
 obtain ⟨o,e,c,n,d⟩:=p
 exact ⟨o,n,t,t',e,c,d⟩
end
end L2
namespace L2
open PySem PySem.Spec PyProof.Rows PySem.W
def hAt (hs : Array Int) (i : Nat) : Int:=(hs[i]?).getD 0
def eQ (hs : Array Int) (t : SetTable) (h : Int) : Option (Array Int × SetTable) :=
 if t.gaveWay then none else
 match t.probe (hAt hs) h (t.probeStart h) with
 | some (.empty j none) =>
  let q:=t.put j
  let hs1:=SetTable.insertAt hs q.2 h
  if q.1.fits hs1.size && decide (hs1.size ≤ 4096) then
   if q.1.tooFull then
    (match q.1.relaid hs1 (SetTable.grown (hs.size + 1)) with
    | some (t2,order) =>
     let hs2:=order.filterMap (hs1[·]?)
     if hs2.size == hs1.size && t2.fits hs2.size && decide (SetTable.sizeAbove (SetTable.grown (hs.size + 1)) ≤ 4096) then some (hs2,t2) else none
    | none=>none)
   else some (hs1,q.1)
  else none
 | _=>none
def oE (led : Bool) : List Int→Option (Array Int × SetTable):=fun l=>l.foldlM (fun q h=>eQ q.1 q.2 h) (#[],SetTable.fresh 0 0 led)
def gH (h : Heap) (S : Addr) (hs : Array Int) (t : SetTable) : Prop:=∃ o es ep,h.get? S = some o∧o.cls = .type "set" ∧ (o.dict = none∧o.slots = #[])∧o.data = .set es ep t∧es.map (·.1) = hs∧t.fits es.size = true
section
variable {prog : Program} {w : World} {A : Around} {E : Value→Shared→Prop} {s : Shared} {S : Addr}
theorem aC0 (es : Array (Int × Value)) : (fun i=>(es[i]?.map (·.1)).getD 0) = hAt (es.map (·.1)):=by
 funext i
 unfold hAt
 rw [Array.getElem?_map]
theorem lL (es : Array (Int × Value)) (p : Nat) (x : Int × Value) : (SetTable.insertAt es p x).map (·.1) = SetTable.insertAt (es.map (·.1)) p x.1:=by
 unfold SetTable.insertAt
 simp
theorem lM (es : Array (Int × Value)) (order : Array Nat) : (order.filterMap (es[·]?)).map (·.1) = order.filterMap ((es.map (·.1))[·]?):=by
 apply Array.ext'
 rw [Array.toList_map,Array.toList_filterMap,Array.toList_filterMap,List.map_filterMap]
 congr 1
 funext i
 rw [Array.getElem?_map]
theorem wS {hs : Array Int} {t : SetTable} {h : Int} {x : Value} {j : Nat} {Q : SetFound→Shared→Prop} (hS : gH s.heap S hs t) (hg : t.gaveWay = false) (hp : t.probe (hAt hs) h (t.probeStart h) = some (.empty j none)) (q : Q (.free j false) s) :
  wpAny (model prog w) A (setSearch S x h true) Q E s:=by
 obtain ⟨o,es,ep,ho,hc,hdi,hd,hm,hf⟩:=hS
 unfold setSearch setSearchFrom
 refine wpAny_bind (wpAny_setState_of ho hd hf ?_)
 dsimp only
 rw [hg,if_neg Bool.false_ne_true]
 have hp' : t.probe (fun i=>(es[i]?.map (·.1)).getD 0) h (t.probeStart h) = some (.empty j none):=by rw [aC0,hm]; exact hp
 refine wpAny_bind (wpAny_pure ?_)
 erw [hp']
 exact wpAny_pure q
theorem yX {a : Addr} {o : Obj} {n : Nat} {x y : Int} {t u : Tok} {Q : Bool→Shared→Prop} (ho : s.heap.get? a = some o) (hc : o.cls = .type "tuple") (hd : o.data = .seq #[.int x t,.int y u] n) (q : Q true s) :
  wpAny (model prog w) A (hashByValue 8 (.ref a)) Q E s:=by
 have hT : s.TypeIs (.ref a) "tuple" := ⟨_,ho,hc⟩
 unfold hashByValue
 refine wpAny_bind (wpAny_specialOf hT PySem.F.slot_tuple_hash.lookup ?_)
 refine wpAny_bind (wpAny_seqItems ho hd ?_)
 refine wpAny_bind ?_
 show wpAny _ _ (forIn #[Value.int x t,Value.int y u] _ _) _ _ s
 rw [← Array.forIn_toList]
 refine wpAny_forIn_list _ (fun rest r s'=>r.1 = none∧s' = s∧∀ v∈rest,∃ z k,v = Value.int z k) _ ?_ ?_ _ _ ⟨rfl,rfl,fun v hv=>?_⟩
 ·rintro v rest r s' ⟨hr,rfl,hall⟩
  obtain ⟨z,k,rfl⟩:=hall v List.mem_cons_self
  refine wpAny_bind (wpAny_pure ?_)
  exact wpAny_pure ⟨rfl,rfl,fun u' hu'=>hall u' (List.mem_cons_of_mem _ hu')⟩
 ·rintro ⟨r1,r2⟩ s' ⟨hr,rfl,_⟩
  have hr' : r1 = none:=hr
  subst hr'
  exact wpAny_pure q
 ·rcases List.mem_cons.mp hv with z | z
  ·exact ⟨_,_,z⟩
  ·rcases List.mem_cons.mp z with z | z
   ·exact ⟨_,_,z⟩
   ·cases z
theorem vM {hs : Array Int} {t t' : SetTable} {es' : Array (Int × Value)} (hS : gH s.heap S hs t) (hf : t'.fits es'.size = true) (hz : es'.size ≤ 4096) {Q : Unit→Shared→Prop}
  (q : ∀ h',Heap.SameBut S s.heap h'→gH h' S (es'.map (·.1)) t'→Q () { s with heap:=h' }) : wpAny (model prog w) A (storeSet S es' t') Q E s:=by
 obtain ⟨o,es,ep,ho,hc,hdi,hd,hm,_⟩:=hS
 refine wpAny_storeSet_of ho hd (q _ (Heap.SameBut.update s.heap S (Obj.putSet es' t')) ?_) (Nat.le_trans hz (by decide))
 have g:=Heap.get?_update_self (Obj.putSet es' t') ho (by rw [putSet_of es' t' hd]; rfl)
 rw [putSet_of es' t' hd] at g
 exact ⟨_,es',ep + 1,g,hc,hdi,rfl,rfl,hf⟩
theorem aBU {hs hs' : Array Int} {t t' : SetTable} {a : Addr} {o : Obj} {n : Nat} {x y : Int} {tx ty : Tok} {Q : Bool → Shared → Prop} (hu : A.units < cLine) (hS : gH s.heap S hs t) (ho : s.heap.get? a = some o) (hc : o.cls = .type "tuple") (hd : o.data = .seq #[.int x tx, .int y ty] n) (hne : a ≠ S)
    (hst : eQ hs t (tupleKeyHash (intKind prog w) [x, y]) = some (hs', t')) (q : ∀ h' tk, Heap.SameBut S s.heap h' → gH h' S hs' t' → Q true { s with heap := h', toks := tk }) : wpAny (model prog w) A (setAdd S (.ref a)) Q E s := by
  have hk : IsTupleKey (intKind prog w) s.heap [x, y] a := ⟨o, _, n, ho, hc, hd, .cons (intKind_is _ _ _ _) (.cons (intKind_is _ _ _ _) .nil)⟩
  unfold setAdd
  refine wpAny_holding (wpAny_bind (wpAny_pyHash_tuple hu hk ?_))
  generalize htk : s.toks + ([x, y].length + 1) = tk
  generalize hh : tupleKeyHash (intKind prog w) [x, y] = h at hst ⊢
  have hS0 := hS
  obtain ⟨ob, es, ep, hb, hbc, hbd, hbe, hm, hf⟩ := hS
  unfold setAddHashed setAddHashedIn
  refine wpAny_holding (wpAny_bind (wpAny_setState_of (s := { s with toks := tk }) hb hbe hf ?_))
  dsimp only
  have hbs : byScan (.ref a) es = false := by unfold byScan; rfl
  rw [hbs, if_neg Bool.false_ne_true]
  unfold eQ at hst
  cases hg : t.gaveWay with
  | true => rw [hg, if_pos rfl] at hst; cases hst
  | false =>
    rw [hg, if_neg Bool.false_ne_true] at hst
    split at hst
    · rename_i j hp
      dsimp only at hst
      split at hst
      · rename_i hfz
        rw [Bool.and_eq_true, decide_eq_true_eq] at hfz
        refine wpAny_bind (wS (s := { s with toks := tk }) hS0 hg hp ?_)
        dsimp only
        refine wpAny_bind (wpAny_setState_of (s := { s with toks := tk }) hb hbe hf ?_)
        dsimp only
        have byv : ∀ {kk : Bool → Sem Bool}, wpAny (model prog w) A (kk true) Q E { s with toks := tk } → wpAny (model prog w) A (if (t.put j).1.plain = true then hashByValue 8 (.ref a) >>= kk else pure true >>= kk) Q E { s with toks := tk } := fun {kk} hP => by
          split
          · exact wpAny_bind (yX (s := { s with toks := tk }) ho hc hd hP)
          · exact wpAny_bind (wpAny_pure hP)
        refine byv ?_
        simp only [if_true]
        have hsz : (SetTable.insertAt es (t.put j).2 (h, Value.ref a)).size = (SetTable.insertAt hs (t.put j).2 h).size := by
          rw [← hm, ← lL es (t.put j).2 (h, Value.ref a), Array.size_map]
        refine wpAny_bind (vM (s := { s with toks := tk }) hS0 (by rw [hsz]; exact hfz.1) (by rw [hsz]; exact hfz.2) fun h1 sb1 S1 => ?_)
        rw [lL, hm] at S1
        split at hst
        · rename_i htf
          rw [show (!false && (t.put j).1.tooFull) = true by rw [htf]; rfl, if_pos rfl]
          split at hst
          · rename_i t2 order hr
            split at hst
            · rename_i hq
              rw [Bool.and_eq_true, Bool.and_eq_true, decide_eq_true_eq, beq_iff_eq] at hq
              obtain ⟨⟨hq1, hq2⟩, hq3⟩ := hq
              cases hst
              have hes : es.size = hs.size := by rw [← hm, Array.size_map]
              refine wpAny_bind ?_
              unfold setRelay
              obtain ⟨o1, es1, ep1, g1, g2, g3, g4, g5, g6⟩ := id S1
              refine wpAny_bind (wpAny_setState_of (s := { s with heap := h1, toks := tk }) g1 g4 g6 ?_)
              dsimp only
              rw [hes]
              rw [if_neg (by have h4 : (4096 : Nat) ≤ sizeLine := by decide
                             omega)]
              refine wpAny_bind ?_
              rw [g5, hr]
              have hsz2 : (order.filterMap (es1[·]?)).size = es1.size := by
                have e1 := congrArg Array.size (lM es1 order)
                rw [Array.size_map, g5] at e1
                rw [e1, hq1, ← g5, Array.size_map]
              refine wpAny_of_eq (show _ = (pure (order.filterMap (es1[·]?), t') : Sem (Array (Int × Value) × SetTable)) from ?_) ?_
              · show (do
                  let es' := order.filterMap (es1[·]?)
                  if es'.size != es1.size then unsupported "internal:set-table-lost-an-element"
                  pure (es', t') : Sem (Array (Int × Value) × SetTable)) = _
                simp [hsz2]
              dsimp only
              have hle : es1.size ≤ 4096 := by
                have e1 := congrArg Array.size g5
                rw [Array.size_map] at e1
                rw [e1]
                exact hfz.2
              have hfm : (order.filterMap (es1[·]?)).size = (order.filterMap ((SetTable.insertAt hs (t.put j).2 h)[·]?)).size := by
                have e1 := congrArg Array.size (lM es1 order)
                rw [Array.size_map, g5] at e1
                exact e1
              refine vM (s := { s with heap := h1, toks := tk }) S1 (by rw [hfm]; exact hq2) (by rw [hsz2]; exact hle) fun h2 sb2 S2 => ?_
              rw [lM, g5] at S2
              exact wpAny_pure (q h2 tk (sb1.trans sb2) S2)
            · cases hst
          · cases hst
        · rename_i htf
          cases hst
          have htf' : (t.put j).1.tooFull = false := by simpa using htf
          rw [show (!false && (t.put j).1.tooFull) = false by rw [htf']; rfl, if_neg Bool.false_ne_true]
          exact wpAny_pure (q h1 tk sb1 S1)
      · cases hst
    · cases hst
end
end L2
namespace L2
open PySem PySem.Spec PyProof.Rows PySem.W
section
variable {prog : Program} {w : World} {A : Around} {E : Value→Shared→Prop} {s : Shared} {S Ia l : Addr} {R : Result→Shared→Prop}
def gQ (h : Heap) (vs : List Value) (ys : List (Int × Int)) : Prop:=vs.length = ys.length∧∀ i v,vs[i]? = some v→∃ a o n t u,v = .ref a∧h.get? a = some o∧o.cls = .type "tuple" ∧ o.data = .seq #[.int (ys.getD i (0,0)).1 t,.int (ys.getD i (0,0)).2 u] n
theorem gQ.keeps {h h' : Heap} {vs : List Value} {ys : List (Int × Int)} (p : gQ h vs ys) (k : ∀ b o,(∃ xs n,o.data = .seq xs n)→h.get? b = some o→h'.get? b = some o) : gQ h' vs ys :=
 ⟨p.1,fun i v e=>let ⟨a,o,n,t,u,e1,e2,c,d⟩:=p.2 i v e; ⟨a,o,n,t,u,e1,k a o ⟨_,_,d⟩ e2,c,d⟩⟩
def eC (prog : Program) (w : World) (y : Int × Int) : Int:=tupleKeyHash (intKind prog w) [y.1,y.2]
theorem aAM {vs : List Value} {ys : List (Int × Int)} {hsN : Array Int} {tN : SetTable} (hh : A.handled = none) (hu : A.units + 1 < cLine) (hlS : l ≠ S) (hlI : l ≠ Ia) (hSI : S ≠ Ia) :
  ∀ (k i : Nat) (s : Shared) (hs : Array Int) (t : SetTable),vs.length - i = k→i ≤ vs.length→s.heap.IsListIter Ia l i→s.heap.IsList l vs.toArray→gQ s.heap vs ys→gH s.heap S hs t →
   ((ys.drop i).map (eC prog w)).foldlM (fun q h=>eQ q.1 q.2 h) (hs,t) = some (hsN,tN) →
   (∀ h' tk,(∀ b o,b ≠ S→b ≠ Ia→s.heap.get? b = some o→h'.get? b = some o)→gH h' S hsN tN→R (.ok (.ret .none)) { s with heap:=h',toks:=tk }) →
   codeAny (model prog w) A (.builtin "set.update.loop" ⟨[.ref S,.ref Ia],[]⟩) R s:=by
 intro k
 induction k with
 | zero =>
  intro i s hs t hk hi hit hl hp hS hf hR
  have e : i = vs.length:=by omega
  refine codeAny_builtin PyProof.Rows.F.entry_set_update_loop ?_
  rw [Around.under_plainId PyProof.Rows.F.plain_set_update_loop _]
  show wpAny _ A.in1 (pyNext (.ref Ia) >>= _) _ _ s
  refine wpAny_bind (wpAny_pyNext_list_end (show A.in1.handled = none from hh) hit hl (by simp; omega) fun h' eb=>?_)
  show wpAny _ A.in1 (ret Value.none) _ _ _
  have hd : ys.drop i = []:=by rw [List.drop_eq_nil_iff]; have:=hp.1; omega
  rw [hd] at hf
  cases hf
  obtain ⟨o,es,ep,q1,q2⟩:=hS
  exact wpAny_pure (hR h' s.toks (fun b o hb hbI e=>eb b o hbI e) ⟨o,es,ep,eb S o hSI q1,q2⟩)
 | succ k ih =>
  intro i s hs t hk hi hit hl hp hS hf hR
  have hlt : i < vs.length:=by omega
  refine codeAny_builtin PyProof.Rows.F.entry_set_update_loop ?_
  rw [Around.under_plainId PyProof.Rows.F.plain_set_update_loop _]
  show wpAny _ A.in1 (pyNext (.ref Ia) >>= _) _ _ s
  have hv : vs[i]? = some vs[i]:=List.getElem?_eq_getElem hlt
  refine wpAny_bind (wpAny_pyNext_list_item hit hl (x:=vs[i]) (by simpa using hv) fun h1 hit1 sb1=>?_)
  obtain ⟨a,o,n,tx,ty,ea,eo,ec,ed⟩:=hp.2 i _ hv
  rw [ea]
  have neI : ∀ b ob,(∃ xs n,ob.data = .seq xs n)→s.heap.get? b = some ob→b ≠ Ia:=fun b ob ⟨xs,m,z⟩ e z'=>by
   obtain ⟨oi,e1,_,d1⟩:=hit
   rw [z',e1] at e; cases e
   rw [d1] at z; cases z
  have hp1 : gQ h1 vs ys:=hp.keeps fun b ob hb e=>(sb1.2 b (neI b ob hb e)).trans e
  have hS1 : gH h1 S hs t:=by
   obtain ⟨oS,es,ep,q1,q2⟩:=hS
   exact ⟨oS,es,ep,(sb1.2 S hSI).trans q1,q2⟩
  have hl1 : h1.IsList l vs.toArray:=by
   obtain ⟨ol,q1,q2⟩:=hl
   exact ⟨ol,(sb1.2 l hlI).trans q1,q2⟩
  have eo1 : h1.get? a = some o:=(sb1.2 a (neI a o ⟨_,_,ed⟩ eo)).trans eo
  have neS : ∀ b ob,(∃ xs n,ob.data = .seq xs n)→h1.get? b = some ob→b ≠ S:=fun b ob ⟨xs,m,z⟩ e z'=>by
   obtain ⟨oS,es,ep,q1,_,_,q4,_⟩:=hS1
   rw [z',q1] at e; cases e
   rw [q4] at z; cases z
  have hi2 : i < ys.length:=by have:=hp.1; omega
  have hdr : ys.drop i = ys[i] :: ys.drop (i + 1):=List.drop_eq_getElem_cons hi2
  have hgy : ys.getD i (0,0) = ys[i]:=by rw [List.getD_eq_getElem?_getD,List.getElem?_eq_getElem hi2]; rfl
  rw [hdr,List.map_cons,List.foldlM_cons] at hf
  cases hst : eQ hs t (eC prog w ys[i]) with
  | none=>rw [hst] at hf; cases hf
  | some q =>
   obtain ⟨hs2,t2⟩:=q
   rw [hst] at hf
   have hf2 : ((ys.drop (i + 1)).map (eC prog w)).foldlM (fun q h=>eQ q.1 q.2 h) (hs2,t2) = some (hsN,tN):=hf
   show wpAny _ A.in1 (holding [Value.ref a] (setAdd S (.ref a)) >>= _) _ _ _
   refine wpAny_bind (wpAny_holding (aBU (s:={ s with heap:=h1 }) (by show A.units + 1 < cLine; exact hu) hS1 eo1 ec ed (neS a o ⟨_,_,ed⟩ eo1) (hs':=hs2) (t':=t2) (by rw [hgy]; exact hst) fun h2 tk sb2 S2=>?_))
   refine wpAny_pure ⟨plainId_quiet PyProof.Rows.F.plain_set_update_loop _,?_⟩
   refine ih (i + 1) { s with heap:=h2,toks:=tk } hs2 t2 (by omega) hlt ?_ ?_ (hp1.keeps fun b ob hb e=>(sb2.2 b (neS b ob hb e)).trans e) S2 hf2 fun h3 tk3 k3 S3=>?_
   ·obtain ⟨oi,q1,q2⟩:=hit1
    exact ⟨oi,(sb2.2 Ia (Ne.symm hSI)).trans q1,q2⟩
   ·obtain ⟨ol,q1,q2⟩:=hl1
    exact ⟨ol,(sb2.2 l hlS).trans q1,q2⟩
   ·exact hR h3 tk3 (fun b ob hb hbI e=>k3 b ob hb hbI ((sb2.2 b hb).trans ((sb1.2 b hbI).trans e))) S3
theorem aAN {vs : List Value} {ys : List (Int × Int)} {hsN : Bool→Array Int} {tN : Bool→SetTable} {Q : Value→Shared→Prop} (hh : A.handled = none) (hu : A.units + 8 < cLine) (hl : s.heap.IsList l vs.toArray) (hp : gQ s.heap vs ys)
  (hrun : ∀ led,oE led (ys.map (eC prog w)) = some (hsN led,tN led))
  (h : ∀ (led : Bool) (h' : Heap) (tk : Nat),gH h' s.heap.objs.size (hsN led) (tN led)→(∀ b o,b < s.heap.objs.size→s.heap.get? b = some o→h'.get? b = some o)→Q (.ref s.heap.objs.size) { s with heap:=h',toks:=tk }) :
  wpAny (model prog w) A (call (.type "set") [.ref l]) Q E s:=by
 obtain ⟨c,tl,hmro⟩:=PySem.F.called_set.mro
 have c1:=PySem.F.called_set.made
 have c2:=PySem.F.called_set.sub
 refine wpAny_call (codeAny_of_tree ?_)
 show wpAny _ _ (callAny (.type "set") _) _ _ _
 refine wpAny_pure ⟨Code.quiet_builtin _ (by decide +kernel),codeAny_builtin PySem.F.entry_type_call ?_⟩
 rw [Around.under_plain (weight_type_call_type "set" [.ref l] []) rfl]
 have c3:=PySem.F.called_set.notType
 have c4:=PySem.F.called_set.canCreate
 have c5:=PySem.F.typeCall_set_1 (.ref l)
 repeat (any_goals (first | assumption | wp_step))
 refine codeAny_mono (code_set_new_1 (.ref l) (E:=E) (Q₁:=fun obj s₁=>∃ led : Bool,obj = .ref s.heap.objs.size∧s₁ = { s with heap:=s.heap.push { cls:=.type "set",dict:=none,data:=.set #[] 0 (.fresh 0 0 led) } }) fun led=>⟨led,rfl,rfl⟩) fun r s₁ hr=>?_
 cases r with
 | error e=>exact hr
 | ok fl =>
  cases fl with
  | next=>exact hr.elim
  | brk=>exact hr.elim
  | cont=>exact hr.elim
  | ret obj =>
   obtain ⟨led,rfl,rfl⟩:=hr
   generalize hpu : s.heap.push { cls:=.type "set",dict:=none,data:=.set #[] 0 (.fresh 0 0 led) } = hS
   have hsz : hS.objs.size = s.heap.objs.size + 1:=by rw [← hpu,Heap.size_push]
   have gS : hS.get? s.heap.objs.size = some { cls:=.type "set",dict:=none,data:=.set #[] 0 (.fresh 0 0 led) }:=by rw [← hpu]; exact Heap.get?_push_size _ rfl
   have up : ∀ b o,s.heap.get? b = some o→hS.get? b = some o:=fun b o e=>by rw [← hpu]; exact Heap.get?_push_of_some _ e
   have hT : Shared.TypeIs { s with heap:=hS } (.ref s.heap.objs.size) "set" := ⟨_,gS,rfl⟩
   have c6:=PySem.F.called_set.init.lookup
   have c7:=PySem.F.called_set.init.bind (.ref s.heap.objs.size)
   repeat (any_goals (first | assumption | wp_step))
   refine codeAny_mono (codeAny_call_builtin (R:=wants (fun r s₂=>r = .none∧∃ h' tk,s₂ = { s with heap:=h',toks:=tk }∧gH h' s.heap.objs.size (hsN led) (tN led) ∧
     (∀ b o,b < s.heap.objs.size→s.heap.get? b = some o→h'.get? b = some o)) E) PySem.F.called_set.init.plain PySem.F.entry_set_init (check_set_init_1 hT ?_)) fun r₂ s₂ hr₂=>?_
   ·obtain ⟨ol,hol,hcl,nl,hdl⟩:=hl
    obtain ⟨ocls,odict,odata,oslots⟩:=ol
    simp only at hcl hdl
    subst hcl; subst hdl
    have hol':=up _ _ hol
    have c8:=PySem.F.sub_list_set
    have c9:=PySem.F.sub_list_frozenset
    have c10 : (Value.type "list" == Value.type "dict") = false:=by decide
    have hl1 : hS.IsList l vs.toArray:=⟨_,hol',rfl,nl,rfl⟩
    unfold Builtin.«set.__init__» noKeywords Builtin.Frozenset.updateFrom
    generalize hPI : pyIter = PI
    wp_walk
    subst hPI
    refine wpAny_pyIter_list hl1 ?_
    refine wpAny_bind (wpAny_runValue ?_)
    have hlt : l < s.heap.objs.size:=Heap.lt_size hol
    refine aAM (l:=l) (vs:=vs) (ys:=ys) (hsN:=hsN led) (tN:=tN led) (by simp [hh]) (by simp; omega) (Nat.ne_of_lt hlt) (by rw [hsz]; exact Nat.ne_of_lt (Nat.lt_succ_of_lt hlt)) (by rw [hsz]; exact Nat.ne_of_lt (Nat.lt_succ_self _))
     (vs.length - 0) 0 _ #[] (.fresh 0 0 led) rfl (Nat.zero_le _) ⟨_,Heap.get?_push_size _ rfl,rfl,rfl⟩ (hl1.push _) (hp.keeps fun b o _ e=>Heap.get?_push_of_some _ (up b o e)) ⟨_,#[],0,Heap.get?_push_of_some _ gS,rfl,⟨rfl,rfl⟩,rfl,by simp,rfl⟩ (hrun led) fun h' tk k S'=>?_
    show wpAny _ _ _ _ _ _
    refine wpAny_pure ?_
    show wpAny _ _ (ret Value.none) _ _ _
    refine wpAny_pure ⟨rfl,h',tk,rfl,S',fun b o hb e=>?_⟩
    exact k b o (Nat.ne_of_lt hb) (by rw [hsz]; exact Nat.ne_of_lt (Nat.lt_succ_of_lt hb)) (Heap.get?_push_of_some _ (up b o e))
   ·cases r₂ with
    | error e=>exact hr₂
    | ok fl₂ =>
     cases fl₂ with
     | next=>exact hr₂.elim
     | brk=>exact hr₂.elim
     | cont=>exact hr₂.elim
     | ret r =>
      obtain ⟨rfl,h',tk,rfl,S',k⟩:=hr₂
      repeat (any_goals (first | assumption | wp_step))
      exact h led h' tk S' k
end
end L2
namespace L2
open PySem
def yY (l : List Nat) : Nat:=l.foldl (fun a x=>a ||| (1 <<< x)) 0
theorem yZ (l : List Nat) (a j : Nat) : (l.foldl (fun a x=>a ||| (1 <<< x)) a).testBit j = (a.testBit j || l.contains j):=by
 induction l generalizing a with
 | nil=>simp
 | cons x xs ih =>
  rw [List.foldl_cons,ih,Nat.testBit_or,List.contains_cons]
  have : (1 <<< x).testBit j = (j == x):=by
   rw [Nat.one_shiftLeft,Nat.testBit_two_pow]
   by_cases h : x = j
   ·simp [h]
   ·have h' : ¬ j = x:=fun e=>h e.symm
    simp [h,h']
  rw [this,Bool.or_assoc]
theorem mS {l : List Nat} {n j : Nat} (h : yY l = 2 ^ n - 1) (hj : j < n) : j∈l:=by
 have e:=yZ l 0 j
 have h' : l.foldl (fun a x=>a ||| (1 <<< x)) 0 = 2 ^ n - 1:=h
 rw [h',Nat.testBit_two_pow_sub_one] at e
 simp [hj] at e
 exact e
def orb (M : Nat) : Nat→Nat→Nat
 | 0,i=>i
 | n + 1,i=>orb M n ((i * 5 + 1) % M)
theorem mD (M a : Nat) : ∀ b i,orb M (b + a) i = orb M a (orb M b i)
 | 0,i=>by rw [Nat.zero_add]; rfl
 | b + 1,i=>by
  rw [show b + 1 + a = (b + a) + 1 by omega]
  show orb M (b + a) _ = orb M a (orb M b _)
  exact mD M a b _
def orbL (M : Nat) : Nat→Nat→List Nat
 | 0,_=>[]
 | n + 1,i=>i :: orbL M n ((i * 5 + 1) % M)
theorem nA {M j : Nat} : ∀ {n i},j∈orbL M n i→∃ k,k < n∧orb M k i = j
 | 0,_,h=>by cases h
 | n + 1,i,h=>by
  rcases List.mem_cons.mp h with z | z
  ·exact ⟨0,by omega,z.symm⟩
  ·obtain ⟨k,a,b⟩:=nA z
   exact ⟨k + 1,by omega,b⟩
structure Rnd (M : Nat) : Prop where
 all : yY (orbL M M 0) = 2 ^ M - 1
 back : orb M M 0 = 0
theorem rnd8 : Rnd 8:=⟨by decide +kernel,by decide +kernel⟩
theorem aBs : Rnd 32:=⟨by decide +kernel,by decide +kernel⟩
theorem zA : Rnd 128:=⟨by decide +kernel,by decide +kernel⟩
theorem zB : Rnd 512:=⟨by decide +kernel,by decide +kernel⟩
theorem Rnd.cover {M : Nat} (R : Rnd M) {i j : Nat} (hi : i < M) (hj : j < M) : ∃ n,n < M∧orb M n i = j:=by
 obtain ⟨a,ha,ea⟩:=nA (mS R.all hi)
 obtain ⟨b,hb,eb⟩:=nA (mS R.all hj)
 by_cases h : a ≤ b
 ·refine ⟨b - a,by omega,?_⟩
  rw [← ea,← mD,show a + (b - a) = b by omega,eb]
 ·refine ⟨M + b - a,by omega,?_⟩
  rw [← ea,← mD,show a + (M + b - a) = M + b by omega,mD,R.back,eb]
def dO (mask : Nat) : Nat→Nat × Nat→Nat × Nat
 | 0,q=>q
 | n + 1,q=>dO mask n (SetTable.leap mask q.1 q.2)
theorem qX (m a : Nat) : ∀ b q,dO m (b + a) q = dO m a (dO m b q)
 | 0,q=>by rw [Nat.zero_add]; rfl
 | b + 1,q=>by
  rw [show b + 1 + a = (b + a) + 1 by omega]
  exact qX m a b _
theorem sS {m : Nat} : ∀ {n : Nat} {q : Nat × Nat},q.1 < m + 1→(dO m n q).1 < m + 1
 | 0,_,h=>h
 | n + 1,q,h=>sS (n:=n) (Nat.mod_lt _ (Nat.succ_pos _))
theorem vN {m : Nat} : ∀ {n : Nat} {q : Nat × Nat},(dO m n q).2 = q.2 / 32 ^ n
 | 0,_=>by simp [dO]
 | n + 1,q=>by
  show (dO m n _).2 = _
  rw [vN]
  show q.2 / 32 / 32 ^ n = _
  rw [Nat.div_div_eq_div_mul,Nat.pow_succ,Nat.mul_comm]
theorem qY {m : Nat} : ∀ {n i : Nat},dO m n (i,0) = (orb (m + 1) n i,0)
 | 0,_=>rfl
 | n + 1,i=>by
  show dO m n (SetTable.leap m i 0) = _
  unfold SetTable.leap
  simp only [Nat.zero_div,Nat.add_zero]
  exact qY
theorem mT {m : Nat} (R : Rnd (m + 1)) {i p j : Nat} (hi : i < m + 1) (hp : p < 2 ^ 64) (hj : j < m + 1) : ∃ n,n < m + 14∧(dO m n (i,p)).1 = j:=by
 have h1:=sS (m:=m) (n:=13) (q:=(i,p)) hi
 have h2 : (dO m 13 (i,p)).2 = 0:=by
  rw [vN]
  exact Nat.div_eq_of_lt (Nat.lt_of_lt_of_le hp (by decide))
 obtain ⟨n,hn,e⟩:=R.cover h1 hj
 refine ⟨13 + n,by omega,?_⟩
 rw [qX]
 have : dO m 13 (i,p) = ((dO m 13 (i,p)).1,0):=Prod.ext rfl h2
 rw [this,qY]
 exact e
theorem vO (h : Int) : SetTable.bits h < 2 ^ 64:=by
 unfold SetTable.bits
 have a:=Int.emod_nonneg h (show (2 ^ 64 : Int) ≠ 0 by decide)
 have b:=Int.emod_lt_of_pos h (show (0 : Int) < 2 ^ 64 by decide)
 omega
theorem aDP {M : Nat} {l : List Nat} (h : l.length < M) : ∃ j,j < M∧j ∉ l:=by
 have key : ∀ (a b : List Nat),a.Nodup→(∀ x∈a,x∈b)→a.length ≤ b.length:=by
  intro a
  induction a with
  | nil=>intro b _ _; exact Nat.zero_le _
  | cons x xs ih =>
   intro b hn hs
   obtain ⟨h1,h2⟩:=List.nodup_cons.mp hn
   have hx : x∈b:=hs x List.mem_cons_self
   have:=ih (b.erase x) h2 fun y hy=>(List.mem_erase_of_ne (fun (e : y = x)=>h1 (e ▸ hy))).mpr (hs y (List.mem_cons_of_mem _ hy))
   rw [List.length_erase_of_mem hx] at this
   have : 0 < b.length:=List.length_pos_of_mem hx
   rw [List.length_cons]
   omega
 apply Classical.byContradiction
 intro hno
 have:=key (List.range M) l List.nodup_range fun x hx=>Classical.byContradiction fun hx'=>hno ⟨x,List.mem_range.mp hx,hx'⟩
 rw [List.length_range] at this
 omega
def sT (mask i p : Nat) : SetTable.Probe:={ j:=i,more:=SetTable.runEnd mask i - i,i:=i,perturb:=p,dummy:=none }
theorem aC1 (mask i : Nat) : SetTable.runEnd mask i - i ≤ 9:=by unfold SetTable.runEnd; split <;> omega
theorem pV {t : SetTable} (hd : t.dummies = #[]) (j : Nat) : t.slot j = .empty∨∃ i,t.slot j = .live i∧t.place[i]? = some j:=by
 unfold SetTable.slot
 dsimp only
 split
 ·rename_i h
  exact .inr ⟨_,rfl,by simpa using h⟩
 ·left
  rw [hd]
  rfl
theorem wT {t : SetTable} (hd : t.dummies = #[]) {j : Nat} (h : j ∉ t.place.toList) : t.slot j = .empty:=by
 rcases pV hd j with e | ⟨i,_,e2⟩
 ·exact e
 ·exact absurd (by rw [← Array.getElem?_toList] at e2; exact List.mem_of_getElem? e2) h
section
variable {t : SetTable} {hashAt : Nat→Int} {h : Int}
theorem zC (hd : t.dummies = #[]) (hh : ∀ i,i < t.place.size→hashAt i ≠ h) (i p : Nat) : ∀ (r : Nat) (j fuel : Nat),
  (∃ j',SetTable.probe.go t hashAt h (fuel + r + 1) { j:=j,more:=r,i:=i,perturb:=p,dummy:=none } = some (.empty j' none)) ∨
  SetTable.probe.go t hashAt h (fuel + r + 1) { j:=j,more:=r,i:=i,perturb:=p,dummy:=none } = SetTable.probe.go t hashAt h fuel (sT t.mask (SetTable.leap t.mask i p).1 (SetTable.leap t.mask i p).2)
 | 0,j,fuel=>by
  rcases pV hd j with e | ⟨k,e,e2⟩
  ·exact .inl ⟨j,by unfold SetTable.probe.go; rw [e]⟩
  ·right
   have hk : k < t.place.size:=(Array.getElem?_eq_some_iff.mp e2).1
   conv=>lhs; unfold SetTable.probe.go
   rw [e]
   simp only [beq_iff_eq,hh k hk,if_false]
   rfl
 | r + 1,j,fuel=>by
  rcases pV hd j with e | ⟨k,e,e2⟩
  ·exact .inl ⟨j,by rw [show fuel + (r + 1) + 1 = (fuel + r + 1) + 1 by omega]; unfold SetTable.probe.go; rw [e]⟩
  ·have hk : k < t.place.size:=(Array.getElem?_eq_some_iff.mp e2).1
   have st : SetTable.probe.go t hashAt h (fuel + (r + 1) + 1) { j:=j,more:=r + 1,i:=i,perturb:=p,dummy:=none } = SetTable.probe.go t hashAt h (fuel + r + 1) { j:=j + 1,more:=r,i:=i,perturb:=p,dummy:=none }:=by
    rw [show fuel + (r + 1) + 1 = (fuel + r + 1) + 1 by omega]
    conv=>lhs; unfold SetTable.probe.go
    rw [e]
    simp only [beq_iff_eq,hh k hk,if_false]
    rfl
   rw [st]
   exact zC hd hh i p r (j + 1) fuel
theorem vP (hd : t.dummies = #[]) (hh : ∀ i,i < t.place.size→hashAt i ≠ h) : ∀ (m : Nat) (i p fuel : Nat),10 * (m + 1) ≤ fuel→t.slot (dO t.mask m (i,p)).1 = .empty →
  ∃ j',SetTable.probe.go t hashAt h fuel (sT t.mask i p) = some (.empty j' none)
 | 0,i,p,fuel,hf,e=>by
  obtain ⟨f,rfl⟩ : ∃ f,fuel = f + 1:=⟨fuel - 1,by omega⟩
  refine ⟨i,?_⟩
  have e' : t.slot i = .empty:=e
  unfold SetTable.probe.go sT
  dsimp only
  rw [e']
 | m + 1,i,p,fuel,hf,e=>by
  have hr:=aC1 t.mask i
  obtain ⟨f,hf'⟩ : ∃ f,fuel = f + (SetTable.runEnd t.mask i - i) + 1:=⟨fuel - (SetTable.runEnd t.mask i - i) - 1,by omega⟩
  rcases zC (hashAt:=hashAt) (h:=h) hd hh i p (SetTable.runEnd t.mask i - i) i f with z | z
  ·rw [hf']; exact z
  ·rw [hf']
   show ∃ j',SetTable.probe.go t hashAt h _ { j:=i,more:=_,i:=i,perturb:=p,dummy:=none } = _
   rw [z]
   exact vP hd hh m _ _ f (by omega) e
theorem wU (R : Rnd (t.mask + 1)) (hd : t.dummies = #[]) (hs : t.place.size ≤ t.mask) (hh : ∀ i,i < t.place.size→hashAt i ≠ h) : ∃ j,t.probe hashAt h (t.probeStart h) = some (.empty j none):=by
 obtain ⟨j,hj,hn⟩:=aDP (M:=t.mask + 1) (l:=t.place.toList) (by simpa using Nat.lt_succ_of_le hs)
 obtain ⟨m,hm,e⟩:=mT R (Nat.mod_lt (SetTable.bits h) (Nat.succ_pos t.mask)) (vO h) hj
 refine vP hd hh m _ _ _ ?_ (by rw [e]; exact wT hd hn)
 unfold SetTable.turns
 omega
end
theorem zD {α β : Type} {f : α→Option β} : ∀ {l : List α},(∀ q∈l,(f q).isSome = true)→(l.filterMap f).length = l.length
 | [],_=>rfl
 | q :: l,h=>by
  have hq:=h q List.mem_cons_self
  cases e : f q with
  | none=>rw [e] at hq; cases hq
  | some b=>rw [List.filterMap_cons_some e,List.length_cons,List.length_cons,zD fun x hx=>h x (List.mem_cons_of_mem _ hx)]
theorem jU {mask : Nat} {owner : Array (Option Nat)} : ∀ (m fuel i p : Nat),m < fuel→owner.getD (dO mask m (i,p)).1 (some 0) = none→∃ j,SetTable.layClean.free mask owner fuel i p = some j∧owner.getD j (some 0) = none
 | m,0,_,_,h,_=>by omega
 | m,fuel + 1,i,p,h,e=>by
  unfold SetTable.layClean.free
  cases hf : (List.range (SetTable.runEnd mask i + 1 - i)).find? fun k=>(owner.getD (i + k) (some 0)).isNone with
  | some k =>
   refine ⟨i + k,rfl,?_⟩
   have:=List.find?_some hf
   simpa using this
  | none =>
   cases m with
   | zero =>
    have h0 : (0 : Nat)∈List.range (SetTable.runEnd mask i + 1 - i):=List.mem_range.mpr (by unfold SetTable.runEnd; split <;> omega)
    have:=List.find?_eq_none.mp hf 0 h0
    have e' : owner.getD i (some 0) = none:=e
    rw [Nat.add_zero,e'] at this
    exact absurd rfl this
   | succ m =>
    exact jU m fuel _ _ (by omega) e
structure Laid (M : Nat) (owner : Array (Option Nat)) (k : Nat) : Prop where
 size : owner.size = M
 cnt : owner.toList.countP Option.isSome = k
 lt : ∀ x,some x∈owner.toList→x < k
theorem wV {l : List (Option Nat)} {j : Nat} {x : Nat} (hj : l[j]? = some none) : (l.set j (some x)).countP Option.isSome = l.countP Option.isSome + 1:=by
 induction l generalizing j with
 | nil=>cases hj
 | cons a l ih =>
  cases j with
  | zero =>
   obtain rfl : a = none:=by simpa using hj
   simp
  | succ j =>
   rw [List.set_cons_succ,List.countP_cons,List.countP_cons,ih (by simpa using hj)]
   omega
theorem Laid.one {mask : Nat} {owner : Array (Option Nat)} {k : Nat} (L : Laid (mask + 1) owner k) (R : Rnd (mask + 1)) (hk : k < mask + 1) (h : Int) :
  ∃ j,SetTable.layClean.free mask owner (SetTable.turns mask) (SetTable.bits h % (mask + 1)) (SetTable.bits h) = some j∧Laid (mask + 1) (owner.setIfInBounds j (some k)) (k + 1):=by
 have hno : ∃ j,j < mask + 1∧owner.toList[j]? = some none:=by
  apply Classical.byContradiction
  intro hno
  have hall : ∀ x∈owner.toList,x.isSome = true:=by
   intro x hx
   obtain ⟨j,hj,e⟩:=List.mem_iff_getElem.mp hx
   cases x with
   | some _=>rfl
   | none =>
    refine absurd ⟨j,?_,?_⟩ hno
    ·rw [← L.size]; simpa using hj
    ·rw [List.getElem?_eq_getElem hj,e]
  have:=List.countP_eq_length.mpr hall
  rw [L.cnt,Array.length_toList,L.size] at this
  omega
 obtain ⟨j0,hj0,e0⟩:=hno
 obtain ⟨m,hm,em⟩:=mT R (Nat.mod_lt (SetTable.bits h) (Nat.succ_pos mask)) (vO h) hj0
 obtain ⟨j,ej,en⟩:=jU (mask:=mask) (owner:=owner) m (SetTable.turns mask) (SetTable.bits h % (mask + 1)) (SetTable.bits h) (by unfold SetTable.turns; omega)
  (by rw [em,Array.getD_eq_getD_getElem?,← Array.getElem?_toList,e0]; rfl)
 refine ⟨j,ej,?_⟩
 have hjn : owner.toList[j]? = some none:=by
  rw [Array.getD_eq_getD_getElem?,← Array.getElem?_toList] at en
  cases hq : owner.toList[j]? with
  | none=>rw [hq] at en; cases en
  | some v=>rw [hq] at en; rw [show v = none from en]
 have hset : (owner.setIfInBounds j (some k)).toList = owner.toList.set j (some k):=by simp
 refine ⟨by simp [L.size],by rw [hset,wV hjn,L.cnt],fun x hx=>?_⟩
 rw [hset] at hx
 rcases List.mem_or_eq_of_mem_set hx with z | z
 ·exact Nat.lt_succ_of_lt (L.lt x z)
 ·cases z; exact Nat.lt_succ_self _
theorem vQ {mask : Nat} (R : Rnd (mask + 1)) : ∀ (l : List Int) (owner : Array (Option Nat)) (k : Nat),Laid (mask + 1) owner k→k + l.length ≤ mask →
  ∃ owner',l.foldl (fun acc h=>do
   let (owner,k) ← acc
   let j ← SetTable.layClean.free mask owner (SetTable.turns mask) (SetTable.bits h % (mask + 1)) (SetTable.bits h)
   pure (owner.setIfInBounds j (some k),k + 1)) (some (owner,k)) = some (owner',k + l.length)∧Laid (mask + 1) owner' (k + l.length)
 | [],owner,k,L,_=>⟨owner,rfl,L⟩
 | h :: l,owner,k,L,hl=>by
  rw [List.length_cons] at hl
  obtain ⟨j,ej,L'⟩:=L.one R (by omega) h
  obtain ⟨o',e,L2⟩:=vQ R l _ _ L' (by omega)
  refine ⟨o',?_,by rw [List.length_cons,show k + (l.length + 1) = k + 1 + l.length by omega]; exact L2⟩
  rw [List.foldl_cons]
  have : (do
   let (owner,k) ← some (owner,k)
   let j ← SetTable.layClean.free mask owner (SetTable.turns mask) (SetTable.bits h % (mask + 1)) (SetTable.bits h)
   pure (owner.setIfInBounds j (some k),k + 1) : Option (Array (Option Nat) × Nat)) = some (owner.setIfInBounds j (some k),k + 1):=by
   show (SetTable.layClean.free mask owner (SetTable.turns mask) (SetTable.bits h % (mask + 1)) (SetTable.bits h)).bind _ = _
   rw [ej]; rfl
  rw [this,e,List.length_cons,show k + (l.length + 1) = k + 1 + l.length by omega]
theorem uR {mask : Nat} (R : Rnd (mask + 1)) (hs : Array Int) (h : hs.size ≤ mask) : ∃ owner,SetTable.layClean mask hs = some owner∧Laid (mask + 1) owner hs.size:=by
 have L0 : Laid (mask + 1) (Array.replicate (mask + 1) none) 0:=⟨by simp,by simp [List.countP_replicate],fun x hx=>by simp at hx⟩
 obtain ⟨o,e,L⟩:=vQ R hs.toList _ 0 L0 (by simpa using h)
 refine ⟨o,?_,by simpa using L⟩
 unfold SetTable.layClean
 rw [← Array.foldl_toList]
 have e':=congrArg (Option.map (·.1)) e
 exact e'
theorem wW {M n : Nat} {owner : Array (Option Nat)} (L : Laid M owner n) :
  ((List.range M).filterMap fun j=>(owner.getD j none).map (j,·)).length = n∧∀ q∈(List.range M).filterMap (fun j=>(owner.getD j none).map (j,·)),q.2 < n:=by
 constructor
 ·rw [← L.cnt]
  have e : owner.toList = (List.range M).map fun j=>owner.getD j none:=by
   apply List.ext_getElem
   ·simp [L.size]
   ·intro i h1 h2
    simp only [List.getElem_map,List.getElem_range,Array.getElem_toList]
    rw [Array.getD_eq_getD_getElem?,Array.getElem?_eq_getElem (by simpa using h1)]
    rfl
  conv=>rhs; rw [e]
  rw [List.countP_map]
  generalize List.range M = l
  induction l with
  | nil=>rfl
  | cons a l ih =>
   rw [List.countP_cons,← ih]
   cases hq : owner.getD a none with
   | none=>rw [List.filterMap_cons_none (by rw [hq]; rfl),show (Option.isSome ∘ fun j=>owner.getD j none) a = false by show (owner.getD a none).isSome = false; rw [hq]; rfl]; simp
   | some x=>rw [List.filterMap_cons_some (b:=(a,x)) (by rw [hq]; rfl),show (Option.isSome ∘ fun j=>owner.getD j none) a = true by show (owner.getD a none).isSome = true; rw [hq]; rfl]; simp
 ·intro q hq
  obtain ⟨j,_,e⟩:=List.mem_filterMap.mp hq
  cases hx : owner.getD j none with
  | none=>rw [hx] at e; cases e
  | some x =>
   rw [hx] at e
   cases e
   refine L.lt x ?_
   rw [Array.getD_eq_getD_getElem?,← Array.getElem?_toList] at hx
   cases hy : owner.toList[j]? with
   | none=>rw [hy] at hx; cases hx
   | some v=>rw [hy] at hx; obtain rfl : v = some x:=hx; exact List.mem_of_getElem? hy
structure oF (hs : Array Int) (t : SetTable) : Prop where
 dm : t.dummies = #[]
 sz : t.place.size = hs.size
 ms : (t.mask = 7∧hs.size ≤ 4)∨(t.mask = 31∧hs.size ≤ 18)∨(t.mask = 127∧hs.size ≤ 76)∨(t.mask = 511∧hs.size ≤ 306)
theorem oF.rnd {hs : Array Int} {t : SetTable} (T : oF hs t) : Rnd (t.mask + 1):=by
 rcases T.ms with ⟨e,_⟩ | ⟨e,_⟩ | ⟨e,_⟩ | ⟨e,_⟩ <;> rw [e]
 ·exact rnd8
 ·exact aBs
 ·exact zA
 ·exact zB
theorem kZ {α : Type} (xs : Array α) (p : Nat) (x : α) : (SetTable.insertAt xs p x).size = xs.size + 1:=by
 unfold SetTable.insertAt
 simp
 omega
theorem lN {α : Type} {xs : Array α} {p : Nat} {x y : α} (h : y∈(SetTable.insertAt xs p x).toList) : y = x∨y∈xs.toList:=by
 unfold SetTable.insertAt at h
 rw [Array.toList_append,Array.toList_push,Array.toList_extract,Array.toList_extract] at h
 rcases List.mem_append.mp h with z | z
 ·rcases List.mem_append.mp z with z | z
  ·right
   rw [List.extract_eq_drop_take] at z
   exact List.mem_of_mem_drop (List.mem_of_mem_take z)
  ·left; simpa using z
 ·right
  rw [List.extract_eq_drop_take] at z
  exact List.mem_of_mem_drop (List.mem_of_mem_take z)
theorem wX {hs : Array Int} {t : SetTable} {h : Int} (T : oF hs t) (hn : h ∉ hs.toList) (hl : hs.size < 300) : ∃ hs' t',eQ hs t h = some (hs',t')∧oF hs' t'∧hs'.size = hs.size + 1∧∀ x∈hs'.toList,x = h∨x∈hs.toList:=by
 have hle : t.place.size ≤ t.mask:=by rw [T.sz]; rcases T.ms with ⟨e,z⟩ | ⟨e,z⟩ | ⟨e,z⟩ | ⟨e,z⟩ <;> omega
 have hh : ∀ i,i < t.place.size→hAt hs i ≠ h:=by
  intro i hi e
  rw [T.sz] at hi
  unfold hAt at e
  rw [Array.getElem?_eq_getElem hi] at e
  exact hn (by rw [← e]; simp)
 obtain ⟨j,hp⟩:=wU (hashAt:=hAt hs) (h:=h) T.rnd T.dm hle hh
 have hg : t.gaveWay = false:=by
  unfold SetTable.gaveWay
  rcases T.ms with ⟨e,_⟩ | ⟨e,_⟩ | ⟨e,_⟩ | ⟨e,_⟩ <;> rw [e] <;> rfl
 have q1 : (t.put j).1.place = SetTable.insertAt t.place (SetTable.below t.place j) j:=rfl
 have q2 : (t.put j).1.dummies = #[]:=by
  show (if SetTable.has t.dummies j = true then _ else t.dummies) = _
  rw [T.dm]
  rfl
 have q3 : (t.put j).1.mask = t.mask:=rfl
 have s1 : (SetTable.insertAt hs (t.put j).2 h).size = hs.size + 1:=kZ _ _ _
 have s2 : (t.put j).1.place.size = hs.size + 1:=by rw [q1,kZ,T.sz]
 have fl : (t.put j).1.fill = hs.size + 1:=by unfold SetTable.fill; rw [s2,q2]; rfl
 have fit : (t.put j).1.fits (SetTable.insertAt hs (t.put j).2 h).size = true:=by
  unfold SetTable.fits
  rw [s1,s2,fl,q3]
  simp
  rcases T.ms with ⟨e,z⟩ | ⟨e,z⟩ | ⟨e,z⟩ | ⟨e,z⟩ <;> omega
 unfold eQ
 rw [hg,if_neg Bool.false_ne_true,hp]
 dsimp only
 rw [if_pos (by rw [fit,s1]; simp; omega)]
 by_cases hf : (t.put j).1.tooFull = true
 ·rw [if_pos hf]
  have hf':=hf
  unfold SetTable.tooFull at hf'
  rw [fl,q3] at hf'
  have hf2 : (hs.size + 1) * 5 ≥ t.mask * 3:=by simpa using hf'
  have gr : SetTable.grown (hs.size + 1) = (hs.size + 1) * 4:=by unfold SetTable.grown; rw [if_neg (by omega)]
  obtain ⟨m2,em2,hm2,R2⟩ : ∃ m2,SetTable.sizeAbove (SetTable.grown (hs.size + 1)) = m2 + 1∧((m2 = 31∧hs.size + 1 ≤ 18)∨(m2 = 127∧hs.size + 1 ≤ 76)∨(m2 = 511∧hs.size + 1 ≤ 306))∧Rnd (m2 + 1):=by
   rw [gr]
   rcases T.ms with ⟨e,z⟩ | ⟨e,z⟩ | ⟨e,z⟩ | ⟨e,z⟩
   ·have : hs.size = 4:=by omega
    exact ⟨31,by rw [this]; rfl,.inl ⟨rfl,by omega⟩,aBs⟩
   ·have : hs.size = 18:=by omega
    exact ⟨127,by rw [this]; rfl,.inr (.inl ⟨rfl,by omega⟩),zA⟩
   ·have : hs.size = 76:=by omega
    exact ⟨511,by rw [this]; rfl,.inr (.inr ⟨rfl,by omega⟩),zB⟩
   ·omega
  have hm3 : (SetTable.insertAt hs (t.put j).2 h).size ≤ m2:=by rw [s1]; rcases hm2 with ⟨e,z⟩ | ⟨e,z⟩ | ⟨e,z⟩ <;> omega
  obtain ⟨owner,eo,L⟩:=uR R2 (SetTable.insertAt hs (t.put j).2 h) hm3
  obtain ⟨lv1,lv2⟩:=wW L
  rw [s1] at lv1 lv2
  generalize hlive : (List.range (m2 + 1)).filterMap (fun j=>(owner.getD j none).map (j,·)) = live at lv1 lv2
  have er : (t.put j).1.relaid (SetTable.insertAt hs (t.put j).2 h) (SetTable.grown (hs.size + 1)) = some ({ mask:=m2,place:=(live.map (·.1)).toArray,dummies:=#[],finger:=(t.put j).1.finger,led:=(t.put j).1.led,moves:=(t.put j).1.movedTo m2,plain:=(t.put j).1.plain },(live.map (·.2)).toArray):=by
   unfold SetTable.relaid SetTable.laid
   rw [em2]
   simp only [Nat.add_sub_cancel]
   rw [eo]
   show some _ = some _
   rw [← hlive]
  rw [er]
  dsimp only
  have hsz2 : ((live.map (·.2)).toArray.filterMap ((SetTable.insertAt hs (t.put j).2 h)[·]?)).size = hs.size + 1:=by
   rw [← Array.length_toList,Array.toList_filterMap]
   show ((live.map (·.2)).filterMap _).length = _
   rw [← lv1,List.filterMap_map]
   refine zD fun q hq=>?_
   show ((SetTable.insertAt hs (t.put j).2 h)[q.2]?).isSome = true
   rw [Array.getElem?_eq_getElem (by rw [s1]; exact lv2 q hq)]
   rfl
  have emf : ∀ x,({ mask:=m2,place:=(live.map (·.1)).toArray,dummies:=#[],finger:=(t.put j).1.finger,led:=(t.put j).1.led,moves:=(t.put j).1.movedTo m2,plain:=(t.put j).1.plain } : SetTable).fits x = (decide (hs.size + 1 = x) && decide (hs.size + 1 ≤ m2)):=by
   intro x
   unfold SetTable.fits SetTable.fill
   simp [lv1]
   rw [Bool.eq_iff_iff]; simp
  rw [if_pos (by
   rw [hsz2,s1,emf,em2]
   have : hs.size + 1 ≤ m2:=by rw [← s1]; exact hm3
   simp [this]
   rcases hm2 with ⟨e,z⟩ | ⟨e,z⟩ | ⟨e,z⟩ <;> omega)]
  refine ⟨_,_,rfl,⟨rfl,?_,?_⟩,hsz2,fun x hx=>?_⟩
  ·rw [hsz2]; simp [lv1]
  ·rw [hsz2]; exact .inr hm2
  ·rw [Array.toList_filterMap] at hx
   obtain ⟨k,_,ek⟩:=List.mem_filterMap.mp hx
   refine lN (p:=(t.put j).2) ?_
   rw [← Array.getElem?_toList] at ek
   exact List.mem_of_getElem? ek
 ·rw [if_neg hf]
  refine ⟨_,_,rfl,⟨q2,by rw [s2,s1],?_⟩,s1,fun x hx=>lN hx⟩
  have hf' : ¬ (hs.size + 1) * 5 ≥ t.mask * 3:=by
   intro z
   refine hf ?_
   unfold SetTable.tooFull
   rw [fl,q3]
   simpa using z
  rw [s1,q3]
  rcases T.ms with ⟨e,z⟩ | ⟨e,z⟩ | ⟨e,z⟩ | ⟨e,z⟩ <;> omega
theorem mU : ∀ (l : List Int) (hs : Array Int) (t : SetTable),oF hs t→(∀ x∈l,x ∉ hs.toList)→l.Nodup→hs.size + l.length ≤ 300→∃ hs' t',l.foldlM (fun q h=>eQ q.1 q.2 h) (hs,t) = some (hs',t')∧hs'.size = hs.size + l.length
 | [],hs,t,_,_,_,_=>⟨hs,t,rfl,rfl⟩
 | h :: l,hs,t,T,hn,nd,hl=>by
  rw [List.length_cons] at hl
  obtain ⟨n1,n2⟩:=List.nodup_cons.mp nd
  obtain ⟨hs1,t1,e1,T1,z1,m1⟩:=wX T (hn h List.mem_cons_self) (by omega)
  obtain ⟨hs2,t2,e2,z2⟩:=mU l hs1 t1 T1 (fun x hx hy=>by
   rcases m1 x hy with e | e
   ·exact n1 (e ▸ hx)
   ·exact hn x (List.mem_cons_of_mem _ hx) e) n2 (by omega)
  refine ⟨hs2,t2,?_,by rw [z2,z1,List.length_cons]; omega⟩
  rw [List.foldlM_cons]
  show (eQ hs t h).bind _ = _
  rw [e1]
  exact e2
theorem zE (led : Bool) {l : List Int} (nd : l.Nodup) (hl : l.length ≤ 300) : ∃ hs t,oE led l = some (hs,t)∧hs.size = l.length:=by
 obtain ⟨hs,t,e,z⟩:=mU l #[] (SetTable.fresh 0 0 led) ⟨rfl,rfl,.inl ⟨rfl,by decide⟩⟩ (fun x _ h=>by simp at h) nd (by simpa using hl)
 exact ⟨hs,t,e,by simpa using z⟩
end L2
namespace L2
open PySem PySem.Spec PyProof.Rows PySem.W
def rS : List Nat→Nat→Bool
 | [],_=>true
 | x :: xs,acc=>bif Nat.testBit acc x then false else rS xs (acc ||| (1 <<< x))
theorem sU : ∀ (l : List Nat) (acc : Nat),rS l acc = true→l.Nodup∧∀ x∈l,acc.testBit x = false
 | [],_,_=>⟨List.nodup_nil,fun x h=>(nomatch h)⟩
 | x :: xs,acc,h=>by
  unfold rS at h
  cases hb : acc.testBit x with
  | true=>rw [hb] at h; cases h
  | false =>
   rw [hb] at h
   obtain ⟨nd,hx⟩:=sU xs _ h
   have hor : ∀ y∈xs,acc.testBit y = false∧y ≠ x:=by
    intro y hy
    have:=hx y hy
    rw [Nat.testBit_or,Nat.one_shiftLeft,Nat.testBit_two_pow] at this
    rw [Bool.or_eq_false_iff] at this
    exact ⟨this.1,fun e=>by have:=this.2; simp [e] at this⟩
   refine ⟨List.nodup_cons.mpr ⟨fun hm=>(hor x hm).2 rfl,nd⟩,fun y hy=>?_⟩
   rcases List.mem_cons.mp hy with z | z
   ·rw [z]; exact hb
   ·exact (hor y z).1
def nB : List (Int × Int):=(List.range 32).flatMap fun a=>(List.range 32).map fun b=>(Int.ofNat a,Int.ofNat b)
def aBt (h : Int) : Nat:=(h % 6554).toNat
theorem zF (P : Program) (w : World) : rS (nB.map fun y=>aBt (eC P w y)) 0 = true:=by kernel_rfl
theorem vR {y : Int × Int} (h1 : 0 ≤ y.1∧y.1 < 32) (h2 : 0 ≤ y.2∧y.2 < 32) : y∈nB:=by
 unfold nB
 refine List.mem_flatMap.mpr ⟨y.1.toNat,List.mem_range.mpr (by omega),List.mem_map.mpr ⟨y.2.toNat,List.mem_range.mpr (by omega),Prod.ext ?_ ?_⟩⟩
 ·show ((y.1.toNat : Nat) : Int) = y.1; omega
 ·show ((y.2.toNat : Nat) : Int) = y.2; omega
theorem lA {α β : Type} {f : α→β} : ∀ {l : List α},(l.map f).Nodup→∀ x∈l,∀ y∈l,f x = f y→x = y
 | [],_,_,h,_,_,_=>by cases h
 | a :: l,h,x,hx,y,hy,e=>by
  rw [List.map_cons] at h
  obtain ⟨h1,h2⟩:=List.nodup_cons.mp h
  rcases List.mem_cons.mp hx with z | z <;> rcases List.mem_cons.mp hy with z' | z'
  ·rw [z,z']
  ·exact absurd (List.mem_map.mpr ⟨y,z',by rw [← e,z]⟩) h1
  ·exact absurd (List.mem_map.mpr ⟨x,z,by rw [e,z']⟩) h1
  ·exact lA h2 x z y z' e
theorem sV {P : Program} {w : World} {x y : Int × Int} (hx : (0 ≤ x.1∧x.1 < 32)∧(0 ≤ x.2∧x.2 < 32)) (hy : (0 ≤ y.1∧y.1 < 32)∧(0 ≤ y.2∧y.2 < 32)) (e : eC P w x = eC P w y) : x = y :=
 lA (sU _ _ (zF P w)).1 x (vR hx.1 hx.2) y (vR hy.1 hy.2) (congrArg aBt e)
theorem lO {α β : Type} {f : α→β} : ∀ {l : List α},l.Nodup→(∀ x∈l,∀ y∈l,f x = f y→x = y)→(l.map f).Nodup
 | [],_,_=>List.nodup_nil
 | a :: l,h,hf=>by
  obtain ⟨h1,h2⟩:=List.nodup_cons.mp h
  rw [List.map_cons]
  refine List.nodup_cons.mpr ⟨fun z=>?_,lO h2 fun x hx y hy=>hf x (List.mem_cons_of_mem _ hx) y (List.mem_cons_of_mem _ hy)⟩
  obtain ⟨y,hy,e⟩:=List.mem_map.mp z
  have:=hf y (List.mem_cons_of_mem _ hy) a List.mem_cons_self e
  exact h1 (this ▸ hy)
theorem uS {P : Program} {w : World} (led : Bool) {ys : List (Int × Int)} (nd : ys.Nodup) (hr : ∀ y∈ys,(0 ≤ y.1∧y.1 < 32)∧(0 ≤ y.2∧y.2 < 32)) (hl : ys.length ≤ 300) :
  ∃ hs t,oE led (ys.map (eC P w)) = some (hs,t)∧hs.size = ys.length:=by
 obtain ⟨hs,t,e,z⟩:=zE led (lO nd fun x hx y hy e=>sV (P:=P) (w:=w) (hr x hx) (hr y hy) e) (by rw [List.length_map]; exact hl)
 exact ⟨hs,t,e,by rw [z,List.length_map]⟩
end L2
namespace L2
open PySem PySem.Spec PyProof.Rows PySem.W
theorem pW : ∀ {as : List Addr} {its : List Value},Vals (as.map V.ref) its→its = as.map Value.ref
 | [],_,r=>by cases r; rfl
 | a :: as,_,r=>by
  cases r with
  | cons r rr =>
   obtain rfl:=(show _ = Value.ref a from r)
   rw [pW rr]; rfl
def setO (D : Addr) (n : Nat) : HO:=.ext fun h=>∃ hs t,gH h D hs t∧hs.size = n
section
variable {X : Cx}
def aDQ (K : PySem.W.Frag) : List V→Hp→VK→Prop:=fun xs H Q=>∃ (l : Addr) (as : List Addr) (ys : List (Int × Int)),xs = [.ref l]∧SqL K H l (as.map V.ref)∧as.length = ys.length ∧
 (∀ i,i < ys.length→yW K H (as.getD i 0) (ys.getD i (0,0)))∧ys.Nodup∧(∀ y∈ys,(0 ≤ y.1∧y.1 < 32)∧(0 ≤ y.2∧y.2 < 32))∧ys.length ≤ 300∧∀ D,H D = none→Q (.ref D) (upd H D (setO D ys.length))
theorem zG (hc : X.calm = true) (hu : X.A.units + 8 < cLine) : cY X (.type "set") (aDQ X.K):=by
 intro pins s σ H xs us Q I r h
 obtain ⟨l,as,ys,rfl,hl,hlen,hp,nd,rg,h3,q⟩:=h
 obtain ⟨u1,rfl,r1⟩:=r.one
 obtain rfl : u1 = Value.ref l:=r1
 obtain ⟨its,rv,pl,hz⟩:=I.list hl
 have e:=pW rv
 subst e
 have hpi : gQ s.heap (as.map Value.ref) ys:=⟨by rw [List.length_map,hlen],fun i v hv=>by
  rw [List.getElem?_map] at hv
  cases ea : as[i]? with
  | none=>rw [ea] at hv; cases hv
  | some a =>
   rw [ea] at hv
   obtain rfl : Value.ref a = v:=Option.some.inj hv
   have hi : i < as.length:=(List.getElem?_eq_some_iff.mp ea).1
   obtain ⟨o,n,t,u,e1,c,d⟩:=wR I (hp i (by omega))
   have eg : as.getD i 0 = a:=by rw [List.getD_eq_getElem?_getD,ea]; rfl
   rw [eg] at e1
   exact ⟨a,o,n,t,u,rfl,e1,c,d⟩⟩
 have hrun : ∀ led,∃ q : Array Int × SetTable,oE led (ys.map (eC X.prog X.w)) = some q∧q.1.size = ys.length:=fun led =>
  let ⟨hs,t,e,z⟩:=uS (P:=X.prog) (w:=X.w) led nd rg h3; ⟨(hs,t),e,z⟩
 refine aAN (I.ok.hd hc) hu pl.isList hpi (hsN:=fun led=>(hrun led).choose.1) (tN:=fun led=>(hrun led).choose.2) (fun led=>(hrun led).choose_spec.1) fun led h' tk S' k=>?_
 refine ⟨.ref s.heap.objs.size,_,I.laidN (t':=tk) (o:=setO s.heap.objs.size ys.length) (fun b u e=>k b u (Heap.lt_size e) e) (Heap.get?_none_of_le (Nat.le_refl _)) ⟨⟨_,_,S',(hrun led).choose_spec.2⟩,?_,fun h1 h2 ⟨hs,t,⟨o,es,ep,q1,q2⟩,z⟩ kk=>⟨hs,t,⟨o,es,ep,kk o q1,q2⟩,z⟩⟩,rfl,q _ I.fresh⟩
 obtain ⟨o,_,_,q1,_⟩:=S'
 exact ⟨o,q1⟩
theorem uT : cY X (.builtin "len") (fun xs H Q=>∃ D n,xs = [.ref D]∧H D = some (setO D n)∧n ≤ 4096∧Q (.int n) H):=by
 intro pins s σ H xs us Q I r h
 obtain ⟨D,n,rfl,e,hn,q⟩:=h
 obtain ⟨u1,rfl,r1⟩:=r.one
 obtain rfl : u1 = Value.ref D:=r1
 obtain ⟨⟨hs,t,⟨o,es,ep,q1,q2,q3,q4,q5,q6⟩,z⟩,_⟩:=(show bH X.prog X.w H s.heap D (setO D n) from I.hok D _ e)
 have hsz : es.size = n:=by rw [← z,← q5,Array.size_map]
 exact call_len_set q1 ⟨q2,q3.1,q3.2⟩ q4 q6 (by rw [hsz]; omega) ⟨.int n,H,I.tok _,⟨_,by rw [hsz]⟩,q⟩
theorem uU : cY X (.type "range") (fun xs H Q=>∃ n,xs = [.int n]∧∀ p,H p = none→Q (.ref p) (upd H p (.rng 0 n))):=by
 intro pins s σ H xs us Q I r h
 obtain ⟨n,rfl,q⟩:=h
 obtain ⟨u1,rfl,t,rfl⟩:=r.one
 refine call_range_1 ⟨.ref s.heap.objs.size,_,I.laid (o:=.rng 0 n) (fun b u e=>Heap.get?_push_of_some _ e) (Nat.le_refl _) ⟨_,_,_,Heap.get?_push_size _ rfl⟩,rfl,q _ I.fresh⟩
theorem wY (hc : X.calm = true) : cY X (.type "list") (fun xs H Q=>∃ (p : Addr) (n : Nat),xs = [.ref p]∧H p = some (.rng 0 n)∧n ≤ 1000∧∀ l,H l = none→Q (.ref l) (upd H l (.lst ((List.range n).map fun (i : Nat)=>V.int i)))):=by
 intro pins s σ H xs us Q I r h
 obtain ⟨p,n,rfl,e,hn,q⟩:=h
 obtain ⟨u1,rfl,r1⟩:=r.one
 obtain rfl : u1 = Value.ref p:=r1
 obtain ⟨t,u,v,hp⟩:=(show bH X.prog X.w H s.heap p (.rng 0 n) from I.hok p _ e)
 refine call_list_range (n:=n) (I.ok.hd hc) (show IsRange s.heap p 0 n 1 t u v from hp) (small_one (by omega) (by omega) (by omega) (by omega)) (by rw [rangeSize_one]; split <;> omega) (by omega) fun h' tk acc c k g it=>?_
 obtain ⟨i1,i2⟩:=it
 refine ⟨.ref s.heap.objs.size,_,I.laidN (t':=tk) (o:=.lst ((List.range n).map fun (i : Nat)=>V.int i)) (fun b u e=>k b u e) (Heap.get?_none_of_le (Nat.le_refl _)) ⟨?_,acc.toList,c,?_,by simpa using g⟩,rfl,q _ I.fresh⟩
 ·rw [List.length_map,List.length_range]
  exact Nat.le_trans hn (by decide)
 ·have go : ∀ (m : Nat) (l : List Value),l.length = m→(∀ (j : Nat) v,l[j]? = some v→∃ t,v = Value.int (0 + (j : Int) * 1) t)→Vals ((List.range m).map fun (i : Nat)=>V.int i) l:=by
   intro m
   induction m with
   | zero=>intro l hl _; cases l with
    | nil=>exact .nil
    | cons _ _=>cases hl
   | succ m ih =>
    intro l hl hv
    have hne : l ≠ []:=by intro z; rw [z] at hl; cases hl
    have el : l = l.dropLast ++ [l.getLast hne]:=(List.dropLast_concat_getLast hne).symm
    rw [List.range_succ,List.map_append,el]
    have hdl : l.dropLast.length = m:=by rw [List.length_dropLast,hl]; rfl
    refine Vals.append (ih _ hdl fun j v hj=>hv j v ?_) (.cons ?_ .nil)
    ·rw [el]
     have hj' : j < l.dropLast.length:=(List.getElem?_eq_some_iff.mp hj).1
     rw [List.getElem?_append_left hj']
     exact hj
    ·obtain ⟨t,ht⟩:=hv m (l.getLast hne) (by
      rw [List.getLast_eq_getElem,List.getElem?_eq_getElem (by omega : m < l.length)]
      simp [hl])
     exact ⟨t,by rw [ht]; simp⟩
  exact go n acc.toList (by simpa using i1) fun j v hj=>i2 j v (by simpa using hj)
end
end L2
namespace L2
open PySem PySem.Spec PyProof.Rows PySem.W
def iI (e : V→V→Bool) : List V→List V→Bool
 | [],[]=>true
 | x :: xs,y :: ys=>e x y && iI e xs ys
 | _,_=>false
theorem mV {e : V→V→Bool} : ∀ {xs ys : List V},xs.length = ys.length→iI e xs ys = (List.range xs.length).all fun i=>e (xs.getD i .non) (ys.getD i .non)
 | [],[],_=>rfl
 | x :: xs,y :: ys,h=>by
  have h' : xs.length = ys.length:=by simpa using h
  rw [iI,mV h',List.length_cons,List.range_succ_eq_map,List.all_cons,List.all_map]
  rfl
 | [],_ :: _,h=>by simp at h
 | _ :: _,[],h=>by simp at h
theorem qZ {e : V→V→Bool} : ∀ {xs ys : List V},xs.length ≠ ys.length→iI e xs ys = false
 | [],[],h=>absurd rfl h
 | x :: xs,y :: ys,h=>by
  have h' : xs.length ≠ ys.length:=fun z=>h (by simp [z])
  rw [iI,qZ h',Bool.and_false]
 | [],_ :: _,_=>rfl
 | _ :: _,[],_=>rfl
section
variable {X : Cx}
def ElEq (X : Cx) (H : Hp) (e : V→V→Bool) (x y : V) : Prop:=∀ (pins : List (Addr × Obj)) (s : Shared) (σ : St) (A : Around) (u v : Value),Inv X pins σ H s→A.units + 1 < cLine→RelV x u→RelV y v→SeqAt.EqAt A s u v (e x y)
def rLEq (X : Cx) (neg : Bool) (e : V→V→Bool) : R2:=fun x y H Q=>∃ p q xs ys,x = .ref p∧y = .ref q∧SqL X.K H p xs∧SqL X.K H q ys∧(∀ i,i < xs.length→i < ys.length→ElEq X H e (xs.getD i .non) (ys.getD i .non))∧Q (.bl (if neg then !iI e xs ys else iI e xs ys)) H
theorem aAO {pins : List (Addr × Obj)} {s : Shared} {σ : St} {H : Hp} {A : Around} {e : V→V→Bool} {xs ys : List V} {us vs : List Value} (I : Inv X pins σ H s) (hu : A.units + 1 < cLine) (rx : Vals xs us) (ry : Vals ys vs)
  (he : ∀ i,i < xs.length→i < ys.length→ElEq X H e (xs.getD i .non) (ys.getD i .non)) : ∀ j (h1 : j < us.toArray.size) (h2 : j < vs.toArray.size),SeqAt.EqAt A s us.toArray[j] vs.toArray[j] (e (xs.getD j .non) (ys.getD j .non)):=by
 intro j h1 h2
 have j1 : j < xs.length:=by rw [rx.length]; simpa using h1
 have j2 : j < ys.length:=by rw [ry.length]; simpa using h2
 have e1 : xs[j]? = some (xs.getD j .non):=by rw [List.getD_eq_getElem?_getD,List.getElem?_eq_getElem j1]; rfl
 have e2 : ys[j]? = some (ys.getD j .non):=by rw [List.getD_eq_getElem?_getD,List.getElem?_eq_getElem j2]; rfl
 obtain ⟨u,hu1,ru⟩:=rx.get e1
 obtain ⟨v,hv1,rv⟩:=ry.get e2
 have eu : us.toArray[j] = u:=by
  have : us[j]? = some us.toArray[j]:=by simp at h1 ⊢
  rw [hu1] at this; exact (Option.some.inj this).symm
 have ev : vs.toArray[j] = v:=by
  have : vs[j]? = some vs.toArray[j]:=by simp at h2 ⊢
  rw [hv1] at this; exact (Option.some.inj this).symm
 rw [eu,ev]
 exact he j j1 j2 pins s σ A u v I hu ru rv
theorem zH {e : V→V→Bool} (hu : X.A.units + 2 < cLine) : OpR X (compareOp .Eq) (rLEq X false e):=by
 intro pins s σ H x y v u Q I rx ry h
 obtain ⟨p,q,xs,ys,rfl,rfl,hp,hq,he,k⟩:=h
 obtain rfl : v = Value.ref p:=rx
 obtain rfl : u = Value.ref q:=ry
 obtain ⟨us,r1,p1,_⟩:=I.list hp
 obtain ⟨vs,r2,p2,_⟩:=I.list hq
 by_cases hl : xs.length = ys.length
 ·refine SeqAt.eq_listAt (e:=fun i=>e (xs.getD i .non) (ys.getD i .non)) p1.isList p2.isList (by simp only [List.size_toArray]; rw [← r1.length,← r2.length]; exact hl) (by omega) (aAO I (by show X.A.units + 1 + 1 < cLine; omega) r1 r2 he) ⟨.bl _,H,I,rfl,?_⟩
  rw [show us.toArray.size = xs.length by rw [List.size_toArray,r1.length],← mV hl]
  exact k
 ·refine SeqAt.eq_list_lengthsAt p1.isList p2.isList (by simp only [List.size_toArray]; rw [← r1.length,← r2.length]; simpa using hl) (by omega) ⟨.bl _,H,I,rfl,?_⟩
  have k':=k
  rw [qZ hl] at k'
  exact k'
theorem zI (hc : X.calm = true) : cY X (.builtin "any") (fun xs H Q=>∃ (p : Addr) (bs : List Bool),xs = [.ref p]∧SqL X.K H p (bs.map V.bl)∧Q (.bl (bs.any id)) H):=by
 intro pins s σ H xs us Q I r h
 obtain ⟨p,bs,rfl,hp,q⟩:=h
 obtain ⟨u1,rfl,r1⟩:=r.one
 obtain rfl : u1 = Value.ref p:=r1
 obtain ⟨its,rv,pl,hz⟩:=I.list hp
 have hits : its = bs.map Value.bool:=by
  have go : ∀ (bs : List Bool) (its : List Value),Vals (bs.map V.bl) its→its = bs.map Value.bool:=by
   intro bs
   induction bs with
   | nil=>intro its r; cases r; rfl
   | cons b bs ih =>
    intro its r
    cases r with
    | cons r rr =>
     obtain rfl:=(show _ = Value.bool b from r)
     rw [ih _ rr]; rfl
  exact go bs its rv
 subst hits
 obtain ⟨ob,hob,_⟩:=id pl.isList
 have hlt : p < s.heap.objs.size:=Heap.lt_size hob
 refine call_any_walk (wpAny_pyIter_list pl.isList ⟨s.heap.objs.size,_,_,_,_,_,fun i=>bs.getD i false,rfl,Walks.list (show X.A.in1.handled = none from I.ok.hd hc) _ p (Nat.ne_of_lt hlt) _,⟨⟨_,Heap.get?_push_size _ rfl,rfl,rfl⟩,pl.isList.push _⟩,fun i v s1 Q' E' hv hq=>?_,fun h' tk k=>?_⟩)
 ·have hv' : (bs.map Value.bool)[i]? = some v:=by simpa using hv
  rw [List.getElem?_map] at hv'
  cases eb : bs[i]? with
  | none=>rw [eb] at hv'; cases hv'
  | some b =>
   rw [eb] at hv'
   obtain rfl : Value.bool b = v:=Option.some.inj hv'
   have : bs.getD i false = b:=by rw [List.getD_eq_getElem?_getD,eb]; rfl
   have hq' : Q' b s1:=by rw [← this]; exact hq
   exact wpAny_pure hq'
 ·have keep : ∀ b o,s.heap.get? b = some o→h'.get? b = some o:=fun b o e=>k b o (by simpa using Nat.ne_of_lt (Heap.lt_size e)) (Heap.get?_push_of_some _ e)
  refine ⟨.bl (bs.any id),H,I.kept (t':=tk) keep,?_,q⟩
  show Value.bool _ = Value.bool _
  congr 1
  have go : ∀ (bs : List Bool),((List.range bs.length).any fun i=>bs.getD i false) = bs.any id:=by
   intro bs
   induction bs with
   | nil=>rfl
   | cons b bs ih =>
    rw [List.length_cons,List.range_succ_eq_map,List.any_cons,List.any_map,List.any_cons,← ih]
    rfl
  rw [← go bs]
  simp
end
end L2
namespace L2
open PySem PySem.Spec PyProof.Rows
def mE (c : Addr) (qual : Str) : HO:=.ext fun h=>h.CodeRec (.ref c) qual
theorem aAP {P : Program} {w : World} {H : Hp} {h : Heap} {c : Addr} {qual : Str} (x : h.CodeRec (.ref c) qual) : bH P w H h c (mE c qual):=by
 refine ⟨x,?_,?_⟩
 ·obtain ⟨c',o,vs,t,e,ho,_⟩:=x
  cases e; exact ⟨o,ho⟩
 ·rintro h1 h2 ⟨c',o,vs,t,e,ho,r⟩ k
  cases e; exact ⟨c,o,vs,t,rfl,k o ho,r⟩
def aBu (f : Addr) (qual : Str) (params : Arguments) (body : Expr) (scope : Scope) (cells : List (Str × Addr)) (c : Addr) (h : Heap) : Prop :=
 ∃ (clos : List (Str × Addr)) (pm ctv : Value),(∀ x a,clos.lookup x = some a→cells.lookup x = some a)∧(∀ x,(x,NameKind.free)∈scope.names→∃ a,clos.lookup x = some a) ∧
  h.get? f = some (PySem.W.kla_obj "<lambda>" qual params body scope clos pm c ctv)
def lamO (f : Addr) (qual : Str) (params : Arguments) (body : Expr) (scope : Scope) (cells : List (Str × Addr)) (c : Addr) : HO:=.ext (aBu f qual params body scope cells c)
theorem vS {P : Program} {w : World} {H : Hp} {h : Heap} {f : Addr} {qual : Str} {params : Arguments} {body : Expr} {scope : Scope} {cells : List (Str × Addr)} {c : Addr} (x : aBu f qual params body scope cells c h) :
  bH P w H h f (lamO f qual params body scope cells c):=by
 refine ⟨x,?_,?_⟩
 ·obtain ⟨_,_,_,_,_,e⟩:=x
  exact ⟨_,e⟩
 ·rintro h1 h2 ⟨clos,pm,ctv,a,b,e⟩ k
  exact ⟨clos,pm,ctv,a,b,k _ e⟩
def wZ (lp : Pos) (qual : Str) (P : Addr) (H : Hp) : Prop:=H P = some (.tbl #[])∨∃ c,H P = some (.tbl #[rawInt lp.line,rawInt lp.col,.ref c])∧H c = some (mE c qual)
structure LamC (X : Cx) (c P : Addr) : Prop where
 code : X.env.code = .ref c
 hd : PySem.W.CodeHd X.base c P
 bm : ∃ bm o,X.mg "__builtins__" = some (.ref bm)∧bm ≠ builtinsNs∧bm ≠ mainGlobals∧X.base.get? bm = some o∧o.cls = .type "module" ∧ o.dict = some builtinsNs∧o.data = .plain
def tLam (lp : Pos) (qual : Str) (P : Addr) (params : Arguments) (body : Expr) (scope : Scope) (cells : List (Str × Addr)) : TE:=fun _ H Q=>wZ lp qual P H ∧
 ∀ (f c : Addr) (H2 : Hp),wZ lp qual P H2→(∀ b o,H b = some o→b ≠ P→H2 b = some o)→H2 c = some (mE c qual)→H2 f = some (lamO f qual params body scope cells c)→Q (.ref f) H2
theorem uV {lp : Pos} {c : Addr} : TriplesOk (#[rawInt lp.line,rawInt lp.col,.ref c] : Array Value).toList:=trivial
theorem zJ {lp : Pos} {c : Addr} : codeAmong lp (#[rawInt lp.line,rawInt lp.col,.ref c] : Array Value).toList = some (.ref c):=by
 show (if ((lp.line : Int) == (lp.line : Int) && (lp.col : Int) == (lp.col : Int)) = true then some (Value.ref c) else _) = _
 simp
section
variable {X : Cx} {c P : Addr} {params : Arguments} {body : Expr} {scope : Scope} {lp : Pos} {NB : List Str} {src : List (Option Nat)}
theorem LamC.at (C : LamC X c P) {pins : List (Addr × Obj)} {σ : St} {H : Hp} {s : Shared} {ps : Array Value} (I : Inv X pins σ H s) (hP : H P = some (.tbl ps)) : s.heap.BuiltinsAt X.mg P:=by
 obtain ⟨bm,o,b1,b2,b3,b4,b5,b6,b7⟩:=C.bm
 refine ⟨bm,o,b1,b2,b3,fun z=>?_,I.bk _ _ b4,b5,b6,b7⟩
 have:=(I.bs _ _ b4).2
 rw [z,hP] at this; cases this
theorem Inv.globs {pins : List (Addr × Obj)} {σ : St} {H : Hp} {s : Shared} (I : Inv X pins σ H s) : s.heap.Ns mainGlobals X.mg:=I.mod.glob.keeps I.bk
theorem aC2 (C : LamC X c P) (S : fR NB src scope X) (hdef : defaultsOf params X.env = ([],[]):=by rfl) : PE X (.Lambda params body scope lp) (tLam lp (X.env.qual ++ "<lambda>") P params body scope X.env.cells):=by
 intro pins s σ H Q I h
 obtain ⟨tab,h⟩:=h
 obtain ⟨clos,ecl,c1,c2⟩:=kP I.ok S
 refine PySem.W.kla_eval hdef ?_
 have hsz : ∀ b o,s.heap.get? b = some o→b < s.heap.objs.size:=fun b o e=>Heap.lt_size e
 rcases tab with hP | ⟨c',hP,hc'⟩
 ·-- the first time
  have hPo : s.heap.get? P = some (PySem.W.tabObj #[]):=I.hok P _ hP
  have hPL : X.env.locals ≠ P:=fun z=>by have f:=I.free; rw [z,hP] at f; cases f
  have hPg : mainGlobals ≠ P:=fun z=>by
   obtain ⟨o,es,ep,e,d,_⟩:=I.mod.glob
   have:=(I.bs _ _ e).2
   rw [z,hP] at this; cases this
  refine PySem.W.kla_makeFunction (mg:=X.mg) ecl I.ok.glob I.globs C.code (C.hd.keeps I.bk) hPo (by trivial) rfl hPg (C.at I hP) fun c' ctv h' tk hx hge hlt hrec htb=>?_
  have hgt : ∀ b o,b ≠ P→s.heap.get? b = some o→(h'.push (PySem.W.kla_obj "<lambda>" (X.env.qual ++ "<lambda>") params body scope clos ((X.mg "__name__").getD .none) c' ctv)).get? b = some o:=fun b o hb e=>Heap.get?_push_of_some _ (hx b o hb e)
  have hcP : c' ≠ P:=Nat.ne_of_gt (Nat.lt_of_lt_of_le (hsz _ _ hPo) hge)
  have hfP : h'.objs.size ≠ P:=Nat.ne_of_gt (Nat.lt_of_lt_of_le (hsz _ _ hPo) (Nat.le_trans hge (Nat.le_of_lt hlt)))
  have hfc : h'.objs.size ≠ c':=Nat.ne_of_gt hlt
  have nf : H h'.objs.size = none:=I.hok.fresh (by omega)
  have nc : H c' = none:=I.hok.fresh hge
  let H2 : Hp:=upd (upd (upd H P (.tbl #[rawInt lp.line,rawInt lp.col,.ref c'])) c' (mE c' (X.env.qual ++ "<lambda>"))) h'.objs.size (lamO h'.objs.size (X.env.qual ++ "<lambda>") params body scope X.env.cells c')
  have eP : H2 P = some (.tbl #[rawInt lp.line,rawInt lp.col,.ref c']):=by
   show upd _ _ _ _ = _
   rw [aD hfP.symm,aD hcP.symm,aB]
  have ec : H2 c' = some (mE c' (X.env.qual ++ "<lambda>")):=by
   show upd _ _ _ _ = _
   rw [aD hfc.symm,aB]
  have ef : H2 h'.objs.size = some (lamO h'.objs.size (X.env.qual ++ "<lambda>") params body scope X.env.cells c'):=aB
  have eo : ∀ b,b ≠ P→b ≠ c'→b ≠ h'.objs.size→H2 b = H b:=fun b h1 h2 h3=>by
   show upd _ _ _ _ = _
   rw [aD h3,aD h2,aD h1]
  have old : ∀ b o,H b = some o→b ≠ P→H2 b = some o:=fun b o e hb=>by
   rw [eo b hb (aF e nc) (aF e nf)]; exact e
  have I2 : Inv X pins σ H2 { s with heap:=h'.push (PySem.W.kla_obj "<lambda>" (X.env.qual ++ "<lambda>") params body scope clos ((X.mg "__name__").getD .none) c' ctv),toks:=tk }:=by
   refine I.step (g':=s.gens) (d':=s.drawn) (ch:=[]) (fun _ z=>absurd z (by simp)) (fun b o _ _ _ e n=>hgt b o (fun z=>by rw [z,hP] at n; cases n) e) (fun b o _ _ _ e n=>⟨o.slots,hgt b o (fun z=>by rw [z,hP] at n; cases n) e⟩)
    (fun b o _ e n=>?_) (fun b o _ e=>?_) (fun b xs e=>old b _ e fun z=>by rw [z,hP] at e; cases e) (fun b o u e=>old b _ e fun z=>by rw [z,hP] at e; cases e) (fun b ps e=>?_) (fun m hm=>?_) (fun b o e=>?_) I.bare
   ·rw [eo b (fun z=>by rw [z,hP] at n; cases n) (Nat.ne_of_lt (Nat.lt_of_lt_of_le (hsz b o e) hge)) (Nat.ne_of_lt (Nat.lt_of_lt_of_le (hsz b o e) (Nat.le_trans hge (Nat.le_of_lt hlt))))]
    exact n
   ·by_cases hb : b = P
    ·exact ⟨_,by rw [hb]; exact Heap.get?_push_of_some _ htb⟩
    ·exact ⟨o,hgt b o hb e⟩
   ·by_cases hb : b = P
    ·rw [hb] at e ⊢
     rw [hP] at e; cases e
     exact ⟨#[rawInt lp.line,rawInt lp.col,.ref c'],by rw [eP]; simp⟩
    ·exact ⟨#[],by rw [old b _ e hb]; simp⟩
   ·exact (hm.extBut hx hPL).push _
   ·by_cases hbf : b = h'.objs.size
    ·subst hbf
     rw [ef] at e; cases e
     exact vS ⟨clos,_,ctv,c1,c2,Heap.get?_push_size _ rfl⟩
    ·by_cases hbc : b = c'
     ·subst hbc
      rw [ec] at e; cases e
      refine aAP ?_
      obtain ⟨c₂,oc,vs,t,e2,hoc,r⟩:=hrec
      exact ⟨c₂,oc,vs,t,e2,Heap.get?_push_of_some _ hoc,r⟩
     ·by_cases hbP : b = P
      ·subst hbP
       rw [eP] at e; cases e
       exact Heap.get?_push_of_some _ htb
      ·rw [eo b hbP hbc hbf] at e
       refine (I.hok b o e).stay (fun d u hd q=>hgt d u ?_ q) (fun d q=>old d _ q fun z=>by rw [z,hP] at q; cases q) fun d xs q=>old d _ q fun z=>by rw [z,hP] at q; cases q
       rintro rfl
       rcases hd with z | z
       ·exact hbP z.symm
       ·rw [hP] at z; cases z
  exact ⟨.ref h'.objs.size,H2,I2,rfl,h _ c' H2 (.inr ⟨c',eP,ec⟩) old ec ef⟩
 ·-- again
  have hPo : s.heap.get? P = some (PySem.W.tabObj #[rawInt lp.line,rawInt lp.col,.ref c']):=I.hok P _ hP
  refine PySem.W.kla_makeFunctionHit (mg:=X.mg) ecl I.ok.glob I.globs C.code (C.hd.keeps I.bk) hPo uV zJ (C.at I hP) fun ctv h' tk hk hge=>?_
  have nf : H h'.objs.size = none:=I.hok.fresh hge
  let H2 : Hp:=upd H h'.objs.size (lamO h'.objs.size (X.env.qual ++ "<lambda>") params body scope X.env.cells c')
  have ef : H2 h'.objs.size = some (lamO h'.objs.size (X.env.qual ++ "<lambda>") params body scope X.env.cells c'):=aB
  have old : ∀ b o,H b = some o→H2 b = some o:=fun b o e=>by
   show upd _ _ _ _ = _
   rw [aD (aF e nf)]; exact e
  have hgt : ∀ b o,s.heap.get? b = some o→(h'.push (PySem.W.kla_obj "<lambda>" (X.env.qual ++ "<lambda>") params body scope clos ((X.mg "__name__").getD .none) c' ctv)).get? b = some o:=fun b o e=>Heap.get?_push_of_some _ (hk b o e)
  have I2 : Inv X pins σ H2 { s with heap:=h'.push (PySem.W.kla_obj "<lambda>" (X.env.qual ++ "<lambda>") params body scope clos ((X.mg "__name__").getD .none) c' ctv),toks:=tk }:=by
   refine I.step (g':=s.gens) (d':=s.drawn) (ch:=[]) (fun _ z=>absurd z (by simp)) (fun b o _ _ _ e n=>hgt b o e) (fun b o _ _ _ e n=>⟨o.slots,hgt b o e⟩)
    (fun b o _ e n=>?_) (fun b o _ e=>⟨o,hgt b o e⟩) (fun b xs e=>old b _ e) (fun b o u e=>old b _ e) (fun b ps e=>⟨#[],by rw [old b _ e]; simp⟩) (fun m hm=>(hm.keeps hk).push _) (I.hok.laid hgt hge (vS ⟨clos,_,ctv,c1,c2,Heap.get?_push_size _ rfl⟩)) I.bare
   ·show upd _ _ _ _ = _
    rw [aD (Nat.ne_of_lt (Nat.lt_of_lt_of_le (hsz b o e) hge))]
    exact n
  exact ⟨.ref h'.objs.size,H2,I2,rfl,h _ c' H2 (.inr ⟨c',old _ _ hP,old _ _ hc'⟩) (fun b o e _=>old b o e) (old _ _ hc') ef⟩
end
end L2
namespace L2
open PySem PySem.Spec PyProof.Rows
def zK (X : Cx) (id : String) (ks : List Str) (r : St→List V→List V→Hp→VK→Prop) : Prop :=
 ∀ (pins : List (Addr × Obj)) (s : Shared) (σ : St) (H : Hp) (vs zs : List V) (us ws : List Value) (Q : VK),Inv X pins σ H s→Vals vs us→Vals zs ws→r σ vs zs H Q →
  wpAny (model X.prog X.w) X.A (call (.builtin id) us (ks.zip ws)) (EP X pins σ Q) X.xe s
def tCBK (r : St→List V→List V→Hp→VK→Prop) (t tk : TA) : TE:=fun σ H Q=>t σ H fun vs H1=>tk σ H1 fun zs H2=>r σ vs zs H2 Q
section
variable {X : Cx} {x : Str} {p pos : Pos} {e : Expr} {es : List Expr} {kws : List Keyword} {t tk : TA} {id : String} {ks : List Str} {r : St→List V→List V→Hp→VK→Prop}
theorem zL (hc : zK X id ks r) (hg : Gl X x) (hm : X.mg x = none) (hv : bootBuiltins x = some (.builtin id)) (ha : PA X (e :: es) t) (hkw : PK X kws tk) (hn : x ≠ "__name__" := by decide) (hdb : (x == ("__debug__" : Str)) = false:=by decide)
  (hks : (backToKw pos (keywordEach kws X.env)).filterMap (·.1) = ks:=by rfl)
  (he : backTo pos (starEach (e :: es) X.env) = (false,eval e X.env) :: backTo pos (starEach es X.env):=by rfl)
  (hplain : (backTo pos (starEach (e :: es) X.env)).any (·.1) = false:=by rfl)
  (hall : (backToKw pos (keywordEach kws X.env)).all (·.1.isSome) = true:=by rfl)
  (hno : (backToKw pos (keywordEach kws X.env)).any (·.1.isNone) = false:=by rfl) : PE X (.Call (.Name x p) (e :: es) kws pos) (tCBK r t tk):=by
 intro pins s σ H Q I h
 refine wpAny_Call_Name_kw (iB I hg hm hv ?_ hn hdb)
 refine PyProof.Rows.callWith_kw (thn (ha pos pins s σ H _ I h) fun us s1 ⟨vs,H1,I1,r1,q1⟩=>?_) he hplain hall hno
 refine thn (hkw pos pins s1 σ H1 _ I1 q1) fun ws s2 ⟨zs,H2,I2,rz,q2⟩=>?_
 rw [hks]
 exact hc pins s2 σ H2 vs zs us ws Q I2 r1 rz q2
end
def KOut (za zb : Int) (ns out : List Int) : Prop:=∃ ps : List (Int × Int),ps.Perm (ns.map fun z=>((z - za) % zb,z))∧out = ps.map (·.2)∧ps.Pairwise fun p q=>p.1 ≤ q.1
def aC3 (X : Cx) (qual : Str) (params : Arguments) (body : Expr) (scope : Scope) (ia ib : Nat) : St→List V→List V→Hp→VK→Prop:=fun σ vs zs H Q =>
 ∃ (l f c : Addr) (ns : List Int) (za zb : Int),vs = [.ref l]∧zs = [.ref f]∧SqL X.K H l (ns.map V.int)∧ns.length < 64∧H f = some (lamO f qual params body scope X.env.cells c)∧H c = some (mE c qual) ∧
  σ[ia]? = some (some (.int za))∧σ[ib]? = some (some (.int zb))∧0 < zb∧∀ (r : Addr) (out : List Int),H r = none→KOut za zb ns out→Q (.ref r) (upd H r (.lst (out.map V.int)))
theorem rA : ∀ {ns : List Int} {vs : List Value},Vals (ns.map V.int) vs→IntsAre vs ns
 | [],_,.nil=>.nil
 | _ :: _,_,.cons ⟨t,e⟩ r=>by subst e; exact .cons _ t (rA r)
structure LamS (X : Cx) (qual : Str) (params : Arguments) (body : Expr) (scope : Scope) (y a b : Str) (ia ib : Nat) : Prop where
 bd : ∃ p1 p2 p3 p4 p5,body = .BinOp (.BinOp (.Name y p1) .Sub (.Name a p2) p3) .Mod (.Name b p4) p5
 bind : ∀ clos pm c ctv v,bindArgs (PySem.W.kla_fn "<lambda>" qual params body scope clos pm (.ref c) ctv) ⟨[v],[]⟩ = pure [(y,v)]
 na : X.N[ia]? = some a
 nb : X.N[ib]? = some b
 ca : X.env.scope.names.lookup a = some .cell
 cb : X.env.scope.names.lookup b = some .cell
 ly : scope.names.lookup y = some .local
 fa : scope.names.lookup a = some .free
 fb : scope.names.lookup b = some .free
 ma : (a,NameKind.free)∈scope.names
 mb : (b,NameKind.free)∈scope.names
 nocell : ∀ z∈scope.names,z.2 ≠ .cell
 kind : scope.kind = .function
 co : scope.isCoroutine = false
 gen : scope.isGenerator = false
 dy : (y == ("__debug__" : Str)) = false
 da : (a == ("__debug__" : Str)) = false∧(a == ("__classdict__" : Str)) = false
 db : (b == ("__debug__" : Str)) = false∧(b == ("__classdict__" : Str)) = false
theorem xA {X : Cx} {qual : Str} {params : Arguments} {body : Expr} {scope : Scope} {y a b : Str} {ia ib k : Nat} (S : LamS X qual params body scope y a b ia ib) (hr : Room k X.A) :
  zK X "sorted" ["key"] (aC3 X qual params body scope ia ib):=by
 intro pins s σ H vs zs us ws Q I r rz h
 obtain ⟨l,f,c,ns,za,zb,rfl,rfl,hl,h64,hf,hc,sa,sb,hb0,q⟩:=h
 obtain ⟨u1,rfl,r1⟩:=r.one
 obtain rfl : u1 = Value.ref l:=r1
 obtain ⟨w1,rfl,rw1⟩:=rz.one
 obtain rfl : w1 = Value.ref f:=rw1
 obtain ⟨its,rv,pl,hz⟩:=I.list hl
 have hI:=rA rv
 obtain ⟨m,F⟩:=I.fr
 obtain ⟨p1,p2,p3,p4,p5,rfl⟩:=S.bd
 obtain ⟨clos,pm,ctv,c1,c2,hfo⟩:=(I.hok f _ hf).1
 have hcr : s.heap.CodeRec (.ref c) qual:=(I.hok c _ hc).1
 obtain ⟨m',hn',hlk⟩:=I.loc
 have cellA : ∃ ca ta,clos.lookup a = some ca∧s.heap.IsCell ca (some (.int za ta)):=by
  obtain ⟨u,⟨ta,rfl⟩,lk⟩:=hlk ia a (.int za) S.na sa (.inr (.inl S.ca))
  obtain ⟨ca,e1⟩:=c2 a S.ma
  rcases lk with ⟨z,_⟩ | ⟨_,ca',e2,e3⟩
  ·have z' : X.env.scope.names.lookup a = some .local:=z
   rw [S.ca] at z'; cases z'
  ·have e4:=c1 a ca e1
   rw [e2] at e4; cases e4
   exact ⟨ca,ta,e1,e3⟩
 have cellB : ∃ cb tb,clos.lookup b = some cb∧s.heap.IsCell cb (some (.int zb tb)):=by
  obtain ⟨u,⟨tb,rfl⟩,lk⟩:=hlk ib b (.int zb) S.nb sb (.inr (.inl S.cb))
  obtain ⟨cb,e1⟩:=c2 b S.mb
  rcases lk with ⟨z,_⟩ | ⟨_,cb',e2,e3⟩
  ·have z' : X.env.scope.names.lookup b = some .local:=z
   rw [S.cb] at z'; cases z'
  ·have e4:=c1 b cb e1
   rw [e2] at e4; cases e4
   exact ⟨cb,tb,e1,e3⟩
 obtain ⟨ca,ta,ea,ha⟩:=cellA
 obtain ⟨cb,tb,eb,hb⟩:=cellB
 have noL : ∀ b' (o : Obj),s.heap.get? b' = some o→(∀ es ep,o.data ≠ .dict es ep)→b' ≠ X.env.locals:=fun b' o e d z=>by
  obtain ⟨o',es,ep,e',d',_⟩:=F.ns
  rw [z,e'] at e; cases e
  exact d _ _ d'
 have len : (ns.map fun z=>(z - za) % zb).length = its.length:=by rw [List.length_map,hI.length]
 refine ksk_sorted (b:=false) (f:=.ref f) (kz:=ns.map fun z=>(z - za) % zb) F aAD pl.isList len (by rw [hI.length]; exact h64) (ksk_s1 _ _) (fun x=>ksk_l1 _ _) (fun x=>ksk_t1 _ _) ?_ ?_
 ·-- one key
  intro i v k hv hk h tk own F' N'
  have at_ : ∀ b' u,b' ≠ X.env.locals→s.heap.get? b' = some u→h.get? b' = some u:=fun b' u hne e=>by
   cases z : X.base.get? b' with
   | some o =>
    have:=I.bk b' o z
    rw [e] at this; cases this
    exact F'.keep b' _ z
   | none=>exact (N' (b',u) (List.mem_append_left _ (kA hne z e))).1
  have hfo':=at_ f _ (noL f _ hfo (by intro es ep z; cases z)) hfo
  have hcr' : h.CodeRec (.ref c) qual:=by
   obtain ⟨c0,o,vs0,t0,e0,ho,hd,hv0⟩:=hcr
   refine ⟨c0,o,vs0,t0,e0,at_ _ _ (noL _ _ ho (by rw [hd]; intro es ep z; cases z)) ho,hd,hv0⟩
  have ha' : h.IsCell ca (some (.int za ta)):=by
   obtain ⟨o,ho,hd⟩:=ha
   exact ⟨o,at_ _ _ (noL _ _ ho (by rw [hd]; intro es ep z; cases z)) ho,hd⟩
  have hb' : h.IsCell cb (some (.int zb tb)):=by
   obtain ⟨o,ho,hd⟩:=hb
   exact ⟨o,at_ _ _ (noL _ _ ho (by rw [hd]; intro es ep z; cases z)) ho,hd⟩
  obtain ⟨z,tz,rfl,rfl⟩ : ∃ z tz,v = .int z tz∧k = (z - za) % zb:=by
   obtain ⟨n,t,e⟩:=hI.all v (List.mem_of_getElem? hv)
   refine ⟨n,t,e,?_⟩
   rw [List.getElem?_map] at hk
   have hn:=hI.nums
   have e1 : (its.map numOf)[i]? = some n:=by rw [List.getElem?_map,hv,e]; rfl
   rw [hn] at e1
   rw [e1] at hk
   exact (Option.some.inj hk).symm
  have hroom : X.A.in1.in1.depth < recursionLimit:=by
   have:=hr.dp
   show X.A.depth < _
   omega
  refine wpAny_call (PySem.W.kla_callFunE hroom hfo' rfl S.co S.gen rfl hcr' ?_)
  rw [S.bind]
  refine wpAny_pure (wpAny_newFunctionEnv S.nocell (fun x hx=>by rw [List.mem_singleton.mp hx]; exact S.ly) (fun h₁ hns hsb=>⟨((I.ok.mod.nolimit).keeps F'.keep).fresh _ hsb,?_⟩) S.kind)
  have hk₁ : ∀ b o,h.get? b = some o→h₁.get? b = some o:=fun b o e=>hsb.extBut b o (Nat.ne_of_lt (Heap.lt_size e)) (Heap.get?_push_of_some _ e)
  have ha₁:=ha'.keeps hk₁
  have hb₁:=hb'.keeps hk₁
  refine PySem.W.kla_codeExpr ?_
  refine wpAny_BinOp (wpAny_BinOp ?_)
  refine wpAny_Name (wpAny_loadName_local S.kind S.ly hns (v:=.int z tz) (by simp) ?_) S.dy
  refine wpAny_Name (wpAny_loadName_free S.kind S.fa ea ha₁ ?_ S.da.2) S.da.1
  refine sub_int ?_
  refine wpAny_Name (wpAny_loadName_free S.kind S.fb eb hb₁ ?_ S.db.2) S.db.1
  refine mod_int' (by omega) ?_
  rw [Int.fmod_eq_emod_of_nonneg _ (by omega)]
  refine KskEnd.intro (news':=gN X.base s.heap X.env.locals ++ own) ⟨F'.ns.keeps hk₁,fun b o e=>hk₁ b o (F'.keep b o e),F'.above⟩ (fun p hp=>⟨hk₁ _ _ (N' p hp).1,(N' p hp).2⟩) fun p hp=>hp
 ·-- the list
  intro D h' tk out cc F' N' hlt kout
  have hD:=rP I N' hlt
  obtain ⟨ps,hp,ho,hs⟩:=kout
  have hmem : ∀ p∈ps,∃ n t,p.2 = .int n t:=fun p hp'=>by
   have:=hp.mem_iff.mp hp'
   exact hI.all _ (List.of_mem_zip this).2
  have hz' : ((ns.map fun z=>(z - za) % zb).zip its).map (fun p=>(p.1,numOf p.2)) = ns.map fun z=>((z - za) % zb,z):=by
   have hn:=hI.nums
   rw [← hn]
   have go : ∀ (l : List Value),((((l.map numOf).map fun z=>(z - za) % zb).zip l).map fun p=>(p.1,numOf p.2)) = (l.map numOf).map fun z=>((z - za) % zb,z):=by
    intro l
    induction l with
    | nil=>rfl
    | cons x l ih=>simp only [List.map_cons,List.zip_cons_cons,ih]
   exact go its
  have vals : Vals ((ps.map fun p=>(p.1,numOf p.2)).map (fun p=>V.int p.2)) (ps.map Prod.snd):=by
   have go : ∀ (l : List (Int × Value)),(∀ p∈l,∃ n t,p.2 = .int n t)→Vals ((l.map fun p=>(p.1,numOf p.2)).map (fun p=>V.int p.2)) (l.map Prod.snd):=by
    intro l
    induction l with
    | nil=>intro _; exact .nil
    | cons x l ih =>
     intro hx
     refine .cons ?_ (ih fun p hp=>hx p (List.mem_cons_of_mem _ hp))
     obtain ⟨n,t,e⟩:=hx x List.mem_cons_self
     show ∃ t,x.2 = Value.int (numOf x.2) t
     rw [e]; exact ⟨t,rfl⟩
   exact go ps hmem
  have hout : KOut za zb ns ((ps.map fun p=>(p.1,numOf p.2)).map (·.2)):=by
   refine ⟨ps.map fun p=>(p.1,numOf p.2),?_,rfl,?_⟩
   ·rw [← hz']; exact hp.map _
   ·refine List.pairwise_map.mpr (hs.imp fun {p q} z=>?_)
    simpa using z
  have hDo : h'.get? D = some (seqObj "list" out cc):=(N' _ List.mem_cons_self).1
  have I2 : Inv X pins σ (upd H D (.lst (((ps.map fun p=>(p.1,numOf p.2)).map (·.2)).map V.int))) { s with heap:=h',toks:=tk }:=by
   refine I.fromK F F' (fun p hp=>N' p (List.mem_cons_of_mem _ hp)) hD ⟨?_,ps.map Prod.snd,cc,?_,?_⟩
   ·have h1:=hp.length_eq
    rw [List.length_zip,len,Nat.min_self] at h1
    simp only [List.length_map]
    rw [h1,hI.length]
    exact Nat.le_trans (Nat.le_of_lt h64) (by decide)
   ·have ev:=vals; simp only [List.map_map] at ev ⊢; exact ev
   ·rw [hDo,← ho]
  exact ⟨.ref D,_,I2,rfl,q D _ (I.hok.freshN hD) hout⟩
end L2
namespace L2
open PySem PySem.Spec PyProof.Rows
def BmOk (mg : Str→Option Value) (base : Heap) : Prop:=∃ bm o,mg "__builtins__" = some (.ref bm)∧bm ≠ builtinsNs∧bm ≠ mainGlobals∧base.get? bm = some o∧o.cls = .type "module" ∧ o.dict = some builtinsNs∧o.data = .plain
def rT (ts : List Addr) (H : Hp) : Prop:=(∀ P∈ts,H P = some (.tbl #[]))∧∀ b,H b = none∨(b∈ts∧H b = some (.tbl #[]))∨∃ o xs,H b = some (.frz o (.lst xs))
theorem zM {P : Program} {w : World} {K : PySem.W.Frag} {mg mb : Str→Option Value} {CX : CXT} {k : Nat} {fa a : Addr} {fd : FuncData} {x : Str} {sp : Sp} {s₁ : Shared} {vs : List Value} {ns : List Int} {ts : List Addr}
  (KX : K.In s₁.heap) (hns : s₁.heap.Ns mainGlobals mg) (hb : s₁.heap.Ns builtinsNs mb) (hbb : ∀ x : Str,x ≠ "__name__" → mb x = bootBuiltins x) (hlim : s₁.heap.NoLimit) (hg : s₁.gens = #[]) (hbm : BmOk mg s₁.heap)
  (hts : ∀ P∈ts,s₁.heap.get? P = some (PySem.W.tabObj #[])) (hcd : ∀ P∈ts,∃ c,PySem.W.codeHdIn K c P = true) (hkt : ∀ P∈ts,K.lookup P = none)
  (ha : s₁.heap.get? a = some { cls:=.type "list",data:=.seq vs.toArray }) (hi : IntsAre vs ns) (hl : ns.length ≤ sizeLine) (hr : Room k callerA)
  (F : ∀ base : Heap,K.In base→base.Ns mainGlobals mg→BmOk mg base→FnOk P w K mg base CX k fa fd [x] sp) (hbind : ∀ (s : Shared) (u : Value),BindsTo s fd ⟨[u],[]⟩ [(x,u)])
  (hsp : ∀ H : Hp,rT ts H→SqL K H a (ns.map V.int)→sp [.ref a] H (fun v _=>v = .bl true) fun _ _ _=>False)
  (hCX : ∀ H e s',CX [] H s₁ (fun _ _ _=>False) e s'→False) :
  codeAny (model P w) callerA (.call (.ref fa) ⟨[.ref a],[]⟩) (fun r s'=>r = .ok (.ret (.bool true))∧OldK s₁.heap s'.heap∧s'.os = s₁.os∧AllBare s'.gens) s₁:=by
 have rv:=qV hi
 have lenV:=hi.length
 have hat : a ∉ ts:=fun z=>by
  have:=hts a z
  rw [ha] at this; cases this
 have core : ∀ H : Hp,rT ts H→SqL K H a (ns.map V.int)→HOk P w H s₁.heap→(∀ b,H b ≠ none→b = a∨b∈ts)→(H a ≠ none→K.lookup a = none) →
   codeAny (model P w) callerA (.call (.ref fa) ⟨[.ref a],[]⟩) (fun r s'=>r = .ok (.ret (.bool true))∧OldK s₁.heap s'.heap∧s'.os = s₁.os∧AllBare s'.gens) s₁:=by
  intro H hO hS hok hA hK
  have base_of : ∀ {b : Addr} {o : Obj},s₁.heap.get? b = some o→H b = none→(hidT s₁.heap H).get? b = some o:=fun e n=>aAC e n
  have noA : ∀ {b : Addr} {o : Obj},s₁.heap.get? b = some o→(∀ v n,o.data ≠ .seq v n)→(∀ v,o.data ≠ .fields v)→H b = none:=fun {b o} e d1 d2=>by
   cases q : H b with
   | none=>rfl
   | some u =>
    rcases hA b (by rw [q]; simp) with e' | e'
    ·subst e'
     rw [ha] at e; cases e
     exact absurd rfl (d1 _ _)
    ·rw [hts b e'] at e; cases e
     exact absurd rfl (d2 _)
  have nsK : ∀ {b : Addr} {m : Str→Option Value},s₁.heap.Ns b m→(hidT s₁.heap H).Ns b m:=fun {b m} ⟨o,es,ep,e,d,r⟩=>⟨o,es,ep,base_of e (noA e (by rw [d]; intro v n z; cases z) (by rw [d]; intro v z; cases z)),d,r⟩
  have hKb : K.In (hidT s₁.heap H):=fun b o e=>base_of (KX b o e) (by
   cases q : H b with
   | none=>rfl
   | some u =>
    rcases hA b (by rw [q]; simp) with e' | e'
    ·subst e'
     rw [hK (by rw [q]; simp)] at e; cases e
    ·rw [hkt b e'] at e; cases e)
  have hB : BmOk mg (hidT s₁.heap H):=by
   obtain ⟨bm,o,b1,b2,b3,b4,b5,b6,b7⟩:=hbm
   exact ⟨bm,o,b1,b2,b3,base_of b4 (noA b4 (by rw [b7]; intro v n z; cases z) (by rw [b7]; intro v z; cases z)),b5,b6,b7⟩
  have hM : Mod K mg (hidT s₁.heap H):=⟨hKb,nsK hns,⟨mb,nsK hb,hbb⟩,let ⟨mc,h1,h2⟩:=hlim; ⟨mc,nsK h1,h2⟩⟩
  have e0 : Env0 P w K mg (hidT s₁.heap H) callerA [] s₁ H:=⟨rfl,hM,fun b o e=>aBG e,Nat.le_of_eq (yD _ _),trivial,fun b hb=>absurd (show b∈([] : List Addr) from hb) (by simp),hok,.of_eq hg⟩
  refine codeAny_mono ((F _ hKb (nsK hns) hB).run callerA [] s₁ H ⟨[.ref a],[]⟩ [.ref a] [.ref a] _ _ hr e0 (hbind s₁ (.ref a)) (.cons rfl .nil) (hsp H hO hS)) fun r s' h=>?_
  cases r with
  | error e=>exact (hCX H e s' h).elim
  | ok fl =>
   cases fl with
   | next=>exact False.elim h
   | brk=>exact False.elim h
   | cont=>exact False.elim h
   | ret u =>
    obtain ⟨v,H',os,bare,un,hok',r',q⟩:=h
    have q' : v = .bl true:=q
    subst q'
    obtain rfl : u = Value.bool true:=r'
    refine ⟨rfl,⟨fun b o e=>?_,fun b o e=>un.there b o e (by simp)⟩,os,bare⟩
    cases q : H b with
    | none=>exact .inl (un.keep b o e q (by intro z; exact absurd (show b∈([] : List Addr) from z) (by simp)) (by simp))
    | some u =>
     rcases hO.2 b with z | ⟨zt,z⟩ | ⟨ob,xs,z⟩
     ·rw [q] at z; cases z
     ·obtain ⟨more,z2⟩:=un.tbls b _ z
      have e1:=hts b zt
      rw [e] at e1; cases e1
      have e2 : s'.heap.get? b = some { cls:=.none,data:=.fields (#[] ++ more) }:=hok' b _ z2
      obtain ⟨c,hc⟩:=hcd b zt
      obtain ⟨oc,vsc,_,_,_,_,_,_,_,g1,g2,g3,g4,_⟩:=PySem.W.codeHd_of_K KX hc
      exact .inr (.inl ⟨⟨c,oc,vsc,g1,g2,g3,g4⟩,rfl,#[],more,rfl,e2⟩)
     ·have z2:=un.frzs b ob _ z
      obtain ⟨e1,_⟩:=hok b _ z
      obtain ⟨e2,_⟩:=hok' b _ z2
      rw [e] at e1; cases e1
      exact .inl e2
 have tabOk : ∀ (H : Hp),(∀ P∈ts,H P = some (.tbl #[]))→True:=fun _ _=>trivial
 classical
 cases hk : K.lookup a with
 | some o =>
  have e:=KX a o hk
  rw [ha] at e
  cases e
  refine core (fun b=>if b∈ts then some (.tbl #[]) else none) ⟨fun P hP=>if_pos hP,fun b=>?_⟩ (.inr ⟨_,vs.toArray,_,hk,rfl,rfl,rfl,by rw [List.size_toArray,lenV]; exact hl,by simpa using rv⟩) (fun b u z=>?_) (fun b z=>?_) fun z=>absurd (if_neg hat) z
  ·by_cases hb : b∈ts
   ·exact .inr (.inl ⟨hb,if_pos hb⟩)
   ·exact .inl (if_neg hb)
  ·by_cases hb : b∈ts
   ·have z':=(if_pos hb).symm.trans z
    cases z'
    exact hts b hb
   ·have z':=(if_neg hb).symm.trans z
    cases z'
  ·by_cases hb : b∈ts
   ·exact .inr hb
   ·exact absurd (if_neg hb) z
 | none =>
  refine core (fun b=>if b = a then some (.frz { cls:=.type "list",data:=.seq vs.toArray } (.lst (ns.map V.int))) else if b∈ts then some (.tbl #[]) else none) ⟨fun P hP=>?_,fun b=>?_⟩ (.inl (.inr ⟨{ cls:=.type "list",data:=.seq vs.toArray },if_pos rfl⟩)) (fun b u z=>?_) (fun b z=>?_) fun _=>hk
  ·have : P ≠ a:=fun z=>hat (z ▸ hP)
   show (if P = a then _ else if P∈ts then _ else _) = _
   rw [if_neg this,if_pos hP]
  ·by_cases hb : b = a
   ·exact .inr (.inr ⟨_,_,if_pos hb⟩)
   ·by_cases ht : b∈ts
    ·exact .inr (.inl ⟨ht,by show (if b = a then _ else if b∈ts then _ else _) = _; rw [if_neg hb,if_pos ht]⟩)
    ·exact .inl (by show (if b = a then _ else if b∈ts then _ else _) = _; rw [if_neg hb,if_neg ht])
  ·by_cases hb : b = a
   ·have z':=(if_pos hb).symm.trans z
    cases z'
    subst hb
    exact ⟨ha,by rw [List.length_map]; exact hl,vs,_,rv,ha⟩
   ·have z1 : (if b∈ts then some (HO.tbl #[]) else none) = some u:=(if_neg hb).symm.trans z
    by_cases ht : b∈ts
    ·rw [if_pos ht] at z1; cases z1
     exact hts b ht
    ·rw [if_neg ht] at z1; cases z1
  ·by_cases hb : b = a
   ·exact .inl hb
   ·by_cases ht : b∈ts
    ·exact .inr ht
    ·exact absurd (by show (if b = a then _ else if b∈ts then _ else _) = _; rw [if_neg hb,if_neg ht]) z
theorem aAQ {l : PySem.W.OpenLaw} {n k : Nat} {q : Program} {loose : List Str} {XP : (Str→Option Value)→Heap→Prop} {YP : World→Heap→Prop} {d : DefRec} {K : Params→PySem.W.Frag} {CX : World→CXT} {sp : World→Sp} {x : Str} {ts : List Addr}
  (hn : l.most = some n) (hn2 : n ≤ sizeLine) (hdf : d.params.defaults = []) (hr : Room k callerA)
  (hY : ∀ (w : World) (h : Heap),YP w h→(K w.params).In h) (hT : ∀ (w : World) (h : Heap),YP w h→∀ P∈ts,h.get? P = some (PySem.W.tabObj #[]))
  (hcd : ∀ (w : World),∀ P∈ts,∃ c,PySem.W.codeHdIn (K w.params) c P = true) (hkt : ∀ (w : World),∀ P∈ts,(K w.params).lookup P = none)
  (F : ∀ (w : World) (mg : Str→Option Value) (fa : Addr) (h : Heap),(K w.params).In h→h.Ns mainGlobals mg→mg d.name = some (.ref fa) →
   ∃ fd : FuncData,(∀ (s : Shared) (u : Value),BindsTo s fd ⟨[u],[]⟩ [(x,u)]) ∧
    ∀ base : Heap,(K w.params).In base→base.Ns mainGlobals mg→BmOk mg base→FnOk l.prog w (K w.params) mg base (CX w) k fa fd [x] (sp w))
  (hsp : ∀ (w : World) (H : Hp) (a : Addr) (ns : List Int),ns.length ≤ n→rT ts H→SqL (K w.params) H a (ns.map V.int)→sp w [.ref a] H (fun v _=>v = .bl true) fun _ _ _=>False)
  (hCX : ∀ (w : World) (H : Hp) (s : Shared) (e : Value) (s' : Shared),CX w [] H s (fun _ _ _=>False) e s'→False) :
  PySem.W.WalkO q loose XP YP l.row.toRowW d [] (fun f vs=>PySem.call f vs):=by
 refine Att.attach_call hn hdf fun w s₀ s₁ mg mb fa o pm cd doc a vs ns G Y ho hd hcd' hmg hobj hints hlen hg=>?_
 have KX:=hY w _ Y
 obtain ⟨fd,hb,hF⟩:=F w mg fa _ KX G.T.g hmg
 have hB : BmOk mg s₁.heap:=by
  obtain ⟨bm,ob,b1,b2,b3,b4,b5,b6⟩:=G.T.bmain
  refine ⟨bm,ob,b1,b2,fun z=>?_,b3,b4,b5,b6⟩
  obtain ⟨o',es,ep,e,hd',_⟩:=G.T.g
  rw [z,e] at b3; cases b3; rw [hd'] at b6; cases b6
 exact zM KX G.T.g G.T.b G.T.builtins G.T.nolimit hg hB (hT w _ Y) (hcd w) (hkt w) hobj hints (Nat.le_trans hlen hn2) hr hF hb (fun H hO hS=>hsp w H a ns hlen hO hS) fun H e s'=>hCX w H s₁ e s'
structure FunC (K : PySem.W.Frag) (x qual : Str) (st : Stmt) (f : Addr) (fd : FuncData) (c : Addr) : Prop where
 ex : ∃ (oc : Value) (od : Option Addr) (kV doc pm : Value) (an : Option Addr) (ct : Value) (osl : Array (Option Value)),
  fd = PySem.W.fnOf x qual (cP st) (cC st) (aI st) .none kV doc pm an (.ref c) ct∧K.lookup f = some ⟨oc,od,.func fd,osl⟩∧PySem.W.codeIn K (.ref c) qual = true
 kp : PySem.W.keepIn K (.ref f) = true
theorem FunC.fun {K : PySem.W.Frag} {x qual : Str} {st : Stmt} {f : Addr} {fd : FuncData} {c : Addr} (F : FunC K x qual st f fd c) : Fun K x qual st f fd:=by
 obtain ⟨oc,od,kV,doc,pm,an,ct,osl,e,lk,hcd⟩:=F.ex
 exact ⟨⟨oc,od,kV,doc,pm,an,_,ct,osl,e,lk,hcd⟩,F.kp⟩
section
variable {P : Program} {w : World} {K : PySem.W.Frag} {mg : Str→Option Value} {base : Heap}
theorem FunC.ok {x qual : Str} {st : Stmt} {f : Addr} {fd : FuncData} {c : Addr} {N ps : List Str} {k : Nat} {sp : Sp} (F : FunC K x qual st f fd c) (S : aY N ps (aI st)) (len : ∀ vs H Q E,sp vs H Q E→vs.length = ps.length)
  (hbody : ∀ (A : Around) (outer : List Env) (s : Shared) (H : Hp) (vs : List V) (Q : VK) (E : XK),Room k (A.deeper (envOfC qual (aI st) s.heap.objs.size f (.ref c)))→sp vs H Q E →
   ∃ t,PSs (cxOf CX0 P w K mg base N qual (aI st) f (.ref c) A outer s H E).nox (cC st) t∧t { nx:=fun _ H'=>Q .non H',rt:=Q } (start N vs) H) : FnOk P w K mg base CX0 (k + 1) f fd ps sp:=by
 obtain ⟨oc,od,kV,doc,pm,an,ct,osl,rfl,lk,hcd⟩:=F.ex
 refine aBq lk hcd S len fun A outer s H vs Q E hr hsp=>?_
 obtain ⟨t,h,q⟩:=hbody A outer s H vs Q E hr hsp
 exact ⟨t,h.nox,q⟩
theorem aBV {x qual : Str} {st : Stmt} {f c : Addr} {oc : Value} {od an : Option Addr} {osl : Array (Option Value)} {kV doc pm ct : Value} (l : K.lookup f = some ⟨oc,od,.func (PySem.W.fnOf x qual (cP st) (cC st) (aI st) .none kV doc pm an (.ref c) ct),osl⟩)
  (hcd : PySem.W.codeIn K (.ref c) qual = true) (kp : PySem.W.keepIn K (.ref f) = true) : FunC K x qual st f (PySem.W.fnOf x qual (cP st) (cC st) (aI st) .none kV doc pm an (.ref c) ct) c:=⟨⟨oc,od,kV,doc,pm,an,ct,osl,rfl,l,hcd⟩,kp⟩
theorem aBW {N : List Str} {qual : Str} {scope : Scope} {f c P' : Addr} {CX : CXT} {A : Around} {outer : List Env} {s : Shared} {H : Hp} {E : XK} (kb : K.In base) (hb : BmOk mg base) (hc : PySem.W.codeHdIn K c P' = true) :
  LamC (cxOf CX P w K mg base N qual scope f (.ref c) A outer s H E).nox c P':=⟨rfl,PySem.W.codeHd_of_K kb hc,hb⟩
end
end L2
namespace L2
open PySem PySem.Spec PyProof.Rows
def mG (sc scX : Scope) (y : Str × NameKind) : Bool:=match y.2 with
 | .cell=>(match sc.names.lookup y.1 with | some .cell=>true | _=>false)
 | .local=>(match sc.names.lookup y.1 with | some .local=>true | _=>false)
 | .free=>(match scX.names.lookup y.1 with | some .cell=>true | some .free=>true | _=>false)
 | _=>true
def zN (NB : List Str) (src : List (Option Nat)) (sc : Scope) (N : List Str) (i : Nat) : Bool:=match NB[i]?,src[i]? with
 | some x,some (some j)=>(N[j]? == some x) && (match sc.names.lookup x with | some .free=>true | _=>false)
 | _,_=>true
def vT (sc : Scope) : Bool:=match sc.kind with | .function=>true | _=>false
def zO (NB : List Str) (src : List (Option Nat)) (sc scX : Scope) (N : List Str) : Bool :=
 vT sc && decide NB.Nodup && (src.length == NB.length) && (sc.names.all (mG sc scX)) && (List.range NB.length).all (zN NB src sc N)
theorem bZ {NB : List Str} {src : List (Option Nat)} {sc : Scope} {X : Cx} (h : zO NB src sc X.env.scope X.N = true) : fR NB src sc X:=by
 unfold zO at h
 simp only [Bool.and_eq_true,decide_eq_true_eq,beq_iff_eq,List.all_eq_true] at h
 obtain ⟨⟨⟨⟨h1,h2⟩,h3⟩,h4⟩,h5⟩:=h
 refine ⟨?_,h2,h3,fun y hy z=>?_,fun y hy z=>?_,fun y hy z=>?_,fun i x j e1 e2=>?_⟩
 ·unfold vT at h1
  split at h1
  ·assumption
  ·cases h1
 ·have:=h4 y hy
  obtain ⟨n,k⟩:=y
  obtain rfl : k = .cell:=z
  dsimp only [mG] at this ⊢
  split at this
  ·assumption
  ·cases this
 ·have:=h4 y hy
  obtain ⟨n,k⟩:=y
  obtain rfl : k = .local:=z
  dsimp only [mG] at this ⊢
  split at this
  ·assumption
  ·cases this
 ·have:=h4 y hy
  obtain ⟨n,k⟩:=y
  obtain rfl : k = .free:=z
  dsimp only [mG] at this ⊢
  split at this
  ·exact .inl (by assumption)
  ·exact .inr (by assumption)
  ·cases this
 ·have hi : i < NB.length:=(List.getElem?_eq_some_iff.mp e1).1
  have:=h5 i (List.mem_range.mpr hi)
  unfold zN at this
  rw [e1,e2] at this
  simp only [Bool.and_eq_true,beq_iff_eq] at this
  refine ⟨this.1,?_⟩
  have t2:=this.2
  split at t2
  ·assumption
  ·cases t2
theorem dZ {K : PySem.W.Frag} {a D : Addr} {xs : List V} {g : TG} {tt : TT} {te : TE} {fin : Hp→Prop} {σB : St} {H0 : Hp} (Pv : Nat→List V→St→Hp→Prop) (h0 : Pv 0 [] σB H0)
  (hl : ∀ i ys σ H,i ≤ xs.length→Pv i ys σ H→SqL K H a xs)
  (hs : ∀ i x ys σ H (Kt : V→St→Hp→Prop) (Kf : St→Hp→Prop),xs[i]? = some x→Pv i ys σ H →
   (∀ v σ2 H4,H4 D = some (.lst ys)→ys.length < sizeLine→Pv (i + 1) (ys ++ [v]) σ2 (upd H4 D (.lst (ys ++ [v])))→Kt v σ2 H4)→(∀ σ2 H3,Pv (i + 1) ys σ2 H3→Kf σ2 H3) →
   g x σ H fun σ2 H2=>tt σ2 H2 fun b H3=>if b = true then te σ2 H3 fun v H4=>Kt v σ2 H4 else Kf σ2 H3)
  (hd : ∀ ys σ H,Pv xs.length ys σ H→fin H) : hV (Itl K a) g tt te D fin σB H0:=by
 refine ⟨fun i m σ H=>m = xs.length - i∧i ≤ xs.length∧∃ ys,Pv i ys σ H,⟨xs.length,by simp,Nat.zero_le _,[],h0⟩,?_⟩
 rintro i m σ H ⟨rfl,hi,ys,p⟩
 have q:=hl i ys σ H hi p
 by_cases hlt : i < xs.length
 ·refine .inr ⟨⟨xs,xs[i],q,by simp [hlt]⟩,?_⟩
  rintro x H' ⟨rfl,y⟩
  exact hs i x ys σ _ (fun v σ2 H4=>∃ ys,H4 D = some (.lst ys)∧ys.length < sizeLine∧∃ m',m' < xs.length - i∧m' = xs.length - (i + 1)∧i + 1 ≤ xs.length∧∃ ys',Pv (i + 1) ys' σ2 (upd H4 D (.lst (ys ++ [v]))))
   (fun σ2 H3=>∃ m',m' < xs.length - i∧m' = xs.length - (i + 1)∧i + 1 ≤ xs.length∧∃ ys',Pv (i + 1) ys' σ2 H3) (y xs q) p
   (fun v σ2 H4 z1 z2 z3=>⟨ys,z1,z2,_,by omega,rfl,hlt,_,z3⟩) (fun σ2 H3 z=>⟨_,by omega,rfl,hlt,_,z⟩)
 ·have e : i = xs.length:=by omega
  subst e
  exact .inl ⟨⟨xs,q,Nat.le_refl _⟩,hd ys σ H p⟩
theorem eZ {lo : Int} {n : Nat} {D : Addr} {g : TG} {tt : TT} {te : TE} {fin : Hp→Prop} {σB : St} {H0 : Hp} (Pv : Nat→List V→St→Hp→Prop) (h0 : Pv 0 [] σB H0)
  (hs : ∀ i ys σ H (Kt : V→St→Hp→Prop) (Kf : St→Hp→Prop),i < n→Pv i ys σ H →
   (∀ v σ2 H4,H4 D = some (.lst ys)→ys.length < sizeLine→Pv (i + 1) (ys ++ [v]) σ2 (upd H4 D (.lst (ys ++ [v])))→Kt v σ2 H4)→(∀ σ2 H3,Pv (i + 1) ys σ2 H3→Kf σ2 H3) →
   g (.int (lo + i)) σ H fun σ2 H2=>tt σ2 H2 fun b H3=>if b = true then te σ2 H3 fun v H4=>Kt v σ2 H4 else Kf σ2 H3)
  (hd : ∀ ys σ H,Pv n ys σ H→fin H) : hV (Itr lo n) g tt te D fin σB H0:=by
 refine ⟨fun i m σ H=>m = n - i∧i ≤ n∧∃ ys,Pv i ys σ H,⟨n,by simp,Nat.zero_le _,[],h0⟩,?_⟩
 rintro i m σ H ⟨rfl,hi,ys,p⟩
 by_cases hlt : i < n
 ·refine .inr ⟨hlt,?_⟩
  rintro x H' ⟨rfl,rfl⟩
  exact hs i ys σ _ (fun v σ2 H4=>∃ ys,H4 D = some (.lst ys)∧ys.length < sizeLine∧∃ m',m' < n - i∧m' = n - (i + 1)∧i + 1 ≤ n∧∃ ys',Pv (i + 1) ys' σ2 (upd H4 D (.lst (ys ++ [v]))))
   (fun σ2 H3=>∃ m',m' < n - i∧m' = n - (i + 1)∧i + 1 ≤ n∧∃ ys',Pv (i + 1) ys' σ2 H3) hlt p
   (fun v σ2 H4 z1 z2 z3=>⟨ys,z1,z2,_,by omega,rfl,hlt,_,z3⟩) (fun σ2 H3 z=>⟨_,by omega,rfl,hlt,_,z⟩)
 ·have e : i = n:=by omega
  subst e
  exact .inl ⟨Nat.le_refl _,hd ys σ H p⟩
end L2
namespace L2
open PySem PySem.Spec PyProof.Rows
section
variable {κ : Type} [DecidableEq κ]
def valV (kvs : List (κ × V)) (k : κ) : Option V:=(kvs.find? fun kv=>decide (kv.1 = k)).map (·.2)
def putK (kvs : List (κ × V)) (k : κ) (v : V) : List (κ × V) :=
 if (kvs.any fun kv=>decide (kv.1 = k)) = true then kvs.map (fun kv=>if kv.1 = k then (kv.1,v) else kv) else kvs ++ [(k,v)]
theorem eD {p : κ × V} {r : List (κ × V)} {k : κ} (e : p.1 = k) : valV (p :: r) k = some p.2:=by simp [valV,List.find?_cons,e]
theorem eE {p : κ × V} {r : List (κ × V)} {k : κ} (e : ¬ p.1 = k) : valV (p :: r) k = valV r k:=by simp [valV,List.find?_cons,e]
theorem kQ (k : κ) : ∀ kvs : List (κ × V),(kvs.any fun kv=>decide (kv.1 = k)) = (valV kvs k).isSome
 | []=>rfl
 | p :: r=>by
  rw [List.any_cons]
  by_cases e : p.1 = k
  ·simp only [eD e,decide_eq_true e,Bool.true_or,Option.isSome_some]
  ·rw [eE e,decide_eq_false e,Bool.false_or]; exact kQ k r
theorem lP (k j : κ) (y : V) : ∀ kvs : List (κ × V),valV kvs k = none→valV (kvs ++ [(k,y)]) j = if j = k then some y else valV kvs j
 | [],_=>by
  by_cases e : k = j
  ·rw [if_pos e.symm]; exact eD (p:=(k,y)) e
  ·rw [if_neg (fun z=>e z.symm)]; exact eE (p:=(k,y)) e
 | p :: r,hn=>by
  rw [List.cons_append]
  have hk : ¬ p.1 = k:=fun z=>by rw [eD z] at hn; cases hn
  rw [eE hk] at hn
  have ih:=lP k j y r hn
  by_cases e : p.1 = j
  ·rw [eD e,eD e,if_neg (fun z=>hk (e.trans z))]
  ·rw [eE e,eE e,ih]
theorem hW (kvs : List (κ × V)) (k : κ) (v : V) : (putK kvs k v).length ≤ kvs.length + 1:=by
 unfold putK
 split
 ·rw [List.length_map]; omega
 ·rw [List.length_append,List.length_cons,List.length_nil]; omega
theorem jE {kvs : List (κ × V)} {k : κ} (v : V) (h : valV kvs k = none) : putK kvs k v = kvs ++ [(k,v)]:=by
 unfold putK
 rw [kQ,h]
 exact if_neg (by decide)
theorem RelO.isSome_eq {o : Option V} {u : Option Value} (r : RelO o u) : o.isSome = u.isSome:=by
 cases o with
 | none=>cases u with
  | none=>rfl
  | some _=>exact (show False from r).elim
 | some _=>cases u with
  | none=>exact (show False from r).elim
  | some _=>rfl
theorem KV.val {kvs : List (κ × V)} {vs : List (κ × Value)} (r : KV kvs vs) (k : κ) : RelO (valV kvs k) (valueAt vs k):=by
 unfold KV at r
 induction r with
 | nil=>exact True.intro
 | @cons p q ps qs h t ih =>
  obtain ⟨h1,h2⟩:=h
  by_cases e : p.1 = k
  ·have e' : q.1 = k:=h1.symm.trans e
   have b : valueAt (q :: qs) k = some q.2:=by simp [valueAt,List.find?_cons,e']
   rw [eD e,b]; exact h2
  ·have e' : ¬ q.1 = k:=fun z=>e (h1.trans z)
   have b : valueAt (q :: qs) k = valueAt qs k:=by simp [valueAt,List.find?_cons,e']
   rw [eE e,b]; exact ih
theorem KV.any {kvs : List (κ × V)} {vs : List (κ × Value)} (r : KV kvs vs) (k : κ) : (kvs.any fun kv=>decide (kv.1 = k)) = vs.any fun kv=>decide (kv.1 = k):=by
 unfold KV at r
 induction r with
 | nil=>rfl
 | cons h t ih=>rw [List.any_cons,List.any_cons,ih,h.1]
theorem KV.repl {kvs : List (κ × V)} {vs : List (κ × Value)} (r : KV kvs vs) (k : κ) {y : V} {u : Value} (ry : RelV y u) :
  KV (kvs.map fun kv=>if kv.1 = k then (kv.1,y) else kv) (vs.map fun kv=>if kv.1 = k then (kv.1,u) else kv):=by
 unfold KV at r ⊢
 induction r with
 | nil=>exact .nil
 | @cons p q ps qs h t ih =>
  rw [List.map_cons,List.map_cons]
  refine .cons ?_ ih
  obtain ⟨h1,h2⟩:=h
  by_cases e : p.1 = k
  ·rw [if_pos e,if_pos (h1.symm.trans e)]; exact ⟨h1,ry⟩
  ·rw [if_neg e,if_neg (fun z=>e (h1.trans z))]; exact ⟨h1,h2⟩
theorem KV.put {kvs : List (κ × V)} {vs : List (κ × Value)} (r : KV kvs vs) (k : κ) {y : V} {u : Value} (ry : RelV y u) : KV (putK kvs k y) (stored vs k u):=by
 unfold putK stored
 rw [r.any k]
 by_cases e : (vs.any fun kv=>decide (kv.1 = k)) = true
 ·rw [if_pos e,if_pos e]; exact r.repl k ry
 ·rw [if_neg e,if_neg e]; exact Paired.snoc r ⟨rfl,ry⟩
theorem KV.keys {kvs : List (κ × V)} {vs : List (κ × Value)} (r : KV kvs vs) : kvs.map (·.1) = vs.map (·.1):=by
 unfold KV at r
 induction r with
 | nil=>rfl
 | cons h t ih=>rw [List.map_cons,List.map_cons,ih,h.1]
theorem KV.length {kvs : List (κ × V)} {vs : List (κ × Value)} (r : KV kvs vs) : kvs.length = vs.length:=Paired.length r
end
theorem kR {P : Program} {w : World} {k : Key} {u : Value} (r : RelV (kV k) u) : (bK P w).is k u = true:=by
 cases k with
 | inl i=>obtain ⟨t,e⟩:=(show ∃ t,u = Value.int i t from r); subst e; exact uN P w i t
 | inr x=>obtain ⟨t,e⟩:=(show ∃ t,u = Value.str x t from r); subst e; exact uO P w x t
theorem rB {P : Program} {w : World} : ∀ {ks : List Key} {us : List Value},Vals (ks.map kV) us→ItemsAre (bK P w) ks us
 | [],_,r=>by rw [List.map_nil] at r; cases r; exact .nil
 | k :: ks,_,r=>by
  rw [List.map_cons] at r
  cases r with
  | cons h t=>exact .cons (kR h) (rB t)
abbrev KT (H : Hp) : List (List Key × V)→List (List Key × Addr × Value)→Prop:=Paired fun p q=>p.1 = q.1∧H q.2.1 = some (.tup (p.1.map kV))∧RelV p.2 q.2.2
theorem KT.val {H : Hp} {kvs : List (List Key × V)} {xs : List (List Key × Addr × Value)} (r : KT H kvs xs) (k : List Key) : RelO (valV kvs k) ((atKey xs k).map (·.2)):=by
 induction r with
 | nil=>exact True.intro
 | @cons p q ps qs h t ih =>
  obtain ⟨h1,_,h2⟩:=h
  by_cases e : p.1 = k
  ·have e' : q.1 = k:=h1.symm.trans e
   have b : atKey (q :: qs) k = some q.2:=by simp [atKey,List.find?_cons,e']
   rw [eD e,b]; exact h2
  ·have e' : ¬ q.1 = k:=fun z=>e (h1.trans z)
   have b : atKey (q :: qs) k = atKey qs k:=by simp [atKey,List.find?_cons,e']
   rw [eE e,b]; exact ih
theorem KT.repl {H : Hp} {kvs : List (List Key × V)} {xs : List (List Key × Addr × Value)} (r : KT H kvs xs) (k : List Key) {y : V} {u : Value} (ry : RelV y u) :
  KT H (kvs.map fun kv=>if kv.1 = k then (kv.1,y) else kv) (xs.map (putAt k u)):=by
 induction r with
 | nil=>exact .nil
 | @cons p q ps qs h t ih =>
  rw [List.map_cons,List.map_cons]
  refine .cons ?_ ih
  obtain ⟨h1,h2,h3⟩:=h
  unfold putAt
  by_cases e : p.1 = k
  ·rw [if_pos e,if_pos (h1.symm.trans e)]; exact ⟨h1,h2,ry⟩
  ·rw [if_neg e,if_neg (fun z=>e (h1.trans z))]; exact ⟨h1,h2,h3⟩
theorem KT.put {H : Hp} {kvs : List (List Key × V)} {xs : List (List Key × Addr × Value)} (r : KT H kvs xs) (k : List Key) {b : Addr} {y : V} {u : Value} (hb : H b = some (.tup (k.map kV))) (ry : RelV y u) :
  KT H (putK kvs k y) (storedH xs k b u):=by
 have e : (kvs.any fun kv=>decide (kv.1 = k)) = (atKey xs k).isSome:=by
  rw [kQ,(r.val k).isSome_eq,Option.isSome_map]
 unfold putK storedH
 rw [e]
 by_cases q : (atKey xs k).isSome = true
 ·rw [if_pos q,if_pos q]; exact r.repl k ry
 ·rw [if_neg q,if_neg q]; exact Paired.snoc r ⟨rfl,hb,ry⟩
theorem KT.keeps {H H' : Hp} {kvs : List (List Key × V)} {xs : List (List Key × Addr × Value)} (r : KT H kvs xs) (ht : ∀ b ys,H b = some (.tup ys)→H' b = some (.tup ys)) : KT H' kvs xs :=
 Paired.mapP r fun _ _ z=>⟨z.1,ht _ _ z.2.1,z.2.2⟩
section
variable {P : Program} {w : World} {H : Hp} {h : Heap} {a : Addr}
theorem aBv {u : HO} (ok : HOk P w H h) (e : Rd H a u) : bH P w H h a u:=e.ok ok
theorem mH {kvs : List (Key × V)} (ok : HOk P w H h) (e : Rd H a (.dK kvs)) : kvs.length ≤ sizeLine∧(a == sysModules) = false∧∃ vs,KV kvs vs∧h.DictOf (bK P w) a vs :=
 show bH P w H h a (.dK kvs) from aBv ok e
theorem xB {kvs : List (Key × V)} (ok : HOk P w H h) (e : H a = some (.dK kvs)) : kvs.length ≤ sizeLine∧(a == sysModules) = false∧∃ vs,KV kvs vs∧h.DictOf (bK P w) a vs:=mH ok (.inl e)
theorem iD {ks : List Key} (ok : HOk P w H h) (e : H a = some (.tup (ks.map kV))) : (tupleKind (bK P w)).is h ks a:=by
 obtain ⟨_,its,r,o,h1,h2,n,h3⟩:=(show bH P w H h a (.tup (ks.map kV)) from ok a _ e)
 exact ⟨o,its.toArray,n,h1,h2,h3,by simpa using rB r⟩
theorem oG {kvs : List (List Key × V)} (ok : HOk P w H h) (e : Rd H a (.dT kvs)) : kvs.length ≤ sizeLine∧(a == sysModules) = false ∧
  ∃ xs,KT H kvs xs∧h.DictOfH (tupleKind (bK P w)) a xs:=by
 obtain ⟨z,y,xs,r,o,es,ep,h1,h2,h3,h4,h5⟩:=(show bH P w H h a (.dT kvs) from aBv ok e)
 refine ⟨z,y,xs,r,o,es,ep,h1,h2,h3,h4,fun x hx=>?_,h5⟩
 have all : ∀ {l : List (List Key × V)} {m : List (List Key × Addr × Value)},KT H l m→∀ x∈m,(tupleKind (bK P w)).is h x.1 x.2.1:=by
  intro l m q
  induction q with
  | nil=>intro x hx; exact nomatch hx
  | @cons p q ps qs hq t ih =>
   intro x hx
   rcases List.mem_cons.mp hx with e | hx
   ·subst e
    exact iD ok (by rw [← hq.1]; exact hq.2.1)
   ·exact ih x hx
 exact all r x hx
theorem aDR {kvs : List (List Key × V)} (ok : HOk P w H h) (e : H a = some (.dT kvs)) : kvs.length ≤ sizeLine∧(a == sysModules) = false ∧
  ∃ xs,KT H kvs xs∧h.DictOfH (tupleKind (bK P w)) a xs:=oG ok (.inl e)
end
def DGet (H : Hp) (a : Addr) (y : V) (r : Option V) : Prop :=
 (∃ kvs k,Rd H a (.dK kvs)∧y = kV k∧r = valV kvs k)∨∃ kvs k b,Rd H a (.dT kvs)∧y = .ref b∧H b = some (.tup (k.map kV))∧r = valV kvs k
def DPut (H : Hp) (a : Addr) (y v : V) (H' : Hp) : Prop :=
 (∃ kvs k,H a = some (.dK kvs)∧y = kV k∧kvs.length < sizeLine∧H' = upd H a (.dK (putK kvs k v))) ∨
 ∃ kvs k b,H a = some (.dT kvs)∧y = .ref b∧H b = some (.tup (k.map kV))∧kvs.length < sizeLine∧H' = upd H a (.dT (putK kvs k v))
theorem DGet.k {H : Hp} {a : Addr} {kvs : List (Key × V)} {k : Key} (e : H a = some (.dK kvs)) : DGet H a (kV k) (valV kvs k):=.inl ⟨kvs,k,.inl e,rfl,rfl⟩
theorem DGet.t {H : Hp} {a b : Addr} {kvs : List (List Key × V)} {k : List Key} (e : H a = some (.dT kvs)) (eb : H b = some (.tup (k.map kV))) : DGet H a (.ref b) (valV kvs k):=.inr ⟨kvs,k,b,.inl e,rfl,eb,rfl⟩
theorem DPut.k {H : Hp} {a : Addr} {kvs : List (Key × V)} {k : Key} {v : V} (e : H a = some (.dK kvs)) (hl : kvs.length < sizeLine) : DPut H a (kV k) v (upd H a (.dK (putK kvs k v))):=.inl ⟨kvs,k,e,rfl,hl,rfl⟩
theorem DPut.t {H : Hp} {a b : Addr} {kvs : List (List Key × V)} {k : List Key} {v : V} (e : H a = some (.dT kvs)) (eb : H b = some (.tup (k.map kV))) (hl : kvs.length < sizeLine) :
  DPut H a (.ref b) v (upd H a (.dT (putK kvs k v))):=.inr ⟨kvs,k,b,e,rfl,eb,hl,rfl⟩
section
variable {X : Cx} {pins : List (Addr × Obj)} {σ : St} {H : Hp} {s : Shared} {a : Addr} {y v : V} {u r : Value} {o : Option V} {A : Around} {E : Value→Shared→Prop}
theorem Inv.big (I : Inv X pins σ H s) : sysModules < s.heap.objs.size:=by
 have h : mainGlobals < s.heap.objs.size:=(I.mod.glob.keeps I.bk).lt
 exact Nat.lt_trans (by decide) h
theorem zP {Q : Value→Shared→Prop} (hu : A.units + 1 < cLine) (I : Inv X pins σ H s) (g : DGet H a y (some v)) (ry : RelV y u) (h : ∀ w' s',Inv X pins σ H s'→RelV v w'→Q w' s') :
  wpAny (model X.prog X.w) A (getItem (.ref a) u) Q E s:=by
 rcases g with ⟨kvs,k,e,ey,l⟩ | ⟨kvs,k,b,e,ey,eb,l⟩
 ·subst ey
  obtain ⟨z,hd,vs,rel,dd⟩:=mH I.hok e
  obtain ⟨w',hw,rw'⟩:=RelO.some_of (v:=v) (o:=valueAt vs k) (by rw [l]; exact rel.val k)
  exact wpAny_getItem_of (kR ry) dd.mapOf hw (h w' _ (I.tok _) rw')
 ·subst ey
  cases (show u = Value.ref b from ry)
  obtain ⟨z,hd,xs,rel,dd⟩:=oG I.hok e
  obtain ⟨w',hw,rw'⟩:=RelO.some_of (v:=v) (o:=(atKey xs k).map (·.2)) (by rw [l]; exact rel.val k)
  obtain ⟨p,hp,hp2⟩:=Option.map_eq_some_iff.mp hw
  refine wpAny_getItem_heap (tupleKind_room_in1 hu) (iD I.hok eb) dd hp ?_
  rw [hp2]
  exact h w' _ (I.tok _) rw'
theorem d_in {Q : Value→Shared→Prop} (hu : A.units + 1 < cLine) (I : Inv X pins σ H s) (g : DGet H a y o) (ry : RelV y u) (h : ∀ s',Inv X pins σ H s'→Q (.bool o.isSome) s') :
  wpAny (model X.prog X.w) A (compareOp .In u (.ref a)) Q E s:=by
 rcases g with ⟨kvs,k,e,ey,l⟩ | ⟨kvs,k,b,e,ey,eb,l⟩
 ·subst ey
  obtain ⟨z,hd,vs,rel,dd⟩:=mH I.hok e
  refine wpAny_in_of (kR ry) hd dd.mapOf ?_
  rw [← (rel.val k).isSome_eq,← l]
  exact h _ (I.tok _)
 ·subst ey
  cases (show u = Value.ref b from ry)
  obtain ⟨z,hd,xs,rel,dd⟩:=oG I.hok e
  refine wpAny_in_heap (tupleKind_room_in1 hu) (iD I.hok eb) hd dd ?_
  have q:=(rel.val k).isSome_eq
  rw [Option.isSome_map] at q
  rw [← q,← l]
  exact h _ (I.tok _)
theorem aBX {Q : Value→Shared→Prop} (hu : A.units + 1 < cLine) (I : Inv X pins σ H s) (g : DGet H a y o) (ry : RelV y u) (h : ∀ s',Inv X pins σ H s'→Q (.bool (!o.isSome)) s') :
  wpAny (model X.prog X.w) A (compareOp .NotIn u (.ref a)) Q E s:=by
 rcases g with ⟨kvs,k,e,ey,l⟩ | ⟨kvs,k,b,e,ey,eb,l⟩
 ·subst ey
  obtain ⟨z,hd,vs,rel,dd⟩:=mH I.hok e
  refine wpAny_notIn_of (kR ry) hd dd.mapOf ?_
  rw [← (rel.val k).isSome_eq,← l]
  exact h _ (I.tok _)
 ·subst ey
  cases (show u = Value.ref b from ry)
  obtain ⟨z,hd,xs,rel,dd⟩:=oG I.hok e
  refine wpAny_notIn_heap (tupleKind_room_in1 hu) (iD I.hok eb) hd dd ?_
  have q:=(rel.val k).isSome_eq
  rw [Option.isSome_map] at q
  rw [← q,← l]
  exact h _ (I.tok _)
theorem pX {h' : Heap} {t' : Nat} {ob : HO} (I : Inv X pins σ H s) (mu : Mut (H a)) (hs : Heap.SameBut a s.heap h') (he : ∃ q,h'.get? a = some q) (new : bH X.prog X.w (upd H a ob) h' a ob) :
  Inv X pins σ (upd H a ob) { s with heap:=h',toks:=t' } :=
 I.write (x:=a) (e:=a) mu (.inl rfl) (fun b q hb z=>(hs.2 b hb).trans z) he new
theorem zQ {P : Program} {w : World} {H' : Hp} {h' : Heap} {kvs : List (Key × V)} {vs : List (Key × Value)} (z : kvs.length ≤ sizeLine) (hd : (a == sysModules) = false) (rel : KV kvs vs) (dd : h'.DictOf (bK P w) a vs) :
  bH P w H' h' a (.dK kvs):=⟨z,hd,vs,rel,dd⟩
theorem zR {H' : Hp} {Q : Unit→Shared→Prop} (hu : A.units + 1 < cLine) (I : Inv X pins σ H s) (g : DPut H a y v H') (ry : RelV y u) (rv : RelV v r) (h : ∀ s',Inv X pins σ H' s'→Q () s') :
  wpAny (model X.prog X.w) A (setItem (.ref a) u r) Q E s:=by
 rcases g with ⟨kvs,k,e,ey,l,eH⟩ | ⟨kvs,k,b,e,ey,eb,l,eH⟩
 ·subst ey eH
  obtain ⟨z,hd,vs,rel,dd⟩:=xB I.hok e
  have hz : vs.length ≤ sizeLine:=by rw [← rel.length]; exact z
  have hl : (putK kvs k v).length ≤ sizeLine:=by have:=hW kvs k v; omega
  refine wpAny_setItem_pairs (hsz:=hz) (kR ry) dd fun h' dd' hs=>h _ ?_
  have he : ∃ q,h'.get? a = some q:=let ⟨q,_,_,hq,_⟩:=dd'; ⟨q,hq⟩
  exact pX I (by rw [e]; exact True.intro) hs he (zQ hl hd (rel.put k rv) dd')
 ·subst ey eH
  cases (show u = Value.ref b from ry)
  obtain ⟨z,hd,xs,rel,dd⟩:=aDR I.hok e
  have hz : xs.length ≤ sizeLine:=by rw [← Paired.length rel]; exact z
  have hl : (putK kvs k v).length ≤ sizeLine:=by have:=hW kvs k v; omega
  refine wpAny_setItem_heap (hsz:=hz) (tupleKind_room_in1 hu) (iD I.hok eb) dd fun h' dd' hs=>h _ ?_
  obtain ⟨q,es,ep,hq,h2,h3,h4,_,h5⟩:=dd'
  refine pX I (by rw [e]; exact True.intro) hs ⟨q,hq⟩ ⟨hl,hd,_,(rel.put k eb rv).keeps fun c ys ec=>?_,q,es,ep,hq,h2,h3,h4,h5⟩
  rw [aD (bO ec e (fun z=>nomatch z))]
  exact ec
end
section
variable {X : Cx} {pins : List (Addr × Obj)} {σ : St} {H : Hp} {s : Shared} {a : Addr} {kvs : List (Key × V)} {k : Key} {u : Value} {A : Around} {E : Value→Shared→Prop}
theorem aBw {Q : Value→Shared→Prop} (I : Inv X pins σ H s) (e : Rd H a (.dK kvs)) (h : ∀ t s',Inv X pins σ H s'→Q (.int kvs.length t) s') : wpAny (model X.prog X.w) A (call (.builtin "len") [.ref a]) Q E s:=by
 obtain ⟨z,hd,vs,rel,dd⟩:=mH I.hok e
 refine call_len_dict hd dd (by rw [← rel.length]; rw [sizeLine_eq] at z; omega) ?_
 rw [← rel.length]
 exact h _ _ (I.tok _)
end
def NoSl (i : Expr) : Prop:=∀ ov iv,subscripted i false ov iv = operate [ov,iv] (getItem ov iv)
theorem aBY {prog : Program} {w : World} {A : Around} {E : Value→Shared→Prop} {s : Shared} {env : Env} {value slice : Expr} {pos : Pos} {T id : String} {Q : Value→Shared→Prop}
  (hl : typeLookup (.type T) "__getitem__" = pure (some (.builtin id))) (hs : NoSl slice)
  (h : wpAny (model prog w) A (eval value env) (fun o s₁=>wpAny (model prog w) A (eval slice env) (fun i s₂=>s₂.TypeIs o T∧wpAny (model prog w) A (getItem o i) Q E s₂) E s₁) E s) :
  wpAny (model prog w) A (eval (.Subscript value slice pos) env) Q E s:=by
 refine Subscript_ (wpAny_mono h (fun o s₁ h₁=>wpAny_mono h₁ (fun i s₂ h₂=>?_) fun _ _ x=>x) fun _ _ x=>x)
 obtain ⟨hT,h₂⟩:=h₂
 unfold subscriptTail
 refine wpAny_bind ?_
 rw [getitemInPython_of_ne hT.not_modules]
 refine wpAny_bind (wpAny_specialOf hT hl ?_)
 have fin : wpAny (model prog w) A (subscripted slice false o i) (fun r s₃=>wpAny (model prog w) A (letTemporaryGo value o r >>= fun _=>pure r) Q E s₃) E s₂:=by
  rw [hs o i]
  exact wpAny_operating (wpAny_mono h₂ (fun r s₃ h₃=>wpAny_bind (wpAny_letTemporaryGo (wpAny_pure h₃))) fun _ _ x=>x)
 first
  | exact wpAny_pure (wpAny_bind fin)
  | exact wpAny_bind (wpAny_pure (wpAny_bind fin))
  | exact wpAny_bind fin
theorem uW {X : Cx} {pins : List (Addr × Obj)} {σ : St} {H : Hp} {s : Shared} {a : Addr} {y : V} {o : Option V} (I : Inv X pins σ H s) (g : DGet H a y o) : s.TypeIs (.ref a) "dict" := by
 rcases g with ⟨kvs,k,e,_,_⟩ | ⟨kvs,k,b,e,_,_,_⟩
 ·obtain ⟨_,_,vs,_,dd⟩:=mH I.hok e
  exact dd.typeIs
 ·obtain ⟨_,_,xs,_,dd⟩:=oG I.hok e
  exact dd.typeIs
def oH (td ty : TE) : TE:=fun σ H Q=>td σ H fun x H1=>ty σ H1 fun y H2=>∃ a v,x = .ref a∧DGet H2 a y (some v)∧Q v H2
def tDIn (ty td : TE) : TE:=fun σ H Q=>ty σ H fun y H1=>td σ H1 fun x H2=>∃ a o,x = .ref a∧DGet H2 a y o∧Q (.bl o.isSome) H2
def vU (ty td : TE) : TE:=fun σ H Q=>ty σ H fun y H1=>td σ H1 fun x H2=>∃ a o,x = .ref a∧DGet H2 a y o∧Q (.bl (!o.isSome)) H2
def aDS (td ty tv : TE) : TS:=fun D σ H=>tv σ H fun v H1=>td σ H1 fun x H2=>ty σ H2 fun y H3=>∃ a H4,x = .ref a∧DPut H3 a y v H4∧D.nx σ H4
section
variable {X : Cx} {o i e value : Expr} {pos pos' tpos : Pos} {td ty tv : TE}
theorem dA (hu : X.A.units + 1 < cLine) (ho : PE X o td) (hi : PE X i ty) (hs : NoSl i) : PE X (.Subscript o i pos) (oH td ty):=by
 intro pins s σ H Q I h
 refine aBY PySem.F.slot_dict_getitem.lookup hs (thn (ho pins s σ H _ I h) fun u s1 ⟨x,H1,I1,rx,q1⟩=>thn (hi pins s1 σ H1 _ I1 q1) fun iv s2 ⟨y,H2,I2,ry,a,v,ex,g,q2⟩=>?_)
 subst ex
 obtain rfl : u = Value.ref a:=rx
 exact ⟨uW I2 g,zP hu I2 g ry fun w' s3 I3 rw'=>⟨v,H2,I3,rw',q2⟩⟩
theorem aC4 (hu : X.A.units + 1 < cLine) (hi : PE X i ty) (ho : PE X o td) : PC X .In i o (tDIn ty td):=by
 intro pins s σ H Q I h
 refine thn (hi pins s σ H _ I h) fun iv s1 ⟨y,H1,I1,ry,q1⟩=>thn (ho pins s1 σ H1 _ I1 q1) fun u s2 ⟨x,H2,I2,rx,a,ov,ex,g,q2⟩=>?_
 subst ex
 obtain rfl : u = Value.ref a:=rx
 exact d_in hu I2 g ry fun s3 I3=>⟨.bl ov.isSome,H2,I3,rfl,q2⟩
theorem rC (hu : X.A.units + 1 < cLine) (hi : PE X i ty) (ho : PE X o td) : PC X .NotIn i o (vU ty td):=by
 intro pins s σ H Q I h
 refine thn (hi pins s σ H _ I h) fun iv s1 ⟨y,H1,I1,ry,q1⟩=>thn (ho pins s1 σ H1 _ I1 q1) fun u s2 ⟨x,H2,I2,rx,a,ov,ex,g,q2⟩=>?_
 subst ex
 obtain rfl : u = Value.ref a:=rx
 exact aBX hu I2 g ry fun s3 I3=>⟨.bl (!ov.isSome),H2,I3,rfl,q2⟩
theorem kE (hu : X.A.units + 1 < cLine) (ho : PE X o td) (hi : PE X i ty) (hv : PE X value tv) (hs : swapsWith value (some (.Subscript o i pos')) pos.line X.env = pure false) :
  PS X (.Assign [.Subscript o i pos'] value pos) (aDS td ty tv):=by
 intro pins s σ H D I h
 refine wpAny_Assign_Subscript (thn (hv pins s σ H _ I h) fun r s1 ⟨v,H1,I1,rv,q1⟩=>thn (ho pins s1 σ H1 _ I1 q1) fun u s2 ⟨x,H2,I2,rx,q2⟩=>thn (hi pins s2 σ H2 _ I2 q2) fun iv s3 ⟨y,H3,I3,ry,a,H4,ex,g,q3⟩=>?_) hs
 subst ex
 obtain rfl : u = Value.ref a:=rx
 exact zR hu I3 g ry rv fun s4 I4=>⟨σ,H4,I4,q3⟩
end
theorem sW {P : Program} {w : World} {H : Hp} (h : Heap) (hb : sysModules < h.objs.size) : bH P w H (h.push { cls:=.type "dict",data:=.dict #[] }) h.objs.size (.dK []) :=
 ⟨Nat.zero_le _,beq_eq_false_iff_ne.mpr (Ne.symm (Nat.ne_of_lt hb)),[],.nil,Heap.DictOf.new h⟩
theorem aAR {P : Program} {w : World} {H : Hp} (h : Heap) (hb : sysModules < h.objs.size) : bH P w H (h.push { cls:=.type "dict",data:=.dict #[] }) h.objs.size (.dT []) :=
 ⟨Nat.zero_le _,beq_eq_false_iff_ne.mpr (Ne.symm (Nat.ne_of_lt hb)),[],.nil,_,#[],0,Heap.get?_push_size _ rfl,⟨rfl,rfl,rfl⟩,rfl,rfl,List.nodup_nil⟩
def aC5 : TE:=fun _ H Q=>∀ p,H p = none→Q (.ref p) (upd H p (.dK []))
def aC6 : TE:=fun _ H Q=>∀ p,H p = none→Q (.ref p) (upd H p (.dT []))
section
variable {X : Cx} {pos : Pos}
theorem nC : PE X (.Dict [] [] pos) aC5:=fun pins s σ H Q I h =>
 wpAny_Dict_empty ⟨.ref s.heap.objs.size,_,I.laid (a:=s.heap.objs.size) (o:=.dK []) (t':=s.toks) (fun _ _ q=>Heap.get?_push_of_some _ q) (Nat.le_refl _) (sW s.heap I.big),rfl,h _ (I.hok.fresh (Nat.le_refl _))⟩
theorem aAS : PE X (.Dict [] [] pos) aC6:=fun pins s σ H Q I h =>
 wpAny_Dict_empty ⟨.ref s.heap.objs.size,_,I.laid (a:=s.heap.objs.size) (o:=.dT []) (t':=s.toks) (fun _ _ q=>Heap.get?_push_of_some _ q) (Nat.le_refl _) (aAR s.heap I.big),rfl,h _ (I.hok.fresh (Nat.le_refl _))⟩
end
def sX : List (TE × TE)→St→Hp→(List (V × V)→Hp→Prop)→Prop
 | [],_,H,Q=>Q [] H
 | (tk,tv) :: r,σ,H,Q=>tk σ H fun x H1=>tv σ H1 fun y H2=>sX r σ H2 fun ps H3=>Q ((x,y) :: ps) H3
abbrev VV : List (V × V)→List (Value × Value)→Prop:=Paired fun p q=>RelV p.1 q.1∧RelV p.2 q.2
def PPs (X : Cx) (pos : Pos) (keys : List (Option Expr)) (values : List Expr) (trs : List (TE × TE)) : Prop :=
 ∀ (pins : List (Addr × Obj)) (s : Shared) (σ : St) (H : Hp) (Q : List (V × V)→Hp→Prop),Inv X pins σ H s→sX trs σ H Q →
  wpAny (model X.prog X.w) X.A (evalPairs (pairTrees keys values X.env pos)) (fun vs s'=>∃ ps H',Inv X pins σ H' s'∧VV ps vs∧Q ps H') X.xe s
theorem aBZ {X : Cx} {pos : Pos} : PPs X pos [] [] []:=fun pins s σ H Q I h=>pairTrees_nil_walk ⟨[],H,I,.nil,h⟩
theorem aAT {X : Cx} {pos : Pos} {k v : Expr} {ks : List (Option Expr)} {vs : List Expr} {tk tv : TE} {trs : List (TE × TE)} (hk : PE X k tk) (hv : PE X v tv) (hr : PPs X pos ks vs trs) :
  PPs X pos (some k :: ks) (v :: vs) ((tk,tv) :: trs):=fun pins s σ H Q I h =>
 pairTrees_cons_walk (thn (hk pins s σ H _ I h) fun u s1 ⟨x,H1,I1,rx,q1⟩=>thn (hv pins s1 σ H1 _ I1 q1) fun w2 s2 ⟨y,H2,I2,ry,q2⟩ =>
  thn (hr pins s2 σ H2 _ I2 q2) fun ws s3 ⟨ps,H3,I3,rel,q3⟩=>⟨(x,y) :: ps,H3,I3,.cons ⟨rx,ry⟩ rel,q3⟩)
def kF (kvs more : List (Key × V)) : List (Key × V):=more.foldl (fun acc kv=>putK acc kv.1 kv.2) kvs
theorem KV.merge : ∀ {more : List (Key × V)} {rs : List (Key × Value)} {kvs : List (Key × V)} {vs : List (Key × Value)},KV more rs→KV kvs vs→KV (kF kvs more) (merged vs rs):=by
 intro more rs kvs vs r
 unfold KV at r
 induction r generalizing kvs vs with
 | nil=>intro q; exact q
 | @cons p q ps qs h t ih =>
  intro r0
  have e : KV (putK kvs p.1 p.2) (stored vs q.1 q.2):=by
   have:=r0.put p.1 h.2
   rw [← h.1]; exact this
  exact ih e
theorem lB : ∀ (more kvs : List (Key × V)),(kF kvs more).length ≤ kvs.length + more.length
 | [],kvs=>by show kvs.length ≤ kvs.length + 0; omega
 | p :: r,kvs=>by
  have h1:=lB r (putK kvs p.1 p.2)
  have h2:=hW kvs p.1 p.2
  show (kF (putK kvs p.1 p.2) r).length ≤ _
  rw [List.length_cons]; omega
theorem oI {P : Program} {w : World} : ∀ {kvs : List (Key × V)} {ws : List (Value × Value)},VV (kvs.map fun kv=>(kV kv.1,kv.2)) ws→∃ rs,Carries (bK P w) ws rs∧KV kvs rs
 | [],_,r=>by rw [List.map_nil] at r; cases r; exact ⟨[],True.intro,.nil⟩
 | p :: kvs,_,r=>by
  rw [List.map_cons] at r
  cases r with
  | @cons a b as bs h t =>
   obtain ⟨rs,c,q⟩:=oI (P:=P) (w:=w) t
   obtain ⟨b1,b2⟩:=b
   exact ⟨(p.1,b2) :: rs,⟨kR h.1,rfl,c⟩,.cons ⟨rfl,h.2⟩ q⟩
def aDT (trs : List (TE × TE)) : TE:=fun σ H Q=>∀ p,H p = none→sX trs σ (upd H p (.dK [])) fun ps H2=>H2 p = some (.dK [])∧∃ kvs : List (Key × V),ps = kvs.map (fun kv=>(kV kv.1,kv.2))∧kvs.length ≤ 15∧Q (.ref p) (upd H2 p (.dK (kF [] kvs)))
theorem aB0 {X : Cx} {pos : Pos} {keys : List (Option Expr)} {values : List Expr} {trs : List (TE × TE)} (h : PPs X pos keys values trs) (hall : keys.all (·.isSome) = true) (hl : keys.length = values.length) (h0 : keys ≠ [])
  (h15 : keys.length ≤ 15) : PE X (.Dict keys values pos) (aDT trs):=by
 intro pins s σ H Q I q
 have hn:=I.hok.fresh (Nat.le_refl s.heap.objs.size)
 have I1:=I.laid (a:=s.heap.objs.size) (o:=.dK []) (h':=s.heap.push { cls:=.type "dict",data:=.dict #[] }) (t':=s.toks) (fun _ _ q=>Heap.get?_push_of_some _ q) (Nat.le_refl _) (sW s.heap I.big)
 refine wpAny_Dict_walk (knd:=bK X.prog X.w) hall hl h0 h15 (thn (h pins _ σ _ _ I1 (q _ hn)) fun ws s2 ⟨ps,H2,I2,rel,e,kvs,ep,lk,q2⟩=>?_)
 subst ep
 obtain ⟨rs,c,rk⟩:=oI (P:=X.prog) (w:=X.w) rel
 obtain ⟨z,hd,vs0,r0,dd⟩:=xB I2.hok e
 cases r0
 refine ⟨rs,c,dd,fun h' dd' hs=>⟨.ref s.heap.objs.size,_,?_,rfl,q2⟩⟩
 have hz : (kF [] kvs).length ≤ sizeLine:=by
  have h1:=lB kvs []
  rw [List.length_nil] at h1
  rw [sizeLine_eq]; omega
 have he : ∃ q,h'.get? s.heap.objs.size = some q:=let ⟨q,_,_,hq,_⟩:=dd'; ⟨q,hq⟩
 exact pX I2 (by rw [e]; exact True.intro) hs he (zQ hz hd (rk.merge .nil) dd')
section
variable {X : Cx} {pins : List (Addr × Obj)} {σ : St} {H : Hp} {s : Shared} {a : Addr} {y d : V} {u r : Value} {o : Option V} {A : Around} {E : Value→Shared→Prop}
end
section
variable {X : Cx} {o e f : Expr} {apos cpos : Pos} {td ty tx : TE}
end
section
variable {X : Cx} {pins : List (Addr × Obj)} {σ : St} {H : Hp} {s : Shared} {a : Addr} {kvs : List (Key × V)} {A : Around} {E : Value→Shared→Prop}
end
section
variable {X : Cx} {pins : List (Addr × Obj)} {σ : St} {H : Hp} {s : Shared} {a : Addr} {y : V} {u : Value} {A : Around} {E : Value→Shared→Prop}
end
end L2
namespace L2
open PySem PySem.Spec PyProof.Rows
section
variable {X : Cx}
theorem zS : cY X (.builtin "len") (fun xs H Q=>∃ a kvs,xs = [V.ref a]∧H a = some (.dK kvs)∧Q (.int kvs.length) H):=by
 intro pins s σ H xs us Q I r h
 obtain ⟨a,kvs,rfl,ha,q⟩:=h
 obtain ⟨u,rfl,ru⟩:=jQ r
 cases ru
 exact aBw I (.inl ha) fun t s' I'=>⟨.int kvs.length,H,I',⟨t,rfl⟩,q⟩
end
section
variable {κ : Type} [DecidableEq κ]
theorem aB1 {kvs : List (κ × V)} {k : κ} {v : V} (h : valV kvs k = some v) : k∈kvs.map (·.1):=by
 have q : (kvs.any fun kv=>decide (kv.1 = k)) = true:=by
  rw [kQ,h]
  all_goals rfl
 obtain ⟨p,hp,e⟩:=List.any_eq_true.mp q
 exact List.mem_map.mpr ⟨p,hp,of_decide_eq_true e⟩
end
end L2
namespace L2
open PySem PySem.Spec PyProof.Rows
section
variable {X : Cx}
def aB2 : V→List V→Hp→VK→Prop:=fun x vs H Q=>∃ (l : Addr) (xs : List V) (j : Int) (i : Nat) (y : V),x = .ref l∧vs = [.int j,y]∧j = i∧H l = some (.lst xs)∧i ≤ xs.length∧xs.length < 4096∧Q .non (upd H l (.lst (xs.take i ++ [y] ++ xs.drop i)))
theorem zT : MtM X "list.insert" aB2:=by
 intro pins s σ H x vs v us Q I rx rv h
 obtain ⟨l,xs,j,i,y,rfl,rfl,hj,hH,h1,h2,q⟩:=h
 cases rx
 obtain ⟨u1,u2,rfl,r1,r2⟩:=rv.two
 obtain ⟨t,rfl⟩:=r1
 obtain ⟨z,its,n,r,hl,e⟩:=I.lstM hH
 have hs : its.length < 4096:=by omega
 have a0 : 0 ≤ j:=by omega
 have a1 : -(2 ^ 63 : Int) ≤ j:=Int.le_trans (by decide) a0
 have a2 : j < 2 ^ 63:=Int.lt_of_le_of_lt (show j ≤ 4096 by omega) (by decide)
 have a3 : its.toArray.size ≤ sizeLine:=by rw [List.size_toArray]; exact Nat.le_trans (Nat.le_of_lt hs) (by decide)
 have a4 : ¬ (!Builtin.List.listFitsIndex j) = true:=by rw [fitsIndex_both a1 a2]; decide
 have M:=AutoSeq1.list_insert_list_int_val_1 l its.toArray n j t u2 a4 a3
 refine call_meets F.slot_list_insert ⟨_,e,rfl⟩ F.entry_list_insert (F.args_list_insert_3 _ _ _) M ⟨e,?_⟩
 refine ⟨.non,_,I.lset (its':=its.take i ++ [u2] ++ its.drop i) hH e ?_ (((r.take i).append (.cons r2 .nil)).append (r.drop i)) ?_,rfl,q⟩
 ·have hk : (if j < 0 then (j + ((its.toArray.size : Nat) : Int)).toNat else min j.toNat its.toArray.size) = i:=by
   rw [if_neg (by omega),List.size_toArray]
   omega
  show (its.toArray.extract 0 _).push u2 ++ its.toArray.extract _ = _
  rw [hk]
  simp
  exact List.take_of_length_le (by rw [List.length_drop]; omega)
 ·simp only [List.length_append,List.length_take,List.length_drop,List.length_cons,List.length_nil]
  have : xs.length + 1 ≤ sizeLine:=Nat.le_trans (by omega : xs.length + 1 ≤ 4096) (by decide)
  omega
theorem oJ {x : V} : ∀ {xs : List V} {its : List Value},Vals xs its→xs.all dN = true→its.countP (eqU x) = xs.countP (fun z=>eqV z x)
 | [],_,.nil,_=>rfl
 | y :: xs,_,.cons (b:=u) r rr,f=>by
  have fy : dN y = true:=by rw [List.all_cons,Bool.and_eq_true] at f; exact f.1
  have fx : xs.all dN = true:=by rw [List.all_cons,Bool.and_eq_true] at f; exact f.2
  have h1 : [u].any (eqU x) = [y].any (fun z=>eqV z x):=iS (.cons r .nil) (by simp [fy])
  have h2 : eqU x u = eqV y x:=by simpa using h1
  rw [List.countP_cons,List.countP_cons,oJ rr fx,h2]
def aC7 : V→List V→Hp→VK→Prop:=fun x vs H Q=>∃ (l : Addr) (xs : List V) (y : V),x = .ref l∧vs = [y]∧H l = some (.lst xs)∧dN y = true∧xs.all dN = true∧Q (.int (xs.countP fun z=>eqV z y)) H
theorem sY : MtM X "list.count" aC7:=by
 intro pins s σ H x vs v us Q I rx rv h
 obtain ⟨l,xs,y,rfl,rfl,hH,fy,fs,q⟩:=h
 cases rx
 obtain ⟨u,rfl,ru⟩:=rv.one
 obtain ⟨z,its,n,r,hl,e⟩:=I.lstM hH
 refine call_meets F.slot_list_count ⟨_,e,rfl⟩ F.entry_list_count (F.args_list_count_2 _ _) (SeqAt.list_countAt l its.toArray n none #[] u (eqU y)) ⟨e,fun w hw=>gP ru fy r fs w (by simpa using hw),?_⟩
 refine ⟨.int _,H,I.tok _,⟨s.toks,?_⟩,q⟩
 rw [show its.toArray.toList = its by simp,oJ r fs]
end
end L2
namespace L2
open PySem PySem.Spec PyProof.Rows
def Ite (K : PySem.W.Frag) (a : Addr) : It :=
 ⟨fun i H=>∃ xs x,SqL K H a xs∧xs[i]? = some x,fun i H x H'=>∃ p v,x = .ref p∧H p = none∧H' = upd H p (.tup [.int i,v])∧∀ xs,SqL K H a xs→xs[i]? = some v,fun i H=>∃ xs,SqL K H a xs∧xs.length ≤ i⟩
theorem Inv.turned2 {X : Cx} {pins : List (Addr × Obj)} {σ : St} {H : Hp} {s : Shared} {h' : Heap} {e it p : Addr} {t' : Nat} {xs : List V} {its : List Value} (I : Inv X pins σ H s) (fe : FpOk X pins H e) (fi : FpOk X pins H it)
  (k : ∀ b o,b ≠ e→b ≠ it→s.heap.get? b = some o→h'.get? b = some o) (ke : ∃ o,h'.get? e = some o) (ki : ∃ o,h'.get? it = some o) (hp : s.heap.objs.size ≤ p) (hl : xs.length ≤ sizeLine) (r : Vals xs its)
  (ht : h'.get? p = some { cls:=.type "tuple",data:=.seq its.toArray }) : Inv X pins σ (upd H p (.tup xs)) { s with heap:=h',toks:=t' }:=by
 have hn:=I.hok.fresh hp
 obtain ⟨e0,e1,e2,e3,e4,e5⟩:=fe
 obtain ⟨i0,i1,i2,i3,i4,i5⟩:=fi
 have ne : ∀ b o,s.heap.get? b = some o→b ≠ p:=fun b o q=>Nat.ne_of_lt (Nat.lt_of_lt_of_le (Heap.lt_size q) hp)
 have keepN : ∀ b o,H b = some o→b ≠ e∧b ≠ it:=fun b o q=>⟨(fun z=>by rw [z,e0] at q; cases q),(fun z=>by rw [z,i0] at q; cases q)⟩
 refine I.step (g':=s.gens) (d':=s.drawn) (ch:=[e,it]) (fun b hb=>?_) (fun b o _ _ hb q _=>?_) (fun b o _ _ hb q _=>⟨o.slots,?_⟩) (fun b o hb q n=>by rw [aD (ne b o q)]; exact n) (fun b o hb q=>⟨o,?_⟩)
  (fun b ys q=>by rw [aD (aF q hn)]; exact q) (fun b o u q=>by rw [aD (aF q hn)]; exact q) (fun b ps q=>⟨#[],by rw [aD (aF q hn),q]; simp⟩) (fun m hm=>?_) (fun b o q=>?_) I.bare
 ·rcases List.mem_cons.mp hb with rfl | hb
  ·exact ⟨e3,e1,e4,e5⟩
  ·rw [List.mem_singleton.mp hb]; exact ⟨i3,i1,i4,i5⟩
 ·exact k b o (fun z=>hb (z ▸ List.mem_cons_self)) (fun z=>hb (z ▸ List.mem_cons_of_mem _ List.mem_cons_self)) q
 ·exact k b o (fun z=>hb (z ▸ List.mem_cons_self)) (fun z=>hb (z ▸ List.mem_cons_of_mem _ List.mem_cons_self)) q
 ·exact k b o (fun z=>hb (z ▸ List.mem_cons_self)) (fun z=>hb (z ▸ List.mem_cons_of_mem _ List.mem_cons_self)) q
 ·obtain ⟨o,es,ep,q,d,r'⟩:=hm
  exact ⟨o,es,ep,k _ _ e1.symm i1.symm q,d,r'⟩
 ·by_cases hb : b = p
  ·subst hb
   rw [aB] at q; cases q
   exact ⟨hl,its,r,_,ht,rfl,_,rfl⟩
  ·rw [aD hb] at q
   refine (I.hok b o q).stay (fun c u hc z=>k c u ?_ ?_ z) (fun c z=>by rw [aD (aF z hn)]; exact z) fun c ys z=>by rw [aD (aF z hn)]; exact z
   ·rcases hc with rfl | hc
    ·exact (keepN _ _ q).1
    ·exact (keepN _ _ hc).1
   ·rcases hc with rfl | hc
    ·exact (keepN _ _ q).2
    ·exact (keepN _ _ hc).2
theorem zU {P : Program} {w : World} {K : PySem.W.Frag} {es : List Expr} {x1 : Nat} {pos : Pos} (a e it : Addr) (hne : e ≠ it) :
  Turn P w K (.Tuple es x1 pos) (Ite K a) [e,it] e (fun i h=>(∃ old,IsEnum h e it (i : Int) old)∧h.IsListIter it a i) where
 mem:=by simp
 obj:=fun i h st b hb=>by
  obtain ⟨⟨old,he⟩,⟨o,q,c,d⟩⟩:=st
  rcases List.mem_cons.mp hb with rfl | hb
  ·exact ⟨_,he,fun v z=>by
    have z' : Data.fields _ = Data.cell v:=z
    cases z'⟩
  ·rw [List.mem_singleton.mp hb]
   exact ⟨o,q,fun v z=>by rw [d] at z; cases z⟩
 keep:=fun i h h' st k=>by
  obtain ⟨⟨old,he⟩,hi⟩:=st
  exact ⟨⟨old,k e (by simp) _ he⟩,hi.at fun o q=>k it (by simp) o q⟩
 item:=by
  intro X hP hw hK hc i pins s σ H E I hf st hg
  subst hP hw hK
  obtain ⟨xs,x,hq,hx⟩:=hg
  obtain ⟨its,rv,p,hz⟩:=I.list hq
  obtain ⟨u,hu,ru⟩:=rv.get hx
  obtain ⟨⟨old,he⟩,hi⟩:=st
  refine wpAny_pyNext_enum_item he hi p.isList (x:=u) (by simpa using hu) hne fun h' ho hi' ht hsz k=>?_
  refine ⟨_,rfl,wpAny_letOwnedTupleGo_enum ho fun h2 he2 hs2=>?_⟩
  have hpe : s.heap.objs.size ≠ e:=Nat.ne_of_gt (Heap.lt_size he)
  have hi2 : h2.IsListIter it a (i + 1):=hi'.extBut hs2.extBut hne.symm
  have fe:=hf e (by simp)
  have fi:=hf it (by simp)
  have I2 : Inv X pins σ (upd H s.heap.objs.size (.tup [.int i,x])) { s with heap:=h2,toks:=s.toks + 1 }:=by
   refine I.turned2 (its:=[.int i s.toks,u]) fe fi (fun b o h1 h3 q=>(hs2.2 b h1).trans (k b o h1 h3 q)) ⟨_,he2⟩ ?_ (Nat.le_refl _) (by show 2 ≤ sizeLine; decide) (.cons ⟨_,rfl⟩ (.cons ru .nil)) ((hs2.2 _ hpe).trans ht)
   obtain ⟨o,q,_⟩:=hi2
   exact ⟨o,q⟩
  refine ⟨.ref s.heap.objs.size,_,I2,rfl,⟨_,x,rfl,I.hok.fresh (Nat.le_refl _),rfl,fun ys hy=>by rw [I.list_inj hy hq]; exact hx⟩,⟨⟨u,he2⟩,hi2⟩,fun b hb=>?_⟩
  have f0:=(hf b hb).1
  rw [aD]
  ·exact f0
  ·rcases List.mem_cons.mp hb with rfl | hb
   ·exact hpe.symm
   ·rw [List.mem_singleton.mp hb]
    obtain ⟨o,q,_⟩:=hi
    exact Nat.ne_of_lt (Heap.lt_size q)
 done:=by
  intro X hP hw hK hc i pins s σ H E I hf st hg
  subst hP hw hK
  obtain ⟨xs,hq,hx⟩:=hg
  obtain ⟨its,rv,p,hz⟩:=I.list hq
  obtain ⟨f0,f1,f2,f3,f4,f5⟩:=hf it (by simp)
  obtain ⟨⟨old,he⟩,hi⟩:=st
  have hl:=rv.length
  exact wpAny_pyNext_enum_end (I.ok.hd hc) he hi p.isList (by simp; omega) fun h' eb=>⟨rfl,I.turned (t':=s.toks) (fun b o hb e=>eb b o hb e) f0 f1 f3 f4 f5⟩
 self:=fun _ _ _ _ _ st h=>by
  obtain ⟨⟨old,he⟩,_⟩:=st
  exact wpAny_pyIter_enum he h
end L2
namespace L2
open PySem PySem.Spec PyProof.Rows
section
variable {X : Cx}
def aDU (K : PySem.W.Frag) (ta : TA) : TI:=fun σ H R=>ta σ H fun vs H1=>∃ a xs,vs = [.ref a]∧H1 a = some (.lst xs)∧R (Ite K a) H1
theorem vV {es : List Expr} {x1 : Nat} {tpos : Pos} {a : Expr} {ta : TA} {p pos : Pos} (hg : Gl X "enumerate") (hm : X.mg "enumerate" = none) (ha : PA X [a] ta) (hs : starEach [a] X.env = [(false,eval a X.env)]:=by rfl) :
  PI X (.Tuple es x1 tpos) (.Call (.Name "enumerate" p) [a] [] pos) (aDU X.K ta):=by
 intro pins s σ H R I h
 refine Call_ (iB I hg hm (by decide +kernel : bootBuiltins "enumerate" = some (.type "enumerate")) (PyProof.Rows.callWith_type1 (thn (ha pos pins s σ H _ I h) fun us s1 ⟨vs,H1,I1,r1,q1⟩=>?_) hs rfl))
 obtain ⟨l,xs,rfl,hl,q⟩:=q1
 obtain ⟨u1,rfl,ru1⟩:=r1.one
 obtain rfl : u1 = Value.ref l:=ru1
 obtain ⟨z,its,n,r,_,e⟩:=I1.lstM hl
 refine call_enumerate_1 e fun h' he hi hsz k=>?_
 have hne : s1.heap.objs.size + 1 ≠ s1.heap.objs.size:=Nat.succ_ne_self _
 refine wpAny_pyIter_enum he ?_
 have I2 : Inv X pins σ H1 { s1 with heap:=h' }:=I1.kept (t':=s1.toks) k
 refine ⟨s1.heap.objs.size + 1,[s1.heap.objs.size + 1,s1.heap.objs.size],_,_,H1,rfl,I2,zU l _ _ hne,⟨⟨_,he⟩,hi⟩,fun b hb=>?_,q⟩
 have hb' : s1.heap.objs.size ≤ b:=by
  rcases List.mem_cons.mp hb with rfl | hb
  ·exact Nat.le_succ _
  ·rw [List.mem_singleton.mp hb]; exact Nat.le_refl _
 exact I1.fpOk hb' (I1.hok.fresh hb')
theorem sZ {K : PySem.W.Frag} {a : Addr} {xs : List V} {g : TG} {tb : TS} {D : Ends} {σ : St} {H : Hp} (Pv : Nat→St→Hp→Prop) (h0 : Pv 0 σ H) (hl : ∀ i σ H,i ≤ xs.length→Pv i σ H→SqL K H a xs)
  (hs : ∀ i x p σ H,xs[i]? = some x→Pv i σ H→H p = none→g (.ref p) σ (upd H p (.tup [.int i,x])) fun σ2 H2=>tb { D with nx:=Pv (i + 1),ct:=Pv (i + 1),bk:=D.nx } σ2 H2) (hd : ∀ σ H,Pv xs.length σ H→D.nx σ H) :
  ∃ W : Nat→Nat→St→Hp→Prop,(∃ m,W 0 m σ H)∧∀ i m σ H,W i m σ H →
   ((Ite K a).stop i H∧D.nx σ H)∨((Ite K a).go i H∧∃ N : St→Hp→Prop,(∀ σ' H',N σ' H'→∃ m',m' < m∧W (i + 1) m' σ' H')∧∀ x H',(Ite K a).yld i H x H'→g x σ H' fun σ2 H2=>tb { D with nx:=N,ct:=N,bk:=D.nx } σ2 H2):=by
 refine ⟨fun i m σ H=>m = xs.length - i∧i ≤ xs.length∧Pv i σ H,⟨xs.length,by simp,Nat.zero_le _,h0⟩,?_⟩
 rintro i m σ H ⟨rfl,hi,p⟩
 have q:=hl i σ H hi p
 by_cases hlt : i < xs.length
 ·refine .inr ⟨⟨xs,xs[i],q,by simp [hlt]⟩,Pv (i + 1),fun σ' H' p'=>⟨xs.length - (i + 1),by omega,rfl,hlt,p'⟩,fun x H' y=>?_⟩
  obtain ⟨pp,v,rfl,hn,rfl,hv⟩:=y
  exact hs i v pp σ _ (hv xs q) p hn
 ·have e : i = xs.length:=by omega
  subst e
  exact .inl ⟨⟨xs,q,Nat.le_refl _⟩,hd σ H p⟩
end
end L2
namespace L2
open PySem PySem.Spec PyProof.Rows
section
variable {prog : Program} {w : World} {A : Around} {E : Value→Shared→Prop} {s : Shared}
theorem xC {it t : Addr} {i : Nat} {xs : Array Value} {x : Value} {Q : Value→Shared→Prop} (hit : s.heap.IsTupleIter it t i) (ht : s.heap.IsTuple t xs) (hx : xs[i]? = some x)
  (q : ∀ h',h'.IsTupleIter it t (i + 1)→Heap.SameBut it s.heap h'→Q x { s with heap:=h' }) : wpAny (model prog w) A (Builtin.SmallTypes.nextOf (.ref it)) Q E s:=by
 obtain ⟨o,h1,h2,h3⟩:=id hit
 obtain ⟨p,k1,_,n,k3⟩:=ht
 unfold Builtin.SmallTypes.nextOf
 refine wpAny_bind (wpAny_callSpecial?_slot (name:=Str.ofString "__next__") hit.typeIs F.slot_tuple_iterator_next (wpAny_call_entry F.slot_tuple_iterator_next hit.typeIs F.entry_tuple_iterator_next ?_ (F.args_tuple_iterator_next_1 _)))
 change wpAny _ _ (field (.ref it) 0 >>= _) _ _ s
 refine wpAny_bind (wpAny_field h1 h3 (x:=.ref t) rfl ?_)
 change wpAny _ _ (if (Value.ref t == Value.none) = true then _ else _) _ _ s
 rw [if_neg (by exact Bool.false_ne_true)]
 change wpAny _ _ (field (.ref it) 1 >>= _) _ _ s
 refine wpAny_bind (wpAny_field h1 h3 (x:=.int i 0) rfl ?_)
 change wpAny _ _ (seqItems? (.ref t) >>= _) _ _ s
 refine wpAny_bind (wpAny_seqItems k1 k3 ?_)
 simp only [Int.toNat_natCast,hx]
 refine wpAny_bind (wpAny_setField h1 h3 (by simp) (wpAny_pure ⟨x,rfl,wpAny_pure (q _ ?_ (Heap.SameBut.update ..))⟩))
 refine ⟨_,Heap.get?_update_self _ h1 (Obj.isFreed_of_fields (Obj.data_mapFields h3 _)),(Obj.cls_mapFields ..).trans h2,?_⟩
 rw [Obj.data_mapFields h3]; simp [rawInt]
theorem rD {it t : Addr} {i : Nat} {xs : Array Value} {Q : Value→Shared→Prop} (hh : A.handled = none) (hit : s.heap.IsTupleIter it t i) (ht : s.heap.IsTuple t xs) (hx : xs[i]? = none)
  (q : ∀ h' e,Heap.ExtBut it s.heap h'→(∃ o,h'.get? e = some o∧o.cls = .type "StopIteration")→E (.ref e) { s with heap:=h' }) : wpAny (model prog w) A (Builtin.SmallTypes.nextOf (.ref it)) Q E s:=by
 obtain ⟨o,h1,h2,h3⟩:=id hit
 obtain ⟨p,k1,_,n,k3⟩:=ht
 unfold Builtin.SmallTypes.nextOf
 refine wpAny_bind (wpAny_callSpecial?_slot (name:=Str.ofString "__next__") hit.typeIs F.slot_tuple_iterator_next (wpAny_call_entry F.slot_tuple_iterator_next hit.typeIs F.entry_tuple_iterator_next ?_ (F.args_tuple_iterator_next_1 _)))
 change wpAny _ _ (field (.ref it) 0 >>= _) _ _ s
 refine wpAny_bind (wpAny_field h1 h3 (x:=.ref t) rfl ?_)
 change wpAny _ _ (if (Value.ref t == Value.none) = true then _ else _) _ _ s
 rw [if_neg (by exact Bool.false_ne_true)]
 change wpAny _ _ (field (.ref it) 1 >>= _) _ _ s
 refine wpAny_bind (wpAny_field h1 h3 (x:=.int i 0) rfl ?_)
 change wpAny _ _ (seqItems? (.ref t) >>= _) _ _ s
 refine wpAny_bind (wpAny_seqItems k1 k3 ?_)
 simp only [Int.toNat_natCast,hx]
 refine wpAny_bind (wpAny_rule (wpAny_bind (wpAny_setField h1 h3 (by simp) ?stop)))
 case stop =>
  change wpAny _ _ (newExc (.type "StopIteration") [] >>= _) _ _ _
  refine wpAny_bind ?_
  simp only [newExc,newTuple]
  refine wpAny_bind (wpAny_newObj_type (wpAny_bind (m:=firstArgMember _ _) (wpAny_of_eq (a:=Value.none) (by simp only [firstArgMember]; rfl) (wpAny_newObj_type ?_ (by size_fits)))) (by size_fits))
  simp only [raiseNew]
  refine wpAny_bind (wpAny_handled ?_)
  rw [show A.in1.handled = none from hh]
  exact wpAny_bind (wpAny_pure (wpAny_throw (q _ _ (fun b u hb z=>Heap.get?_push_of_some _ (Heap.get?_push_of_some _ ((Heap.get?_update_other _ _ (Ne.symm hb)).trans z))) ⟨_,Heap.get?_push_size _ rfl,rfl⟩)))
theorem uX (hh : A.handled = none) (it t : Addr) (hne : t ≠ it) (xs : Array Value) : Draws prog w A it [it,t] xs.size (fun i v=>xs[i]? = some v) (fun i h=>h.IsTupleIter it t i∧h.IsTuple t xs) where
 live:=fun _ _ st=>let ⟨o,ho,_⟩:=st.1; ⟨o,ho⟩
 frame:=fun _ _ _ st hk=>⟨st.1.at fun o e=>hk it (by simp) o e,let ⟨o,e,r⟩:=st.2; ⟨o,hk t (by simp) o e,r⟩⟩
 item:=fun i s Q E hi st q=>by
  refine xC st.1 st.2 (x:=xs[i]) (by simp [hi]) fun h' a b=>?_
  obtain ⟨o,e,r⟩:=st.2
  exact q _ h' s.toks (by simp [hi]) ⟨a,o,(b.2 t hne).trans e,r⟩ b
 done:=fun s Q E st q=>rD hh st.1 st.2 (by simp) q
end
end L2
namespace L2
open PySem PySem.Spec PyProof.Rows
theorem zV (t : Addr) (xs : Array Value) :
    Meets (Builtin.«enumerate.__new__» ⟨[.type "enumerate", .ref t], []⟩) (fun _ R s => s.heap.IsTuple t xs ∧
      R (.ok (.ret (.ref (s.heap.push { cls := .type "tuple_iterator", data := .fields #[.ref t, .int 0 0] }).objs.size)))
        { s with heap := (s.heap.push { cls := .type "tuple_iterator", data := .fields #[.ref t, .int 0 0] }).push { cls := .type "enumerate", data := .fields #[.none, .bool false, .ref s.heap.objs.size, rawInt 0, .none, .none] } }) :=
  .of_wp fun prog w A R s h => by
    obtain ⟨hp, g, d, tk, os⟩ := s
    obtain ⟨hT, h⟩ := h
    have hs := sub_enumerate
    wp_walk
    refine wpAny_stack_any fun st => wpAny_pure ?_
    split
    · rename_i c _ _ _ _ _
      cases (c == Value.type "enumerate") <;> · wp_walk using wpAny_pyIter_tuple hT
                                                exact ⟨_, rfl, h⟩
    · wp_walk using wpAny_pyIter_tuple hT
      exact ⟨_, rfl, h⟩
theorem xD {prog : Program} {w : World} {A : Around} {E : Value→Shared→Prop} {s : Shared} {t : Addr} {xs : Array Value} {Q : Value→Shared→Prop} (ht : s.heap.IsTuple t xs)
  (h : ∀ h',IsEnum h' (s.heap.objs.size + 1) s.heap.objs.size 0 .none→h'.IsTupleIter s.heap.objs.size t 0→(∀ b o,s.heap.get? b = some o→h'.get? b = some o)→Q (.ref (s.heap.objs.size + 1)) { s with heap:=h' }) :
  wpAny (model prog w) A (call (.type "enumerate") [.ref t]) Q E s:=by
 refine callType_new F.called_enumerate (by decide) (F.typeCall_enumerate_1 _) (F.newCall_enumerate_1 _) (fun obj=>F.args_object_init_2 obj _) F.entry_enumerate_new (zV t xs) ⟨ht,?_⟩
 have hz : (s.heap.push { cls:=.type "tuple_iterator",data:=.fields #[.ref t,.int 0 0] }).objs.size = s.heap.objs.size + 1:=Heap.size_push ..
 have he : IsEnum ((s.heap.push { cls:=.type "tuple_iterator",data:=.fields #[.ref t,.int 0 0] }).push
   { cls:=.type "enumerate",data:=.fields #[.none,.bool false,.ref s.heap.objs.size,rawInt 0,.none,.none] }) (s.heap.objs.size + 1) s.heap.objs.size 0 .none:=by
  have q:=Heap.get?_push_size (s.heap.push { cls:=.type "tuple_iterator",data:=.fields #[.ref t,.int 0 0] }) (o:={ cls:=.type "enumerate",data:=.fields #[.none,.bool false,.ref s.heap.objs.size,rawInt 0,.none,.none] }) rfl
  rw [hz] at q; exact q
 show _∧_
 rw [hz]
 exact ⟨⟨_,he,rfl⟩,h _ he ⟨_,Heap.get?_push_of_some _ (Heap.get?_push_size _ rfl),rfl,rfl⟩ fun b o x=>Heap.get?_push_of_some _ (Heap.get?_push_of_some _ x)⟩
def IteT (K : PySem.W.Frag) (a : Addr) : It :=
 ⟨fun i H=>∃ xs x,SqT K H a xs∧xs[i]? = some x,fun i H x H'=>∃ p v,x = .ref p∧H p = none∧H' = upd H p (.tup [.int i,v])∧∀ xs,SqT K H a xs→xs[i]? = some v,fun i H=>∃ xs,SqT K H a xs∧xs.length ≤ i⟩
theorem xE {P : Program} {w : World} {K : PySem.W.Frag} {es : List Expr} {x1 : Nat} {pos : Pos} (a e it : Addr) (hne : e ≠ it) (hae : a ≠ e) (hai : a ≠ it) :
  Turn P w K (.Tuple es x1 pos) (IteT K a) [e,it] e (fun i h=>(∃ old,IsEnum h e it (i : Int) old)∧h.IsTupleIter it a i) where
 mem:=by simp
 obj:=fun i h st b hb=>by
  obtain ⟨⟨old,he⟩,⟨o,q,c,d⟩⟩:=st
  rcases List.mem_cons.mp hb with rfl | hb
  ·exact ⟨_,he,fun v z=>by
    have z' : Data.fields _ = Data.cell v:=z
    cases z'⟩
  ·rw [List.mem_singleton.mp hb]
   exact ⟨o,q,fun v z=>by rw [d] at z; cases z⟩
 keep:=fun i h h' st k=>by
  obtain ⟨⟨old,he⟩,hi⟩:=st
  exact ⟨⟨old,k e (by simp) _ he⟩,hi.at fun o q=>k it (by simp) o q⟩
 item:=by
  intro X hP hw hK hc i pins s σ H E I hf st hg
  subst hP hw hK
  obtain ⟨xs,x,hq,hx⟩:=hg
  obtain ⟨its,rv,p,hz⟩:=I.tuple hq
  obtain ⟨u,hu,ru⟩:=rv.get hx
  obtain ⟨⟨old,he⟩,hi⟩:=st
  have hlt : i < its.toArray.size:=by
   have:=(List.getElem?_eq_some_iff.mp hu).1
   simpa using this
  have D:=uX (prog:=X.prog) (w:=X.w) (A:=X.A.in1) (I.ok.hd hc) it a hai its.toArray
  refine wpAny_pyNext_enum_itemD D he ⟨hi,p⟩ hlt hne (by simp [hne,hae.symm]) fun u' h' tk hu' ho hst ht hsz k=>?_
  have eu : u' = u:=by
   have h1 : its.toArray[i]? = some u:=by simpa using hu
   rw [h1] at hu'
   exact (Option.some.inj hu').symm
  subst eu
  refine ⟨_,rfl,wpAny_letOwnedTupleGo_enum ho fun h2 he2 hs2=>?_⟩
  have hpe : s.heap.objs.size ≠ e:=Nat.ne_of_gt (Heap.lt_size he)
  have hi2 : h2.IsTupleIter it a (i + 1):=hst.1.at fun o q=>(hs2.2 it hne.symm).trans q
  have fe:=hf e (by simp)
  have fi:=hf it (by simp)
  have I2 : Inv X pins σ (upd H s.heap.objs.size (.tup [.int i,x])) { s with heap:=h2,toks:=tk + 1 }:=by
   refine I.turned2 (its:=[.int i tk,u']) fe fi (fun b o h1 h3 q=>(hs2.2 b h1).trans (k b o h1 h3 q)) ⟨_,he2⟩ ?_ (Nat.le_refl _) (by show 2 ≤ sizeLine; decide) (.cons ⟨_,rfl⟩ (.cons ru .nil)) ((hs2.2 _ hpe).trans ht)
   obtain ⟨o,q,_⟩:=hi2
   exact ⟨o,q⟩
  refine ⟨.ref s.heap.objs.size,_,I2,rfl,⟨_,x,rfl,I.hok.fresh (Nat.le_refl _),rfl,fun ys hy=>by rw [I.tuple_inj hy hq]; exact hx⟩,⟨⟨u',he2⟩,hi2⟩,fun b hb=>?_⟩
  have f0:=(hf b hb).1
  rw [aD]
  ·exact f0
  ·rcases List.mem_cons.mp hb with rfl | hb
   ·exact hpe.symm
   ·rw [List.mem_singleton.mp hb]
    obtain ⟨o,q,_⟩:=hi
    exact Nat.ne_of_lt (Heap.lt_size q)
 done:=by
  intro X hP hw hK hc i pins s σ H E I hf st hg
  subst hP hw hK
  obtain ⟨xs,hq,hx⟩:=hg
  obtain ⟨its,rv,p,hz⟩:=I.tuple hq
  obtain ⟨f0,f1,f2,f3,f4,f5⟩:=hf it (by simp)
  obtain ⟨⟨old,he⟩,hi⟩:=st
  have hl:=rv.length
  unfold pyNext
  have hT : s.TypeIs (.ref e) "enumerate" := ⟨_,he,rfl⟩
  refine wpAny_bind (wpAny_attempt (wpAny_callSpecial?_slot (name:=Str.ofString "__next__") hT F.slot_enumerate_next (wpAny_call_entry F.slot_enumerate_next hT F.entry_enumerate_next ?_ (F.args_enumerate_next_1 _))))
  change wpAny _ _ (field (.ref e) 2 >>= _) _ _ _
  refine wpAny_bind (wpAny_field he rfl (x:=.ref it) rfl (wpAny_bind (rD (I.ok.hd hc) hi p (by simp; omega) fun h' x eb hx'=>?_)))
  obtain ⟨o,ho,hcl⟩:=hx'
  exact wpAny_bind (wpAny_isInstance (T := "StopIteration") (b:=true) ⟨o,ho,hcl⟩ isSubtype_stop (wpAny_pure ⟨rfl,I.turned (t':=s.toks) (fun b o hb e=>eb b o hb e) f0 f1 f3 f4 f5⟩))
 self:=fun _ _ _ _ _ st h=>by
  obtain ⟨⟨old,he⟩,_⟩:=st
  exact wpAny_pyIter_enum he h
end L2
namespace L2
open PySem PySem.Spec PyProof.Rows
section
variable {X : Cx}
def aC8 (K : PySem.W.Frag) (ta : TA) : TI:=fun σ H R=>ta σ H fun vs H1=>∃ a xs,vs = [.ref a]∧SqT K H1 a xs∧R (IteT K a) H1
theorem kS {es : List Expr} {x1 : Nat} {tpos : Pos} {a : Expr} {ta : TA} {p pos : Pos} (hg : Gl X "enumerate") (hm : X.mg "enumerate" = none) (ha : PA X [a] ta) (hs : starEach [a] X.env = [(false,eval a X.env)]:=by rfl) :
  PI X (.Tuple es x1 tpos) (.Call (.Name "enumerate" p) [a] [] pos) (aC8 X.K ta):=by
 intro pins s σ H R I h
 refine Call_ (iB I hg hm (by decide +kernel : bootBuiltins "enumerate" = some (.type "enumerate")) (PyProof.Rows.callWith_type1 (thn (ha pos pins s σ H _ I h) fun us s1 ⟨vs,H1,I1,r1,q1⟩=>?_) hs rfl))
 obtain ⟨l,xs,rfl,hl,q⟩:=q1
 obtain ⟨u1,rfl,ru1⟩:=r1.one
 obtain rfl : u1 = Value.ref l:=ru1
 obtain ⟨its,rv,pt,hz⟩:=I1.tuple hl
 have hlt : l < s1.heap.objs.size:=by obtain ⟨o,e,_⟩:=pt; exact Heap.lt_size e
 refine xD (show s1.heap.IsTuple l its.toArray from pt) fun h' he hi k=>?_
 have hne : s1.heap.objs.size + 1 ≠ s1.heap.objs.size:=Nat.succ_ne_self _
 refine wpAny_pyIter_enum he ?_
 have I2 : Inv X pins σ H1 { s1 with heap:=h' }:=I1.kept (t':=s1.toks) k
 refine ⟨s1.heap.objs.size + 1,[s1.heap.objs.size + 1,s1.heap.objs.size],_,_,H1,rfl,I2,xE l _ _ hne (Nat.ne_of_lt (Nat.lt_succ_of_lt hlt)) (Nat.ne_of_lt hlt),⟨⟨_,he⟩,hi⟩,fun b hb=>?_,q⟩
 have hb' : s1.heap.objs.size ≤ b:=by
  rcases List.mem_cons.mp hb with rfl | hb
  ·exact Nat.le_succ _
  ·rw [List.mem_singleton.mp hb]; exact Nat.le_refl _
 exact I1.fpOk hb' (I1.hok.fresh hb')
theorem iJ {K : PySem.W.Frag} {a D : Addr} {xs : List V} {g : TG} {tt : TT} {te : TE} {fin : Hp→Prop} {σB : St} {H0 : Hp} (Pv : Nat→List V→St→Hp→Prop) (h0 : Pv 0 [] σB H0)
  (hl : ∀ i ys σ H,i ≤ xs.length→Pv i ys σ H→SqT K H a xs)
  (hs : ∀ i x p ys σ H (Kt : V→St→Hp→Prop) (Kf : St→Hp→Prop),xs[i]? = some x→Pv i ys σ H→H p = none →
   (∀ v σ2 H4,H4 D = some (.lst ys)→ys.length < sizeLine→Pv (i + 1) (ys ++ [v]) σ2 (upd H4 D (.lst (ys ++ [v])))→Kt v σ2 H4)→(∀ σ2 H3,Pv (i + 1) ys σ2 H3→Kf σ2 H3) →
   g (.ref p) σ (upd H p (.tup [.int i,x])) fun σ2 H2=>tt σ2 H2 fun b H3=>if b = true then te σ2 H3 fun v H4=>Kt v σ2 H4 else Kf σ2 H3)
  (hd : ∀ ys σ H,Pv xs.length ys σ H→fin H) : hV (IteT K a) g tt te D fin σB H0:=by
 refine ⟨fun i m σ H=>m = xs.length - i∧i ≤ xs.length∧∃ ys,Pv i ys σ H,⟨xs.length,by simp,Nat.zero_le _,[],h0⟩,?_⟩
 rintro i m σ H ⟨rfl,hi,ys,p⟩
 have q:=hl i ys σ H hi p
 by_cases hlt : i < xs.length
 ·refine .inr ⟨⟨xs,xs[i],q,by simp [hlt]⟩,?_⟩
  rintro x H' ⟨pp,v,rfl,hn,rfl,hv⟩
  exact hs i v pp ys σ _ (fun v σ2 H4=>∃ ys,H4 D = some (.lst ys)∧ys.length < sizeLine∧∃ m',m' < xs.length - i∧m' = xs.length - (i + 1)∧i + 1 ≤ xs.length∧∃ ys',Pv (i + 1) ys' σ2 (upd H4 D (.lst (ys ++ [v]))))
   (fun σ2 H3=>∃ m',m' < xs.length - i∧m' = xs.length - (i + 1)∧i + 1 ≤ xs.length∧∃ ys',Pv (i + 1) ys' σ2 H3) (hv xs q) p hn
   (fun v σ2 H4 z1 z2 z3=>⟨ys,z1,z2,_,by omega,rfl,hlt,_,z3⟩) (fun σ2 H3 z=>⟨_,by omega,rfl,hlt,_,z⟩)
 ·have e : i = xs.length:=by omega
  subst e
  exact .inl ⟨⟨xs,q,Nat.le_refl _⟩,hd ys σ H p⟩
end
end L2
namespace L2
open PySem PySem.Spec PyProof.Rows
theorem Inv.freeze {X : Cx} {pins : List (Addr × Obj)} {σ : St} {H : Hp} {s : Shared} {d : Addr} {u : HO} {o : Obj} (I : Inv X pins σ H s) (hd : H d = some u) (ho : s.heap.get? d = some o) (hu : (∀ xs,u ≠ .tup xs)∧(∀ o v,u ≠ .frz o v)∧(∀ ps,u ≠ .tbl ps)∧(∀ x,u ≠ .own x)) :
  Inv X pins σ (upd H d (.frz o u)) s:=by
 have ok : HOk X.prog X.w (upd H d (.frz o u)) s.heap:=fun b v e=>by
  have st : ∀ {b v},bH X.prog X.w H s.heap b v→bH X.prog X.w (upd H d (.frz o u)) s.heap b v:=fun {b v} x =>
   x.stay (fun _ _ _ q=>q) (fun c q=>by rw [aD (fun z=>by rw [z,hd] at q; exact hu.2.2.2 _ (Option.some.inj q))]; exact q) fun c xs q=>by rw [aD (fun z=>by rw [z,hd] at q; exact hu.1 _ (Option.some.inj q))]; exact q
  by_cases hb : b = d
  ·subst hb
   rw [aB] at e; cases e
   exact ⟨ho,st (I.hok b u hd)⟩
  ·rw [aD hb] at e
   exact st (I.hok b v e)
 have r:=I.step (h':=s.heap) (H':=upd H d (.frz o u)) (g':=s.gens) (t':=s.toks) (d':=s.drawn) (ch:=[]) (fun _ z=>absurd z (by simp)) (fun b o' _ _ _ q _=>q) (fun b o' _ _ _ q _=>⟨o'.slots,q⟩)
  (fun b o' _ q n=>by rw [aD (fun z=>by rw [z,hd] at n; cases n)]; exact n) (fun b o' _ q=>⟨o',q⟩)
  (fun b xs q=>by rw [aD (fun z=>by rw [z,hd] at q; exact hu.1 _ (Option.some.inj q))]; exact q) (fun b o' v q=>by rw [aD (fun z=>by rw [z,hd] at q; exact hu.2.1 _ _ (Option.some.inj q))]; exact q)
  (fun b ps q=>⟨#[],by rw [aD (fun z=>by rw [z,hd] at q; exact hu.2.2.1 _ (Option.some.inj q)),q]; simp⟩) (fun m hm=>hm) ok I.bare
 exact r
def Itd (d : Addr) (o : Obj) (kvs : List (Key × V)) : It :=
 ⟨fun i H=>H d = some (.frz o (.dK kvs))∧i < kvs.length,fun i H x H'=>H' = H∧∃ k v,kvs[i]? = some (k,v)∧x = kV k,fun i H=>H d = some (.frz o (.dK kvs))∧kvs.length ≤ i⟩
theorem aB3 {P : Program} {w : World} {k : Key} {u : Value} (h : (bK P w).is k u = true) : RelV (kV k) u:=by
 cases k with
 | inl i =>
  have h' : Value.isInt i u = true:=h
  cases u <;> simp [Value.isInt] at h' <;> try exact h'.elim
  all_goals first | (subst h'; exact ⟨_,rfl⟩) | (rw [← h']; exact ⟨_,rfl⟩) | (rw [h']; exact ⟨_,rfl⟩)
 | inr x =>
  have h' : Value.isStrOf x u = true:=h
  cases u <;> simp [Value.isStrOf] at h' <;> try exact h'.elim
  all_goals first | (subst h'; exact ⟨_,rfl⟩) | (rw [← h']; exact ⟨_,rfl⟩) | (rw [h']; exact ⟨_,rfl⟩)
theorem rE {P : Program} {w : World} {K : PySem.W.Frag} {tg : Expr} (d it : Addr) (o : Obj) (kvs : List (Key × V)) (es : Array DictEntry) (ep : Nat) (hdat : o.data = .dict es ep) :
  Turn P w K tg (Itd d o kvs) [it] it (fun i h=>h.IsKeyIter it d i kvs.length ep) where
 mem:=by simp
 obj:=fun i h st b hb=>by
  have e : b = it:=by simpa using hb
  subst e
  obtain ⟨o,e,c,d⟩:=st
  exact ⟨o,e,fun v z=>by rw [d] at z; cases z⟩
 keep:=fun i h h' st k=>st.at fun o e=>k it (by simp) o e
 item:=by
  intro X hP hw hK hc i pins s σ H E I hf st hg
  subst hP hw hK
  obtain ⟨hd,hi⟩:=hg
  obtain ⟨ho,z,hS,vs,kv,ob,es',ep',g1,g2,g3,g4,g5,g6⟩:=I.hok d _ hd
  rw [ho] at g1; cases g1
  rw [hdat] at g3; cases g3
  have hm : s.heap.DictAt (bK X.prog X.w) d vs ep:=⟨o,es,ho,g2,hdat,g4,g5,g6⟩
  have hlen:=kv.length
  obtain ⟨f0,f1,f2,f3,f4,f5⟩:=hf it (by simp)
  have hi' : i < vs.length:=by omega
  obtain ⟨⟨k,v⟩,hv⟩ : ∃ p,vs[i]? = some p:=⟨_,List.getElem?_eq_getElem hi'⟩
  refine wpAny_pyNext_dict_item (by rw [← hlen]; exact st) hm hv fun key h' hk st' sb=>?_
  have I1 : Inv X pins σ H { s with heap:=h' }:=I.turned (t':=s.toks) (fun b o hb e=>(sb.2 b hb).trans e) f0 f1 f3 f4 f5
  obtain ⟨oi,ei,ci,di⟩:=id st'
  have hk1 : (kvs.map (·.1))[i]? = some k:=by rw [kv.keys,List.getElem?_map,hv]; rfl
  obtain ⟨p,hp,hpk⟩ : ∃ p,kvs[i]? = some p∧p.1 = k:=by
   rw [List.getElem?_map] at hk1
   cases q : kvs[i]? with
   | none=>rw [q] at hk1; cases hk1
   | some p=>rw [q] at hk1; exact ⟨p,rfl,Option.some.inj hk1⟩
  refine ⟨key,rfl,wI (s:={ s with heap:=h' }) ei ci di (by decide) ⟨kV k,H,I1,aB3 hk,⟨rfl,k,p.2,by rw [hp,← hpk],rfl⟩,by rw [hlen]; exact st',fun b hb=>(hf b hb).1⟩⟩
 done:=by
  intro X hP hw hK hc i pins s σ H E I hf st hg
  subst hP hw hK
  obtain ⟨hd,hi⟩:=hg
  obtain ⟨ho,z,hS,vs,kv,ob,es',ep',g1,g2,g3,g4,g5,g6⟩:=I.hok d _ hd
  rw [ho] at g1; cases g1
  rw [hdat] at g3; cases g3
  have hm : s.heap.DictAt (bK X.prog X.w) d vs ep:=⟨o,es,ho,g2,hdat,g4,g5,g6⟩
  have hlen:=kv.length
  obtain ⟨f0,f1,f2,f3,f4,f5⟩:=hf it (by simp)
  exact wpAny_pyNext_dict_end (I.ok.hd hc) (by rw [← hlen]; exact st) hm (List.getElem?_eq_none (by omega)) fun h' eb=>⟨rfl,I.turned (t':=s.toks) (fun b o hb e=>eb b o hb e) f0 f1 f3 f4 f5⟩
 self:=fun _ _ _ _ _ st h=>wpAny_pyIter_keyiter st h
section
variable {X : Cx} {tg : Expr}
def aDV (tl : TE) : TI:=fun σ H R=>tl σ H fun x H1=>∃ d kvs,x = .ref d∧H1 d = some (.dK kvs)∧∀ o,R (Itd d o kvs) (upd H1 d (.frz o (.dK kvs)))
theorem vW {l : Expr} {tl : TE} (hl : PE X l tl) : PI X tg l (aDV tl):=by
 intro pins s σ H R I h
 refine thn (hl pins s σ H _ I h) fun v s1 ⟨x,H1,I1,r1,q1⟩=>?_
 obtain ⟨d,kvs,e,hd,q⟩:=q1
 subst e
 cases r1
 obtain ⟨z,hS,vs,kv,o,es,ep,g1,g2,g3,g4,g5,g6⟩:=xB I1.hok hd
 have hm : s1.heap.DictAt (bK X.prog X.w) d vs ep:=⟨o,es,g1,g2,g3,g4,g5,g6⟩
 have I2:=I1.freeze hd g1 ⟨(fun _ z=>by cases z),(fun _ _ z=>by cases z),(fun _ z=>by cases z),(fun _ z=>by cases z)⟩
 refine wpAny_pyIter_dict hS hm ?_
 refine ⟨s1.heap.objs.size,[s1.heap.objs.size],_,_,_,rfl,I2.kept (t':=s1.toks) fun b o e=>Heap.get?_push_of_some _ e,rE d _ o kvs es ep g3,⟨_,Heap.get?_push_size _ rfl,rfl,by rw [kv.length]; rfl⟩,fun b hb=>?_,q o⟩
 have e : b = s1.heap.objs.size:=by simpa using hb
 subst e
 exact I2.fpOk (Nat.le_refl _) (I2.hok.fresh (Nat.le_refl _))
end
end L2
namespace L2
open PySem PySem.Spec PyProof.Rows
theorem tD : typeLookup (.type "list") "keys" = pure none:=by rw [typeLookup_type,builtinLookup_eq_fast]; kernel_rfl
theorem oK : typeLookup (.type "list") "__getattr__" = pure none:=by rw [typeLookup_type,builtinLookup_eq_fast]; kernel_rfl
theorem pY (l : Addr) (u : Tok) (items : Array Value) (n : Nat) :
  Meets (Builtin.«object.__getattribute__» ⟨[.ref l,.str "keys" u],[]⟩) (fun A R s=>s.heap.get? l = some { cls:=.type "list",data:=.seq items n }∧raisesAttr (.ref l) "keys" A R s) :=
 Meets.of_wp fun prog w A R s hs=>by
  obtain ⟨hp,g,d,tk,os⟩:=s
  obtain ⟨hl,hs⟩:=hs
  have hT : (⟨hp,g,d,tk,os⟩ : Shared).TypeIs (.ref l) "list" := ⟨_,hl,rfl⟩
  have f1:=tD
  unfold Builtin.«object.__getattribute__»
  repeat (any_goals (first | assumption | wp_step))
  exact wpAny_raiseAttrError hs.1 hs.2 (attrMsg_fits (by decide +kernel) (by decide +kernel))
theorem aC9 {prog : Program} {w : World} {A : Around} {E : Value→Shared→Prop} {s : Shared} {l : Addr} {items : Array Value} {n : Nat} {Q : Option Value→Shared→Prop} (hA : A.handled = none) (hl : s.heap.get? l = some { cls:=.type "list",data:=.seq items n })
  (h : ∀ h' tk,(∀ b o,s.heap.get? b = some o→h'.get? b = some o)→Q none { s with heap:=h',toks:=tk }) : wpAny (model prog w) A (getAttr? (.ref l) "keys") Q E s:=by
 obtain ⟨hp,g,d,tk,os⟩:=s
 have hT : ∀ tk,(⟨hp,g,d,tk,os⟩ : Shared).TypeIs (.ref l) "list" := fun _=>⟨_,hl,rfl⟩
 have f1:=sub_AttributeError
 have f3:=F.slot_list_getattribute.lookup
 have f4:=F.slot_list_getattribute.bind (.ref l)
 have f5:=oK
 unfold getAttr? getAttrBy?
 refine wpAny_bind (wpAny_mkText ?_)
 refine wpAny_bind (wpAny_attempt ?_)
 unfold getAttrBy
 repeat (any_goals (first | assumption | ((with_reducible show wpAny _ _ (call (Value.builtin "list.__getattribute__") _ _) _ _ _); refine call_meets F.slot_list_getattribute (hT _) F.entry_list_ga (F.args_list_getattribute_2 _ _) (pY l _ items n) ⟨hl,hA,fun h' tk' e hx=>?_⟩) | wp_step))
 obtain ⟨t',u',he⟩:=hx.there
 show wpAny _ _ (getattributeRaised _ _ _ _ _ _ _) _ _ _
 unfold getattributeRaised
 repeat (any_goals (first | assumption | wp_step))
 exact h _ _ hx.keeps
end L2
namespace L2
open PySem PySem.Spec PyProof.Rows
theorem mW : entryFor table "dict.update.loop" = some Builtin.«dict.update.loop»:=entryFor_of_tree (by kernel_rfl)
theorem hX : plainId "dict.update.loop" = true:=by decide +kernel
def jF (P : Program) (w : World) (h : Heap) (vs : List Value) (ps : List (Key × Value)) : Prop:=vs.length = ps.length∧∀ (i : Nat) (v : Value),vs[i]? = some v→∃ (a : Addr) (o : Obj) (n : Nat) (key : Value) (k : Key) (x : Value),v = Value.ref a∧h.get? a = some o∧o.cls = .type "tuple" ∧ o.data = .seq #[key,x] n∧(bK P w).is k key = true∧ps[i]? = some (k,x)
theorem jF.keeps {P : Program} {w : World} {h h' : Heap} {vs : List Value} {ps : List (Key × Value)} (x : jF P w h vs ps) (k : ∀ b o,(∃ xs n,o.data = .seq xs n)→h.get? b = some o→h'.get? b = some o) : jF P w h' vs ps :=
 ⟨x.1,fun i v hv=>let ⟨a,o,n,key,kk,y,e1,e2,e3,e4,e5,e6⟩:=x.2 i v hv; ⟨a,o,n,key,kk,y,e1,k a o ⟨_,_,e4⟩ e2,e3,e4,e5,e6⟩⟩
section
variable {prog : Program} {w : World} {A : Around} {E : Value→Shared→Prop} {s : Shared} {R : Result→Shared→Prop} {l d Ia : Addr}
theorem zW {vs : List Value} {ps : List (Key × Value)} (hh : A.handled = none) (hlD : l ≠ d) (hlI : l ≠ Ia) (hdI : d ≠ Ia) :
  ∀ (k i : Nat) (j : Int) (t : Tok) (s : Shared) (kvs : List (Key × Value)),vs.length - i = k→i ≤ vs.length→s.heap.IsListIter Ia l i→s.heap.IsList l vs.toArray→jF prog w s.heap vs ps→s.heap.DictOf (bK prog w) d kvs→kvs.length + k ≤ 4096 →
   (∀ h' tk,(∀ b o,b ≠ d→b ≠ Ia→s.heap.get? b = some o→h'.get? b = some o)→h'.DictOf (bK prog w) d ((ps.drop i).foldl (fun m p=>stored m p.1 p.2) kvs)→R (.ok (.ret .none)) { s with heap:=h',toks:=tk }) →
   codeAny (model prog w) A (.builtin "dict.update.loop" ⟨[.ref d,.ref Ia,.int j t,.none],[]⟩) R s:=by
 intro k
 induction k with
 | zero =>
  intro i j t s kvs hk hi hit hl hp hD hz hR
  refine codeAny_builtin mW ?_
  rw [Around.under_plainId hX _]
  show wpAny _ A.in1 (pyNext (.ref Ia) >>= _) _ _ s
  refine wpAny_bind (wpAny_pyNext_list_end (show A.in1.handled = none from hh) hit hl (by simp; omega) fun h' eb=>?_)
  have hd : ps.drop i = []:=by rw [List.drop_eq_nil_iff]; have:=hp.1; omega
  have hR':=hR h' s.toks (fun b o hb hbI e=>eb b o hbI e)
  rw [hd] at hR'
  refine wpAny_bind (wpAny_pure (wpAny_pure (hR' ?_)))
  obtain ⟨o,es,ep,q1,q2⟩:=hD
  exact ⟨o,es,ep,eb d o hdI q1,q2⟩
 | succ k ih =>
  intro i j t s kvs hk hi hit hl hp hD hz hR
  have hlt : i < vs.length:=by omega
  refine codeAny_builtin mW ?_
  rw [Around.under_plainId hX _]
  show wpAny _ A.in1 (pyNext (.ref Ia) >>= _) _ _ s
  have hv : vs[i]? = some vs[i]:=List.getElem?_eq_getElem hlt
  refine wpAny_bind (wpAny_pyNext_list_item hit hl (x:=vs[i]) (by simpa using hv) fun h1 hit1 sb1=>?_)
  obtain ⟨a,o,n,key,kk,x,ea,eo,ec,ed,ek,ep⟩:=hp.2 i _ hv
  rw [ea]
  have neI : ∀ b ob,(∃ xs n,ob.data = .seq xs n)→s.heap.get? b = some ob→b ≠ Ia:=fun b ob ⟨xs,m,z⟩ e z'=>by
   obtain ⟨oi,e1,_,d1⟩:=hit
   rw [z',e1] at e; cases e
   rw [d1] at z; cases z
  have hp1 : jF prog w h1 vs ps:=hp.keeps fun b ob hb e=>(sb1.2 b (neI b ob hb e)).trans e
  have hD1 : h1.DictOf (bK prog w) d kvs:=hD.sameBut sb1 hdI
  have hl1 : h1.IsList l vs.toArray:=by
   obtain ⟨ol,q1,q2⟩:=hl
   exact ⟨ol,(sb1.2 l hlI).trans q1,q2⟩
  have eo1 : h1.get? a = some o:=(sb1.2 a (neI a o ⟨_,_,ed⟩ eo)).trans eo
  have neD : ∀ b ob,(∃ xs n,ob.data = .seq xs n)→h1.get? b = some ob→b ≠ d:=fun b ob ⟨xs,m,z⟩ e z'=>by
   obtain ⟨oS,es,ep',q1,_,q4,_⟩:=hD1
   rw [z',q1] at e; cases e
   rw [q4] at z; cases z
  have hT : Shared.TypeIs { s with heap:=h1 } (.ref a) "tuple" := ⟨o,eo1,ec⟩
  refine wpAny_bind (wpAny_holding ?_)
  show wpAny _ A.in1 (Sem.tryCatch (Builtin.Dict.pairItems (.ref a)) _ >>= _) _ _ _
  refine wpAny_bind (wpAny_tryCatch ?_)
  unfold Builtin.Dict.pairItems
  refine wpAny_bind (wpAny_typeOf hT ?_)
  rw [if_pos (by decide)]
  refine wpAny_bind (wpAny_seqItems eo1 ed (wpAny_pure ?_))
  show wpAny _ A.in1 (holding [key,x] (dictSet d key x)) _ _ _
  refine wpAny_holding (wpAny_dictSet_pairs (s:={ s with heap:=h1 }) ek hD1 (fun h2 hD2 sb2=>?_) (Nat.le_trans (by omega : kvs.length ≤ 4096) (by decide)))
  refine wpAny_pure ⟨plainId_quiet hX _,?_⟩
  have hi2 : i < ps.length:=by have:=hp.1; omega
  have hdr : ps.drop i = (kk,x) :: ps.drop (i + 1):=by
   rw [List.drop_eq_getElem_cons hi2]
   have : ps[i]? = some ps[i]:=List.getElem?_eq_getElem hi2
   rw [this] at ep
   rw [Option.some.inj ep]
  have hlen : (stored kvs kk x).length ≤ kvs.length + 1:=by
   unfold stored
   split
   ·rw [List.length_map]; omega
   ·rw [List.length_append]; simp
  refine ih (i + 1) _ _ { s with heap:=h2,toks:=s.toks + 1 } (stored kvs kk x) (by omega) hlt ?_ ?_ (hp1.keeps fun b ob hb e=>(sb2.2 b (neD b ob hb e)).trans e) hD2 (by omega) fun h3 tk3 k3 D3=>?_
  ·obtain ⟨oi,q1,q2⟩:=hit1
   exact ⟨oi,(sb2.2 Ia (Ne.symm hdI)).trans q1,q2⟩
  ·obtain ⟨ol,q1,q2⟩:=hl1
   exact ⟨ol,(sb2.2 l hlD).trans q1,q2⟩
  ·refine hR h3 tk3 (fun b ob hb hbI e=>k3 b ob hb hbI ((sb2.2 b hb).trans ((sb1.2 b hbI).trans e))) ?_
   rw [hdr]
   exact D3
end
end L2
namespace L2
open PySem PySem.Spec PyProof.Rows
section
variable {prog : Program} {w : World} {A : Around} {E : Value→Shared→Prop} {s : Shared} {l : Addr}
theorem zX {vs : List Value} {n : Nat} {ps : List (Key × Value)} {Q : Value→Shared→Prop} (hh : A.handled = none) (hl : s.heap.get? l = some { cls:=.type "list",data:=.seq vs.toArray n }) (hp : jF prog w s.heap vs ps) (hz : vs.length ≤ 4096)
  (h : ∀ h' tk,h'.DictOf (bK prog w) s.heap.objs.size (ps.foldl (fun m p=>stored m p.1 p.2) [])→(∀ b o,s.heap.get? b = some o→h'.get? b = some o)→Q (.ref s.heap.objs.size) { s with heap:=h',toks:=tk }) :
  wpAny (model prog w) A (call (.type "dict") [.ref l]) Q E s:=by
 refine callType_codes (Q₁:=fun obj s₁=>obj = .ref s.heap.objs.size∧s₁ = { s with heap:=s.heap.push { cls:=.type "dict",data:=.dict #[] } }) F.kt_called_dict (F.kt_typeCall_dict_1 _) F.entry_dict_init (kt_code_dict_new _ ⟨rfl,rfl⟩) ?_
 rintro obj s₁ ⟨rfl,rfl⟩
 have hnew : (s.heap.push { cls:=.type "dict",data:=.dict #[] }).DictOf (bK prog w) s.heap.objs.size []:=Heap.DictOf.new s.heap
 have hsz : (s.heap.push { cls:=.type "dict",data:=.dict #[] }).objs.size = s.heap.objs.size + 1:=Heap.size_push ..
 have up : ∀ b o,s.heap.get? b = some o→(s.heap.push { cls:=.type "dict",data:=.dict #[] }).get? b = some o:=fun b o e=>Heap.get?_push_of_some _ e
 have hlt : l < s.heap.objs.size:=Heap.lt_size hl
 refine ⟨hnew.typeIs,F.args_dict_init_2 _ _,?_⟩
 generalize (s.heap.push { cls:=.type "dict",data:=.dict #[] }) = hD at *
 have hT : Shared.TypeIs { s with heap:=hD } (.ref l) "list" := ⟨_,up _ _ hl,rfl⟩
 unfold Builtin.«dict.__init__»
 refine wpAny_bind ?_
 unfold Builtin.Dict.selfAndRest
 refine wpAny_bind (wpAny_notOrdered_dict hnew.typeIs (wpAny_pure ?_))
 show wpAny _ _ (Builtin.Dict.updateFrom "dict.__init__" s.heap.objs.size (.ref l) [] .none) _ _ _
 unfold Builtin.Dict.updateFrom
 refine wpAny_bind (wpAny_typeOf hT ?_)
 rw [if_pos (by decide)]
 refine wpAny_bind (aC9 (s:={ s with heap:=hD }) (show A.in1.handled = none from hh) (up _ _ hl) fun h1 tk1 k1=>?_)
 have hl1 : h1.get? l = some { cls:=.type "list",data:=.seq vs.toArray n }:=k1 _ _ (up _ _ hl)
 have hL1 : h1.IsList l vs.toArray:=⟨_,hl1,rfl,n,rfl⟩
 rw [if_pos (by rfl)]
 refine wpAny_bind (wpAny_rule ?_)
 refine wpAny_bind (wpAny_pyIter_list (s:={ s with heap:=h1,toks:=tk1 }) hL1 ?_)
 have hDI : s.heap.objs.size < h1.objs.size:=by
  obtain ⟨o,es,ep,q1,q2⟩:=hnew
  exact Heap.lt_size (k1 _ _ q1)
 refine wpAny_pure ⟨plainId_quiet hX _,?_⟩
 refine zW (l:=l) (vs:=vs) (ps:=ps) (Ia:=h1.objs.size) (show A.in1.handled = none from hh) (Nat.ne_of_lt hlt) (Nat.ne_of_lt (Nat.lt_trans hlt hDI)) (Nat.ne_of_lt hDI) vs.length 0 0 0 _ [] (by simp) (Nat.zero_le _) ⟨_,Heap.get?_push_size _ rfl,rfl,rfl⟩ ?_ ?_ ?_ (by simpa using hz) fun h2 tk2 k2 D2=>?_
 ·exact ⟨_,Heap.get?_push_of_some _ hl1,rfl,n,rfl⟩
 ·exact hp.keeps fun b o _ e=>Heap.get?_push_of_some _ (k1 _ _ (up _ _ e))
 ·obtain ⟨o,es,ep,q1,q2⟩:=hnew
  exact ⟨o,es,ep,Heap.get?_push_of_some _ (k1 _ _ q1),q2⟩
 ·refine ⟨rfl,h h2 tk2 D2 fun b o e=>k2 b o (Nat.ne_of_lt (Heap.lt_size e)) (Nat.ne_of_lt (Nat.lt_trans (Heap.lt_size e) hDI)) (Heap.get?_push_of_some _ (k1 _ _ (up _ _ e)))⟩
end
end L2
namespace L2
open PySem PySem.Spec PyProof.Rows
def gR (m : List (Key × V)) (ps : List (Key × V)) : List (Key × V):=ps.foldl (fun m p=>putK m p.1 p.2) m
theorem KV.fold : ∀ {ps : List (Key × V)} {us : List (Key × Value)} {m : List (Key × V)} {m' : List (Key × Value)},KV ps us→KV m m'→KV (gR m ps) (us.foldl (fun m p=>stored m p.1 p.2) m')
 | [],_,_,_,.nil,r=>r
 | (k,v) :: ps,_,m,m',.cons (b:=(k',u)) q rr,r=>by
  obtain ⟨rfl,qv⟩ : k = k'∧RelV v u:=q
  rename_i us
  have:=KV.fold (ps:=ps) (us:=us) rr (r.put k qv)
  exact this
theorem oM : ∀ (ps m : List (Key × V)),(gR m ps).length ≤ m.length + ps.length
 | [],m=>by show m.length ≤ _; simp
 | p :: ps,m=>by
  have h1:=oM ps (putK m p.1 p.2)
  have h2:=hW m p.1 p.2
  show (gR (putK m p.1 p.2) ps).length ≤ _
  rw [List.length_cons]; omega
theorem vX {P : Program} {w : World} {H : Hp} {h : Heap} (ok : HOk P w H h) : ∀ (ts : List Addr) (ps : List (Key × V)),ts.length = ps.length→(∀ i,i < ps.length→∃ k v,ps[i]? = some (k,v)∧H (ts.getD i 0) = some (.tup [kV k,v])) →
  ∃ us : List (Key × Value),KV ps us∧jF P w h (ts.map Value.ref) us
 | [],[],_,_=>⟨[],.nil,rfl,fun i v hv=>by simp at hv⟩
 | [],_ :: _,e,_=>by simp at e
 | _ :: _,[],e,_=>by simp at e
 | t :: ts,(k,v) :: ps,e,hs=>by
  obtain ⟨us,r,T⟩:=vX ok ts ps (by simpa using e) fun i hi=>by
   obtain ⟨k',v',h1,h2⟩:=hs (i + 1) (by simp; omega)
   exact ⟨k',v',by simpa using h1,by simpa using h2⟩
  obtain ⟨k0,v0,g1,g2⟩:=hs 0 (by simp)
  have g1' : (k,v) = (k0,v0):=by simpa using g1
  cases g1'
  have g2' : H t = some (.tup [kV k,v]):=by simpa using g2
  obtain ⟨_,its,rv,o,q1,q2,n,q3⟩:=ok t _ g2'
  cases rv with
  | cons ra rr =>
   cases rr with
   | cons rb rr2 =>
    cases rr2
    rename_i ka vb
    refine ⟨(k,vb) :: us,.cons ⟨rfl,rb⟩ r,by simp [T.1],fun i x hx=>?_⟩
    cases i with
    | zero =>
     have hx' : Value.ref t = x:=by simpa using hx
     exact ⟨t,o,n,ka,k,vb,hx'.symm,q1,q2,q3,kR ra,rfl⟩
    | succ i=>exact T.2 i x (by simpa using hx)
section
variable {X : Cx}
def aDa : List V→Hp→VK→Prop:=fun xs H Q=>∃ (l : Addr) (ts : List Addr) (ps : List (Key × V)),xs = [.ref l]∧H l = some (.lst (ts.map V.ref))∧ts.length = ps.length∧(∀ i,i < ps.length→∃ k v,ps[i]? = some (k,v)∧H (ts.getD i 0) = some (.tup [kV k,v]))∧ps.length ≤ 4096 ∧
 ∀ D,H D = none→Q (.ref D) (upd H D (.dK (gR [] ps)))
theorem oN (hc : X.calm = true) : cY X (.type "dict") aDa:=by
 intro pins s σ H xs us Q I r h
 obtain ⟨l,ts,ps,rfl,hl,hlen,ht,hz,q⟩:=h
 obtain ⟨u1,rfl,r1⟩:=r.one
 obtain rfl : u1 = Value.ref l:=r1
 obtain ⟨z,its,n,rv,_,e⟩:=I.lstM hl
 have hits : its = ts.map Value.ref:=pW rv
 subst hits
 obtain ⟨vs,kv,T⟩:=vX I.hok ts ps hlen ht
 refine zX (I.ok.hd hc) e T (by rw [List.length_map,hlen]; exact hz) fun h' tk D k=>?_
 have hs : sysModules < s.heap.objs.size:=Nat.lt_trans (by decide : sysModules < mainGlobals) (I.mod.glob.keeps I.bk).lt
 have I2 : Inv X pins σ (upd H s.heap.objs.size (.dK (gR [] ps))) { s with heap:=h',toks:=tk }:=by
  refine I.laidN (t':=tk) k (Heap.get?_none_of_le (Nat.le_refl _)) ⟨?_,?_,_,KV.fold kv .nil,D⟩
  ·have:=oM ps []
   exact Nat.le_trans this (Nat.le_trans (by simpa using hz) (by decide : 4096 ≤ sizeLine))
  ·rw [beq_eq_false_iff_ne]
   exact Nat.ne_of_gt hs
 exact ⟨.ref s.heap.objs.size,_,I2,rfl,q _ (I.hok.fresh (Nat.le_refl _))⟩
theorem nE {d : Addr} {o : Obj} {kvs : List (Key × V)} {g : TG} {tb : TS} {D : Ends} {σ : St} {H : Hp} (Pv : Nat→St→Hp→Prop) (h0 : Pv 0 σ H) (hl : ∀ i σ H,i ≤ kvs.length→Pv i σ H→H d = some (.frz o (.dK kvs)))
  (hs : ∀ i k v σ H,kvs[i]? = some (k,v)→Pv i σ H→g (kV k) σ H fun σ2 H2=>tb { D with nx:=Pv (i + 1),ct:=Pv (i + 1),bk:=D.nx } σ2 H2) (hd : ∀ σ H,Pv kvs.length σ H→D.nx σ H) :
  ∃ W : Nat→Nat→St→Hp→Prop,(∃ m,W 0 m σ H)∧∀ i m σ H,W i m σ H →
   ((Itd d o kvs).stop i H∧D.nx σ H)∨((Itd d o kvs).go i H∧∃ N : St→Hp→Prop,(∀ σ' H',N σ' H'→∃ m',m' < m∧W (i + 1) m' σ' H')∧∀ x H',(Itd d o kvs).yld i H x H'→g x σ H' fun σ2 H2=>tb { D with nx:=N,ct:=N,bk:=D.nx } σ2 H2):=by
 refine ⟨fun i m σ H=>m = kvs.length - i∧i ≤ kvs.length∧Pv i σ H,⟨kvs.length,by simp,Nat.zero_le _,h0⟩,?_⟩
 rintro i m σ H ⟨rfl,hi,p⟩
 have q:=hl i σ H hi p
 by_cases hlt : i < kvs.length
 ·refine .inr ⟨⟨q,hlt⟩,Pv (i + 1),fun σ' H' p'=>⟨kvs.length - (i + 1),by omega,rfl,hlt,p'⟩,fun x H' y=>?_⟩
  obtain ⟨rfl,k,v,hk,rfl⟩:=y
  exact hs i k v σ _ hk p
 ·have e : i = kvs.length:=by omega
  subst e
  exact .inl ⟨⟨q,Nat.le_refl _⟩,hd σ H p⟩
end
end L2
namespace L2
open PySem PySem.Spec PyProof.Rows
section
variable {X : Cx}
theorem zY (hc : X.calm = true) : cY X (.builtin "all") (fun xs H Q=>∃ (p : Addr) (bs : List Bool),xs = [.ref p]∧SqL X.K H p (bs.map V.bl)∧Q (.bl (bs.all id)) H):=by
 intro pins s σ H xs us Q I r h
 obtain ⟨p,bs,rfl,hp,q⟩:=h
 obtain ⟨u1,rfl,r1⟩:=r.one
 obtain rfl : u1 = Value.ref p:=r1
 obtain ⟨its,rv,pl,hz⟩:=I.list hp
 have hits : its = bs.map Value.bool:=by
  have go : ∀ (bs : List Bool) (its : List Value),Vals (bs.map V.bl) its→its = bs.map Value.bool:=by
   intro bs
   induction bs with
   | nil=>intro its r; cases r; rfl
   | cons b bs ih =>
    intro its r
    cases r with
    | cons r rr =>
     obtain rfl:=(show _ = Value.bool b from r)
     rw [ih _ rr]; rfl
  exact go bs its rv
 subst hits
 obtain ⟨ob,hob,_⟩:=id pl.isList
 have hlt : p < s.heap.objs.size:=Heap.lt_size hob
 refine call_all_walk (wpAny_pyIter_list pl.isList ⟨s.heap.objs.size,_,_,_,_,_,fun i=>bs.getD i true,rfl,Walks.list (show X.A.in1.handled = none from I.ok.hd hc) _ p (Nat.ne_of_lt hlt) _,⟨⟨_,Heap.get?_push_size _ rfl,rfl,rfl⟩,pl.isList.push _⟩,fun i v s1 Q' E' hv hq=>?_,fun h' tk k=>?_⟩)
 ·have hv' : (bs.map Value.bool)[i]? = some v:=by simpa using hv
  rw [List.getElem?_map] at hv'
  cases eb : bs[i]? with
  | none=>rw [eb] at hv'; cases hv'
  | some b =>
   rw [eb] at hv'
   obtain rfl : Value.bool b = v:=Option.some.inj hv'
   have : bs.getD i true = b:=by rw [List.getD_eq_getElem?_getD,eb]; rfl
   have hq' : Q' b s1:=by rw [← this]; exact hq
   exact wpAny_pure hq'
 ·have keep : ∀ b o,s.heap.get? b = some o→h'.get? b = some o:=fun b o e=>k b o (by simpa using Nat.ne_of_lt (Heap.lt_size e)) (Heap.get?_push_of_some _ e)
  refine ⟨.bl (bs.all id),H,I.kept (t':=tk) keep,?_,q⟩
  show Value.bool _ = Value.bool _
  congr 1
  have go : ∀ (bs : List Bool),((List.range bs.length).all fun i=>bs.getD i true) = bs.all id:=by
   intro bs
   induction bs with
   | nil=>rfl
   | cons b bs ih =>
    rw [List.length_cons,List.range_succ_eq_map,List.all_cons,List.all_map,List.all_cons,← ih]
    rfl
  rw [← go bs]
  simp
def aB4 : V→List V→Hp→VK→Prop:=fun x vs H Q=>∃ (l : Addr) (ns : List Int) (z : Int),x = .ref l∧vs = [.int z]∧H l = some (.lst (ns.map V.int))∧z∈ns∧Q .non (upd H l (.lst ((ns.eraseIdx (ns.idxOf z)).map V.int)))
theorem vY : ∀ {ns : List Int} {its : List Value},Vals (ns.map V.int) its→∀ i (h : i < its.length) (h' : i < ns.length),∃ t,its[i] = Value.int ns[i] t
 | [],_,.nil,i,h,_=>by simp at h
 | n :: ns,_,.cons ⟨t,e⟩ r,0,_,_=>⟨t,e⟩
 | n :: ns,_,.cons _ r,i + 1,h,h'=>vY r i (by simpa using h) (by simpa using h')
def isI (z : Int) (v : Value) : Bool:=match v with
 | .int y _=>y == z
 | _=>false
theorem zZ : MtM X "list.remove" aB4:=by
 intro pins s σ H x vs v us Q I rx rv h
 obtain ⟨l,ns,z,rfl,rfl,hH,hz,q⟩:=h
 cases rx
 obtain ⟨u,rfl,ru⟩:=rv.one
 obtain ⟨t,rfl⟩:=ru
 obtain ⟨zz,its,n,r,hl,e⟩:=I.lstM hH
 have hlen : its.length = ns.length:=by have:=r.length; rw [List.length_map] at this; exact this.symm
 have hj : ns.idxOf z < ns.length:=List.idxOf_lt_length_iff.mpr hz
 have at_ : ∀ i (h : i < its.length),∃ t,its[i] = Value.int (ns[i]'(by omega)) t:=fun i h=>vY r i h (by omega)
 refine call_meets F.slot_list_remove ⟨_,e,rfl⟩ F.entry_list_remove (F.args_list_remove_2 _ _)
  (MeetsSeq.list_remove l its.toArray n (.int z t) (isI z) (fun y hy=>?_) (ns.idxOf z) (by simpa [hlen] using hj) ?_ (fun m hm hlt=>?_) (by rw [List.size_toArray,hlen]; rw [List.length_map] at zz; exact zz)) ⟨e,?_⟩
 ·obtain ⟨i,hi,rfl⟩:=List.mem_iff_getElem.mp (show y∈its by simpa using hy)
  obtain ⟨t',e'⟩:=at_ i hi
  rw [e']
  exact MeetsSeq.EqGives.int _ _ _ _
 ·obtain ⟨t',e'⟩:=at_ (ns.idxOf z) (by omega)
  have e2 : its.toArray[ns.idxOf z]'(by simpa [hlen] using hj) = its[ns.idxOf z]'(by omega):=by simp
  rw [e2,e']
  show (ns[ns.idxOf z] == z) = true
  rw [List.getElem_idxOf]; simp
 ·obtain ⟨t',e'⟩:=at_ m (by simpa using hm)
  have e2 : its.toArray[m] = its[m]'(by simpa using hm):=by simp
  rw [e2,e']
  show (ns[m] == z) = false
  have:=List.not_of_lt_findIdx (p:=(· == z)) (xs:=ns) (i:=m) hlt
  simpa using this
 ·refine ⟨.non,_,I.lset (its':=its.eraseIdx (ns.idxOf z)) hH e ?_ ?_ ?_,rfl,q⟩
  ·show its.toArray.eraseIdxIfInBounds _ = _
   rw [List.eraseIdxIfInBounds_toArray]
  ·have em : ∀ (l : List Int) (j : Nat),(l.eraseIdx j).map V.int = (l.map V.int).eraseIdx j:=by
    intro l
    induction l with
    | nil=>intro j; rfl
    | cons y l ih =>
     intro j
     cases j with
     | zero=>rfl
     | succ j=>simp only [List.eraseIdx_cons_succ,List.map_cons,ih]
   rw [em]
   exact r.eraseIdx _
  ·rw [List.length_map,List.length_eraseIdx]
   rw [List.length_map] at zz
   split <;> omega
end
end L2
namespace L2
open PySem PySem.Spec PyProof.Rows
structure Cal (P : Program) (w : World) (K : PySem.W.Frag) (mg : Str→Option Value) (base : Heap) (CX : CXT) (k : Nat) (x : Str) (ps : List Str) (sp : Sp) : Prop where
 ex : ∃ f fd,mg x = some (.ref f)∧PySem.W.keepIn K (.ref f) = true∧gB K fd ps []∧FnOk P w K mg base CX k f fd ps sp
theorem aS {X : Cx} {CX : CXT} {k : Nat} {x : Str} {ps : List Str} {sp : Sp} {E : XK} {e : Expr} {es : List Expr} {t : TA} {p pos : Pos} (C : Cal X.prog X.w X.K X.mg X.base CX k x ps sp) (hr : Room k X.A) (hx : jD CX X E) (ha : PA X (e :: es) t) (hg : Gl X x:=by rfl)
  (hdb : (x == ("__debug__" : Str)) = false:=by decide) (he : starEach (e :: es) X.env = (false,eval e X.env) :: starEach es X.env:=by rfl) (hpl : (backTo pos (starEach es X.env)).any (·.1) = false:=by rfl) :
  PE X (.Call (.Name x p) (e :: es) [] pos) (mC sp [] E t):=by
 obtain ⟨f,fd,a,b,c,d⟩:=C.ex
 exact aBK d hr hg a b c .nil hx ha hdb he hpl
theorem aG {H : Hp} {D : Addr} {o : HO} (h : H D = none) : Same H (upd H D o):=fun b u e=>by rw [aD (aF e h)]; exact e
def aL (p : Addr) (H H' : Hp) : Prop:=∀ b o,H b = some o→b ≠ p→H' b = some o
theorem aL.refl {p : Addr} {H : Hp} : aL p H H:=fun _ _ h _=>h
theorem aL.trans {p : Addr} {H H1 H2 : Hp} (a : aL p H H1) (b : aL p H1 H2) : aL p H H2:=fun c o h n=>b c o (a c o h n) n
theorem aL.upd {p : Addr} {H : Hp} {o : HO} : aL p H (upd H p o):=fun b u h n=>by rw [aD n]; exact h
theorem aL.of {p : Addr} {H H' : Hp} (s : Same H H') : aL p H H':=fun b o h _=>s b o h
theorem aL.free {p q : Addr} {H H' : Hp} (s : aL p H H') (hp : H' p ≠ none) (h : H' q = none) : H q = none:=by
 cases z : H q with
 | none=>rfl
 | some o =>
  by_cases e : q = p
  ·subst e; exact absurd h hp
  ·rw [s q o z e] at h; cases h
theorem iT {n j : Nat} (h : j < n) : ixN n (j : Int) = some j:=by
 unfold ixN
 rw [if_pos (by omega),if_pos (by omega)]
 simp
theorem bL {as : List Addr} {t : Addr} {j n : Nat} (h : as.length = n) : (as ++ [t]).getD j 0 = if j = n then t else as.getD j 0:=by
 rw [List.getD_eq_getElem?_getD,List.getD_eq_getElem?_getD]
 by_cases hj : j = n
 ·subst hj; subst h
  rw [if_pos rfl,List.getElem?_append_right (Nat.le_refl _),Nat.sub_self]; rfl
 ·rw [if_neg hj]
  by_cases hlt : j < as.length
  ·rw [List.getElem?_append_left hlt]
  ·rw [List.getElem?_append_right (by omega),List.getElem?_eq_none (by simp; omega),List.getElem?_eq_none (by omega)]
def Holds (H : Hp) (as : List Addr) (n : Nat) (o : Nat→HO) : Prop:=as.length = n∧∀ j,j < n→H (as.getD j 0) = some (o j)
theorem Holds.nil {H : Hp} {o : Nat→HO} : Holds H [] 0 o:=⟨rfl,fun j hj=>absurd hj (by omega)⟩
theorem Holds.snoc {H : Hp} {as : List Addr} {n : Nat} {o : Nat→HO} {t : Addr} (h : Holds H as n o) (ht : H t = some (o n)) : Holds H (as ++ [t]) (n + 1) o:=by
 refine ⟨by rw [List.length_append,h.1]; rfl,fun j hj=>?_⟩
 rw [bL h.1]
 by_cases e : j = n
 ·rw [if_pos e,e]; exact ht
 ·rw [if_neg e]; exact h.2 j (by omega)
theorem Holds.mono {H H' : Hp} {as : List Addr} {n : Nat} {o : Nat→HO} (h : Holds H as n o) (e : ∀ j,j < n→H (as.getD j 0) = some (o j)→H' (as.getD j 0) = some (o j)) : Holds H' as n o:=⟨h.1,fun j hj=>e j hj (h.2 j hj)⟩
end L2
namespace PyProof.Rows
open PySem
def fW : Bool→Keyed→Array Keyed→Nat→Nat→Nat→StateT SortSt Sem (Option Nat):=sortPriv% PySem.Builtin.gallop
def nF : Array Keyed→Array Keyed→StateT SortSt Sem (Array Keyed):=sortPriv% PySem.Builtin.mergeLo
def nG : Array Keyed→Array Keyed→StateT SortSt Sem (Array Keyed):=sortPriv% PySem.Builtin.mergeHi
def eM : Nat→StateT SortSt Sem Unit:=sortPriv% PySem.Builtin.setMinGallop
def Cmp (prog : Program) (w : World) (A : Around) (s : Shared) (κ : SortKind) (a₀ : Array Keyed) : Prop :=
 ∀ x y,x∈a₀.toList→y∈a₀.toList→∀ (Q : Bool→Shared→Prop) (E : Value→Shared→Prop),(∀ b,Q b s)→wpAny (model prog w) A (keyLt' κ x.1 y.1) Q E s
structure SQ (κ : SortKind) (a₀ : Array Keyed) (pd : Array (Nat × Nat × Nat)) (st : SortSt) : Prop where
 perm : (arrOf st).Perm a₀
 kind : kindOf st = κ
 failed : failedOf st = none
 pend : pendingOf st = pd
section
variable {prog : Program} {w : World} {A : Around} {E : Value→Shared→Prop} {s : Shared} {κ : SortKind} {a₀ : Array Keyed} {pd : Array (Nat × Nat × Nat)}
theorem SQ.size {st : SortSt} (h : SQ κ a₀ pd st) : (arrOf st).size = a₀.size:=h.perm.size_eq
theorem SQ.setArr {st : SortSt} (h : SQ κ a₀ pd st) {xs : Array Keyed} (hp : xs.Perm (arrOf st)) : SQ κ a₀ pd (setArr st xs):=⟨hp.trans h.perm,h.kind,h.failed,h.pend⟩
theorem SQ.at {st : SortSt} (h : SQ κ a₀ pd st) {i : Nat} (hi : i < a₀.size) : ∃ p,(arrOf st)[i]? = some p∧p∈a₀.toList:=by
 have hi' : i < (arrOf st).size:=by rw [h.size]; exact hi
 exact ⟨(arrOf st)[i],getElem?_pos _ i hi',(Array.perm_iff_toList_perm.mp h.perm).mem_iff.mp (by simp)⟩
theorem lQ {st : SortSt} {x y : Keyed} {Q : Option Bool→SortSt→Prop} (hC : Cmp prog w A s κ a₀) (hk : kindOf st = κ) (hx : x∈a₀.toList) (hy : y∈a₀.toList) (h : ∀ b,Q (some b) st) : wpS (model prog w) A E s (lt' x y) Q st:=by
 rw [lt'_eq]
 refine wpS_bind (wpS_get ?_)
 rw [hk]
 refine wpS_bind (wpS_lift (wpAny_attempt (hC x y hx hy _ _ fun b=>⟨rfl,?_⟩)))
 exact wpS_pure (h b)
theorem aP {st : SortSt} {arr : Array Keyed} {i : Nat} {p : Keyed} {Q : Keyed→SortSt→Prop} (hi : arr[i]? = some p) (h : Q p st) : wpS (model prog w) A E s (elem' arr i) Q st:=by
 rw [elem'_eq,hi]
 exact wpS_pure h
theorem dW {st : SortSt} {i j : Nat} {Q : Option Bool→SortSt→Prop} (hC : Cmp prog w A s κ a₀) (hB : SQ κ a₀ pd st) (hi : i < a₀.size) (hj : j < a₀.size) (h : ∀ b,Q (some b) st) : wpS (model prog w) A E s (ltAt' i j) Q st:=by
 obtain ⟨p,e1,m1⟩:=hB.at hi
 obtain ⟨q,e2,m2⟩:=hB.at hj
 rw [ltAt'_eq]
 refine wpS_bind (wpS_get ?_)
 exact wpS_bind (aP e1 (wpS_bind (aP e2 (lQ hC hB.kind m1 m2 h))))
theorem fA {st : SortSt} {i j : Nat} {Q : Unit→SortSt→Prop} (hB : SQ κ a₀ pd st) (h : ∀ st',SQ κ a₀ pd st'→Q () st') : wpS (model prog w) A E s (reverseSlice' i j) Q st:=by
 rw [reverseSlice'_eq]
 exact wpS_modify (h _ (hB.setArr (mirror_perm _ _ _ _)))
theorem aAU {st : SortSt} {i j : Nat} {Q : Unit→SortSt→Prop} (hB : SQ κ a₀ pd st) (h : ∀ st',SQ κ a₀ pd st'→Q () st') : wpS (model prog w) A E s (moveDown' i j) Q st:=by
 rw [moveDown'_eq]
 exact wpS_modify (h _ (hB.setArr (bubble_perm _ _ _)))
theorem aB5 {st : SortSt} {lo n ok : Nat} {Q : Bool→SortSt→Prop} (hC : Cmp prog w A s κ a₀) (hn : lo + n ≤ a₀.size) (hB : SQ κ a₀ pd st) (h : ∀ st',SQ κ a₀ pd st'→Q true st') : wpS (model prog w) A E s (binarySort' lo n ok) Q st:=by
 rw [binarySort'_eq]
 refine wpS_bind (wpS_mono (wpS_forRange (I:=fun _ c st'=>c = (none,())∧SQ κ a₀ pd st') (Q:=fun c st'=>c = (none,())∧SQ κ a₀ pd st') ?_ (fun c st' hh=>hh) ⟨rfl,hB⟩) ?_)
 ·rintro k c st' hk1 hk2 ⟨rfl,hB'⟩
  dsimp only
  refine wpS_bind (wpS_mono (wpS_forRange (I:=fun _ c st''=>(∃ l r,c = (none,l,r)∧r ≤ k)∧SQ κ a₀ pd st'') (Q:=fun c st''=>(∃ l r,c = (none,l,r)∧r ≤ k)∧SQ κ a₀ pd st'') ?_ (fun c st' hh=>hh) ⟨⟨_,_,rfl,Nat.le_refl _⟩,hB'⟩) ?_)
  ·rintro x c st2 _ _ ⟨⟨l,r,rfl,hr⟩,hB2⟩
   dsimp only
   by_cases hlr : l ≥ r
   ·rw [if_pos hlr]
    exact wpS_pure ⟨⟨_,_,rfl,hr⟩,hB2⟩
   ·rw [if_neg hlr]
    refine wpS_bind (dW hC hB2 (by omega) (by omega) fun b=>?_)
    cases b
    ·exact wpS_pure ⟨⟨_,_,rfl,hr⟩,hB2⟩
    ·exact wpS_pure ⟨⟨_,_,rfl,by omega⟩,hB2⟩
  ·rintro c st2 ⟨⟨l,r,rfl,hr⟩,hB2⟩
   dsimp only
   exact wpS_bind (aAU hB2 fun st3 hB3=>wpS_pure ⟨rfl,hB3⟩)
 ·rintro c st' ⟨rfl,hB'⟩
  exact wpS_pure (h st' hB')
end
end PyProof.Rows
namespace PyProof.Rows
open PySem
theorem xF (left : Bool) (key : Keyed) (arr : Array Keyed) (base n hint : Nat) : fW left key arr base n hint = (do
 let beyond (i : Nat) : StateT SortSt Sem (Option Bool):=do
  let x ← elem' arr (base + i)
  if left then lt' x key else return (← lt' key x).map (!·)
 let mut lastofs:=0
 let mut ofs:=1
 let mut lo:=0
 let mut hi:=0
 let some right ← beyond hint | return none
 if right then
  let maxofs:=n - hint
  for _ in [0:n] do
   if ofs ≥ maxofs then break
   let some more ← beyond (hint + ofs) | return none
   if !more then break
   lastofs:=ofs
   ofs:=2 * ofs + 1
  lo:=hint + lastofs + 1
  hi:=hint + min ofs maxofs
 else
  let maxofs:=hint + 1
  for _ in [0:n] do
   if ofs ≥ maxofs then break
   let some found ← beyond (hint - ofs) | return none
   if found then break
   lastofs:=ofs
   ofs:=2 * ofs + 1
  lo:=hint + 1 - min ofs maxofs
  hi:=hint - lastofs
 for _ in [0:n] do
  if lo ≥ hi then break
  let m:=lo + (hi - lo) / 2
  let some more ← beyond m | return none
  if more then lo:=m + 1 else hi:=m
 return some hi):=rfl
section
variable {prog : Program} {w : World} {A : Around} {E : Value→Shared→Prop} {s : Shared} {κ : SortKind} {a₀ : Array Keyed} {pd : Array (Nat × Nat × Nat)}
theorem gI {st : SortSt} {left : Bool} {key : Keyed} {arr : Array Keyed} {j : Nat} {Q : Option Bool→SortSt→Prop} (hC : Cmp prog w A s κ a₀) (hk : kindOf st = κ) (hkey : key∈a₀.toList) (hin : ∀ x∈arr.toList,x∈a₀.toList) (hj : j < arr.size) (h : ∀ b,Q (some b) st) :
  wpS (model prog w) A E s (do
  let x ← elem' arr j
  if left then lt' x key else return (← lt' key x).map (!·)) Q st:=by
 have hm : arr[j]∈a₀.toList:=hin _ (by simp)
 refine wpS_bind (aP (getElem?_pos arr j hj) ?_)
 cases left
 ·rw [if_neg (by decide)]
  exact wpS_bind (lQ hC hk hkey hm fun b=>wpS_pure (h (!b)))
 ·rw [if_pos rfl]
  exact lQ hC hk hm hkey h
theorem bU {st : SortSt} {left : Bool} {key : Keyed} {arr : Array Keyed} {base n hint : Nat} {Q : Option Nat→SortSt→Prop} (hC : Cmp prog w A s κ a₀) (hk : kindOf st = κ) (hkey : key∈a₀.toList) (hin : ∀ x∈arr.toList,x∈a₀.toList) (hn : base + n ≤ arr.size) (hh : hint < n)
  (h : ∀ k,k ≤ n→Q (some k) st) : wpS (model prog w) A E s (fW left key arr base n hint) Q st:=by
 rw [xF]
 refine wpS_bind (gI hC hk hkey hin (by omega) fun right=>?_)
 cases right
 ·dsimp only
  rw [if_neg (by decide)]
  refine wpS_bind (wpS_mono (wpS_forRange (I:=fun _ c st'=>(∃ l o,c = (none,l,o))∧st = st') (Q:=fun c st'=>(∃ l o,c = (none,l,o))∧st = st') ?_ (fun c st' hh=>hh) ⟨⟨_,_,rfl⟩,rfl⟩) ?_)
  ·rintro x c st' _ _ ⟨⟨l,o,rfl⟩,rfl⟩
   dsimp only
   by_cases hlr : o ≥ hint + 1
   ·rw [if_pos hlr]; exact wpS_pure ⟨⟨_,_,rfl⟩,rfl⟩
   ·rw [if_neg hlr]
    refine wpS_bind (gI hC hk hkey hin (by omega) fun found=>?_)
    cases found
    ·exact wpS_pure ⟨⟨_,_,rfl⟩,rfl⟩
    ·exact wpS_pure ⟨⟨_,_,rfl⟩,rfl⟩
  ·rintro c st' ⟨⟨l,o,rfl⟩,rfl⟩
   dsimp only
   refine wpS_bind (wpS_mono (wpS_forRange (I:=fun _ c st'=>(∃ l u,c = (none,l,u)∧u ≤ n)∧st = st') (Q:=fun c st'=>(∃ l u,c = (none,l,u)∧u ≤ n)∧st = st') ?_ (fun c st' hh=>hh) ⟨⟨_,_,rfl,by omega⟩,rfl⟩) ?_)
   ·rintro x c st' _ _ ⟨⟨l,u,rfl,hu⟩,rfl⟩
    dsimp only
    by_cases hlr : l ≥ u
    ·rw [if_pos hlr]; exact wpS_pure ⟨⟨_,_,rfl,hu⟩,rfl⟩
    ·rw [if_neg hlr]
     refine wpS_bind (gI hC hk hkey hin (by omega) fun more=>?_)
     cases more
     ·exact wpS_pure ⟨⟨_,_,rfl,by omega⟩,rfl⟩
     ·exact wpS_pure ⟨⟨_,_,rfl,hu⟩,rfl⟩
   ·rintro c st' ⟨⟨l,u,rfl,hu⟩,rfl⟩
    exact wpS_pure (h u hu)
 ·dsimp only
  rw [if_pos rfl]
  refine wpS_bind (wpS_mono (wpS_forRange (I:=fun _ c st'=>(∃ l o,c = (none,l,o))∧st = st') (Q:=fun c st'=>(∃ l o,c = (none,l,o))∧st = st') ?_ (fun c st' hh=>hh) ⟨⟨_,_,rfl⟩,rfl⟩) ?_)
  ·rintro x c st' _ _ ⟨⟨l,o,rfl⟩,rfl⟩
   dsimp only
   by_cases hlr : o ≥ n - hint
   ·rw [if_pos hlr]; exact wpS_pure ⟨⟨_,_,rfl⟩,rfl⟩
   ·rw [if_neg hlr]
    refine wpS_bind (gI hC hk hkey hin (by omega) fun more=>?_)
    cases more
    ·exact wpS_pure ⟨⟨_,_,rfl⟩,rfl⟩
    ·exact wpS_pure ⟨⟨_,_,rfl⟩,rfl⟩
  ·rintro c st' ⟨⟨l,o,rfl⟩,rfl⟩
   dsimp only
   refine wpS_bind (wpS_mono (wpS_forRange (I:=fun _ c st'=>(∃ l u,c = (none,l,u)∧u ≤ n)∧st = st') (Q:=fun c st'=>(∃ l u,c = (none,l,u)∧u ≤ n)∧st = st') ?_ (fun c st' hh=>hh) ⟨⟨_,_,rfl,by omega⟩,rfl⟩) ?_)
   ·rintro x c st' _ _ ⟨⟨l,u,rfl,hu⟩,rfl⟩
    dsimp only
    by_cases hlr : l ≥ u
    ·rw [if_pos hlr]; exact wpS_pure ⟨⟨_,_,rfl,hu⟩,rfl⟩
    ·rw [if_neg hlr]
     refine wpS_bind (gI hC hk hkey hin (by omega) fun more=>?_)
     cases more
     ·exact wpS_pure ⟨⟨_,_,rfl,by omega⟩,rfl⟩
     ·exact wpS_pure ⟨⟨_,_,rfl,hu⟩,rfl⟩
   ·rintro c st' ⟨⟨l,u,rfl,hu⟩,rfl⟩
    exact wpS_pure (h u hu)
end
end PyProof.Rows
namespace PyProof.Rows
open PySem
theorem cQ (g : Nat) : eM g = modify fun s=>SortSt.mk' (kindOf s) (arrOf s) (pendingOf s) g (failedOf s):=rfl
theorem uY (a b : Array Keyed) : nF a b = (do
 rule "list.sort.merge-lo"
 let total:=a.size + b.size
 let done (out : Array Keyed) (ia ib : Nat):=out ++ a.extract ia a.size ++ b.extract ib b.size
 let lastOfA (out : Array Keyed) (ia ib : Nat):=out ++ b.extract ib b.size ++ a.extract ia a.size
 let mut out : Array Keyed:=#[← elem' b 0]
 let mut ia:=0
 let mut ib:=1
 if ib == b.size then return done out ia ib
 if ia + 1 == a.size then return lastOfA out ia ib
 let mut minGallop:=gallopOf (← get)
 for _ in [0:total] do
  let mut acount:=0
  let mut bcount:=0
  for _ in [0:total] do
   let some bWins ← lt' (← elem' b ib) (← elem' a ia) | return done out ia ib
   if bWins then
    out:=out.push (← elem' b ib); ib:=ib + 1; bcount:=bcount + 1; acount:=0
    if ib == b.size then return done out ia ib
    if bcount ≥ minGallop then break
   else
    out:=out.push (← elem' a ia); ia:=ia + 1; acount:=acount + 1; bcount:=0
    if ia + 1 == a.size then return lastOfA out ia ib
    if acount ≥ minGallop then break
  rule "list.sort.gallop"
  minGallop:=minGallop + 1
  for _ in [0:total] do
   if minGallop > 1 then minGallop:=minGallop - 1
   eM minGallop
   let some k ← fW false (← elem' b ib) a ia (a.size - ia) 0 | return done out ia ib
   acount:=k
   if k > 0 then
    out:=out ++ a.extract ia (ia + k); ia:=ia + k
    if ia + 1 == a.size then return lastOfA out ia ib
    if ia == a.size then return done out ia ib
   out:=out.push (← elem' b ib); ib:=ib + 1
   if ib == b.size then return done out ia ib
   let some k ← fW true (← elem' a ia) b ib (b.size - ib) 0 | return done out ia ib
   bcount:=k
   if k > 0 then
    out:=out ++ b.extract ib (ib + k); ib:=ib + k
    if ib == b.size then return done out ia ib
   out:=out.push (← elem' a ia); ia:=ia + 1
   if ia + 1 == a.size then return lastOfA out ia ib
   if acount < 7 && bcount < 7 then break
  minGallop:=minGallop + 1
  eM minGallop
 unsupported "internal:list.sort.merge-bound"):=rfl
structure SM (κ : SortKind) (ar : Array Keyed) (pd : Array (Nat × Nat × Nat)) (st : SortSt) : Prop where
 arr : arrOf st = ar
 kind : kindOf st = κ
 failed : failedOf st = none
 pend : pendingOf st = pd
def PI (a b out : Array Keyed) (ia ib : Nat) : Prop:=out.toList.Perm (a.toList.take ia ++ b.toList.take ib)
theorem tE {l : List Keyed} {i : Nat} (h : i < l.length) : l.take (i + 1) = l.take i ++ [l[i]]:=by rw [List.take_add_one,List.getElem?_eq_getElem h]; rfl
theorem PI.pushA {a b out : Array Keyed} {ia ib : Nat} (h : PI a b out ia ib) (hi : ia < a.size) : PI a b (out.push a[ia]) (ia + 1) ib:=by
 unfold PI at h ⊢
 rw [Array.toList_push,tE (by simpa using hi),List.append_assoc]
 refine (h.append_right _).trans ?_
 rw [List.append_assoc]
 refine List.Perm.append_left _ ?_
 have : a.toList[ia]'(by simpa using hi) = a[ia]:=by simp
 rw [this]
 exact List.perm_append_comm
theorem PI.pushB {a b out : Array Keyed} {ia ib : Nat} (h : PI a b out ia ib) (hi : ib < b.size) : PI a b (out.push b[ib]) ia (ib + 1):=by
 unfold PI at h ⊢
 rw [Array.toList_push,tE (by simpa using hi),← List.append_assoc]
 have : b.toList[ib]'(by simpa using hi) = b[ib]:=by simp
 rw [this]
 exact h.append_right _
theorem dF {a : Array Keyed} {i j : Nat} : (a.extract i j).toList = (a.toList.drop i).take (j - i):=by
 rw [Array.toList_extract,List.extract_eq_take_drop]
theorem PI.appA {a b out : Array Keyed} {ia ib : Nat} (h : PI a b out ia ib) (k : Nat) : PI a b (out ++ a.extract ia (ia + k)) (ia + k) ib:=by
 unfold PI at h ⊢
 rw [Array.toList_append,dF,Nat.add_sub_cancel_left,List.take_add,List.append_assoc]
 refine (h.append_right _).trans ?_
 rw [List.append_assoc]
 exact List.Perm.append_left _ List.perm_append_comm
theorem PI.appB {a b out : Array Keyed} {ia ib : Nat} (h : PI a b out ia ib) (k : Nat) : PI a b (out ++ b.extract ib (ib + k)) ia (ib + k):=by
 unfold PI at h ⊢
 rw [Array.toList_append,dF,Nat.add_sub_cancel_left,List.take_add,← List.append_assoc]
 exact h.append_right _
theorem PI.done {a b out : Array Keyed} {ia ib : Nat} (h : PI a b out ia ib) : (out ++ a.extract ia a.size ++ b.extract ib b.size).Perm (a ++ b):=by
 rw [Array.perm_iff_toList_perm]
 unfold PI at h
 rw [Array.toList_append,Array.toList_append,Array.toList_append,dF,dF]
 have e1 : (a.toList.drop ia).take (a.size - ia) = a.toList.drop ia:=List.take_of_length_le (by simp)
 have e2 : (b.toList.drop ib).take (b.size - ib) = b.toList.drop ib:=List.take_of_length_le (by simp)
 rw [e1,e2]
 refine ((h.append_right _).append_right _).trans ?_
 conv=>rhs; rw [← List.take_append_drop ia a.toList,← List.take_append_drop ib b.toList]
 rw [List.append_assoc,List.append_assoc,List.append_assoc]
 refine List.Perm.append_left _ ?_
 rw [← List.append_assoc,← List.append_assoc]
 exact List.Perm.append_right _ List.perm_append_comm
theorem PI.last {a b out : Array Keyed} {ia ib : Nat} (h : PI a b out ia ib) : (out ++ b.extract ib b.size ++ a.extract ia a.size).Perm (a ++ b):=by
 refine Array.Perm.trans ?_ h.done
 rw [Array.perm_iff_toList_perm]
 rw [Array.toList_append,Array.toList_append,Array.toList_append,Array.toList_append,List.append_assoc,List.append_assoc]
 exact List.Perm.append_left _ List.perm_append_comm
section
variable {prog : Program} {w : World} {A : Around} {E : Value→Shared→Prop} {s : Shared} {κ : SortKind} {a₀ : Array Keyed} {pd : Array (Nat × Nat × Nat)} {ar : Array Keyed}
theorem uZ {st : SortSt} {a b : Array Keyed} {Q : Array Keyed→SortSt→Prop} (hC : Cmp prog w A s κ a₀) (hB : SM κ ar pd st) (ha : ∀ x∈a.toList,x∈a₀.toList) (hb : ∀ x∈b.toList,x∈a₀.toList) (a1 : 1 ≤ a.size) (b1 : 1 ≤ b.size)
  (h : ∀ out st',out.Perm (a ++ b)→SM κ ar pd st'→Q out st') : wpS (model prog w) A E s (nF a b) Q st:=by
 rw [uY]
 refine wpS_bind (wpS_lift (wpAny_rule ⟨rfl,?_⟩))
 refine wpS_bind (aP (getElem?_pos b 0 (by omega)) ?_)
 dsimp only
 have p0 : PI a b #[b[0]] 0 1:=by
  have : PI a b #[] 0 0:=by unfold PI; simp
  exact this.pushB (by omega)
 by_cases e1 : (1 == b.size) = true
 ·rw [if_pos e1]
  exact wpS_pure (h _ _ p0.done hB)
 rw [if_neg e1]
 have n1 : ¬ (1 = b.size):=by simpa using e1
 by_cases e2 : (0 + 1 == a.size) = true
 ·rw [if_pos e2]
  exact wpS_pure (h _ _ p0.last hB)
 rw [if_neg e2]
 have n2 : ¬ (0 + 1 = a.size):=by simpa using e2
 refine wpS_bind (wpS_get ?_)
 refine wpS_bind (wpS_mono (wpS_forRange (I:=fun i c st'=>SM κ ar pd st'∧∃ out ia ib mg,c = (none,out,ia,ib,mg)∧PI a b out ia ib∧ia + 1 < a.size∧ib < b.size∧i ≤ ia + ib) (Q:=fun c st'=>SM κ ar pd st'∧∃ r c',c = (some r,c')∧r.Perm (a ++ b)) ?_ ?_ ⟨hB,_,_,_,_,rfl,p0,by omega,by omega,by omega⟩) ?_)
 ·rintro i c st1 _ hi ⟨hB0,out,ia,ib,mg,rfl,p1,la,lb,li⟩
  dsimp only
  refine wpS_bind (wpS_mono (wpS_forRange (I:=fun x c st'=>SM κ ar pd st'∧∃ out ia ib ac bc,c = (none,out,ia,ib,ac,bc)∧PI a b out ia ib∧ia + 1 < a.size∧ib < b.size∧i + x ≤ ia + ib) (Q:=fun c st'=>SM κ ar pd st'∧((∃ r c',c = (some r,c')∧r.Perm (a ++ b))∨∃ out ia ib ac bc,c = (none,out,ia,ib,ac,bc)∧PI a b out ia ib∧ia + 1 < a.size∧ib < b.size∧i + 1 ≤ ia + ib)) ?_ ?_ ⟨hB0,_,_,_,_,_,rfl,p1,la,lb,by omega⟩) ?_)
  ·rintro x c st2 _ hx ⟨hB1,out,ia,ib,ac,bc,rfl,p1,la,lb,li⟩
   dsimp only
   refine wpS_bind (aP (getElem?_pos b ib (by omega)) ?_)
   refine wpS_bind (aP (getElem?_pos a ia (by omega)) ?_)
   refine wpS_bind (lQ hC hB1.kind (hb _ (by simp)) (ha _ (by simp)) fun bw=>?_)
   cases bw
   ·dsimp only
    rw [if_neg (by decide)]
    refine wpS_bind (aP (getElem?_pos a ia (by omega)) ?_)
    have p2:=p1.pushA (show ia < a.size by omega)
    by_cases f1 : (ia + 1 + 1 == a.size) = true
    ·rw [if_pos f1]; exact wpS_pure ⟨hB1,.inl ⟨_,_,rfl,p2.last⟩⟩
    rw [if_neg f1]
    have g1 : ¬ (ia + 1 + 1 = a.size):=by simpa using f1
    split
    ·exact wpS_pure ⟨hB1,.inr ⟨_,_,_,_,_,rfl,p2,by omega,by omega,by omega⟩⟩
    ·exact wpS_pure ⟨hB1,_,_,_,_,_,rfl,p2,by omega,by omega,by omega⟩
   ·dsimp only
    rw [if_pos rfl]
    refine wpS_bind (aP (getElem?_pos b ib (by omega)) ?_)
    have p2:=p1.pushB (show ib < b.size by omega)
    by_cases f1 : (ib + 1 == b.size) = true
    ·rw [if_pos f1]; exact wpS_pure ⟨hB1,.inl ⟨_,_,rfl,p2.done⟩⟩
    rw [if_neg f1]
    have g1 : ¬ (ib + 1 = b.size):=by simpa using f1
    split
    ·exact wpS_pure ⟨hB1,.inr ⟨_,_,_,_,_,rfl,p2,by omega,by omega,by omega⟩⟩
    ·exact wpS_pure ⟨hB1,_,_,_,_,_,rfl,p2,by omega,by omega,by omega⟩
  ·rintro c st2 ⟨hB1,out,ia,ib,ac,bc,rfl,p1,la,lb,li⟩
   exact ⟨hB1,.inr ⟨_,_,_,_,_,rfl,p1,la,lb,by omega⟩⟩
  ·rintro c st2 ⟨hB1,⟨r,c',rfl,hp⟩ | ⟨out,ia,ib,ac,bc,rfl,p1,la,lb,li⟩⟩
   ·exact wpS_pure ⟨hB1,_,_,rfl,hp⟩
   ·dsimp only
    refine wpS_bind (wpS_lift (wpAny_rule ⟨rfl,?_⟩))
    refine wpS_bind (wpS_mono (wpS_forRange (I:=fun x c st'=>SM κ ar pd st'∧∃ out ia ib mg ac bc,c = (none,out,ia,ib,mg,ac,bc)∧PI a b out ia ib∧ia + 1 < a.size∧ib < b.size∧i + 1 ≤ ia + ib) (Q:=fun c st'=>SM κ ar pd st'∧((∃ r c',c = (some r,c')∧r.Perm (a ++ b))∨∃ out ia ib mg ac bc,c = (none,out,ia,ib,mg,ac,bc)∧PI a b out ia ib∧ia + 1 < a.size∧ib < b.size∧i + 1 ≤ ia + ib)) ?_ ?_ ⟨hB1,_,_,_,_,_,_,rfl,p1,la,lb,li⟩) ?_)
    ·rintro x c st2 _ hx ⟨hB1,out,ia,ib,mg,ac,bc,rfl,p1,la,lb,li⟩
     dsimp only
     by_cases hmg : mg > 1
     ·rw [if_pos hmg]
      rw [cQ]
      refine wpS_bind (wpS_modify ?_)
      refine wpS_bind (aP (getElem?_pos b ib (by omega)) ?_)
      have hB2 : SM κ ar pd (SortSt.mk' (kindOf st2) (arrOf st2) (pendingOf st2) (mg - 1) (failedOf st2)):=⟨hB1.arr,hB1.kind,hB1.failed,hB1.pend⟩
      refine wpS_bind (bU hC hB2.kind (hb _ (by simp)) ha (by omega) (by omega) fun k hk=>?_)
      dsimp only
      by_cases kp : k > 0
      ·rw [if_pos kp]
       have p2:=p1.appA k
       by_cases f4 : (ia + k + 1 == a.size) = true
       ·rw [if_pos f4]; exact wpS_pure ⟨hB2,.inl ⟨_,_,rfl,p2.last⟩⟩
       rw [if_neg f4]
       have g4 : ¬ (ia + k + 1 = a.size):=by simpa using f4
       by_cases f5 : (ia + k == a.size) = true
       ·rw [if_pos f5]; exact wpS_pure ⟨hB2,.inl ⟨_,_,rfl,p2.done⟩⟩
       rw [if_neg f5]
       have g5 : ¬ (ia + k = a.size):=by simpa using f5
       refine wpS_bind (aP (getElem?_pos b (ib) (by omega)) ?_)
       have pb:=p2.pushB (show ib < b.size by omega)
       by_cases f1 : ((ib) + 1 == b.size) = true
       ·rw [if_pos f1]; exact wpS_pure ⟨hB2,.inl ⟨_,_,rfl,pb.done⟩⟩
       rw [if_neg f1]
       have g1 : ¬ ((ib) + 1 = b.size):=by simpa using f1
       refine wpS_bind (aP (getElem?_pos a (ia + k) (by omega)) ?_)
       refine wpS_bind (bU hC hB2.kind (ha _ (by simp)) hb (by omega) (by omega) fun k2 hk2=>?_)
       dsimp only
       by_cases k2p : k2 > 0
       ·rw [if_pos k2p]
        have pb2:=pb.appB k2
        by_cases f2 : ((ib) + 1 + k2 == b.size) = true
        ·rw [if_pos f2]; exact wpS_pure ⟨hB2,.inl ⟨_,_,rfl,pb2.done⟩⟩
        rw [if_neg f2]
        have g2 : ¬ ((ib) + 1 + k2 = b.size):=by simpa using f2
        refine wpS_bind (aP (getElem?_pos a (ia + k) (by omega)) ?_)
        have pc:=pb2.pushA (show ia + k < a.size by omega)
        by_cases f3 : ((ia + k) + 1 + 1 == a.size) = true
        ·rw [if_pos f3]; exact wpS_pure ⟨hB2,.inl ⟨_,_,rfl,pc.last⟩⟩
        rw [if_neg f3]
        have g3 : ¬ ((ia + k) + 1 + 1 = a.size):=by simpa using f3
        split
        ·exact wpS_pure ⟨hB2,.inr ⟨_,_,_,_,_,_,rfl,pc,by omega,by omega,by omega⟩⟩
        ·exact wpS_pure ⟨hB2,⟨_,_,_,_,_,_,rfl,pc,by omega,by omega,by omega⟩⟩
       ·rw [if_neg k2p]
        refine wpS_bind (aP (getElem?_pos a (ia + k) (by omega)) ?_)
        have pc:=pb.pushA (show ia + k < a.size by omega)
        by_cases f3 : ((ia + k) + 1 + 1 == a.size) = true
        ·rw [if_pos f3]; exact wpS_pure ⟨hB2,.inl ⟨_,_,rfl,pc.last⟩⟩
        rw [if_neg f3]
        have g3 : ¬ ((ia + k) + 1 + 1 = a.size):=by simpa using f3
        split
        ·exact wpS_pure ⟨hB2,.inr ⟨_,_,_,_,_,_,rfl,pc,by omega,by omega,by omega⟩⟩
        ·exact wpS_pure ⟨hB2,⟨_,_,_,_,_,_,rfl,pc,by omega,by omega,by omega⟩⟩
      ·rw [if_neg kp]
       refine wpS_bind (aP (getElem?_pos b (ib) (by omega)) ?_)
       have pb:=p1.pushB (show ib < b.size by omega)
       by_cases f1 : ((ib) + 1 == b.size) = true
       ·rw [if_pos f1]; exact wpS_pure ⟨hB2,.inl ⟨_,_,rfl,pb.done⟩⟩
       rw [if_neg f1]
       have g1 : ¬ ((ib) + 1 = b.size):=by simpa using f1
       refine wpS_bind (aP (getElem?_pos a (ia) (by omega)) ?_)
       refine wpS_bind (bU hC hB2.kind (ha _ (by simp)) hb (by omega) (by omega) fun k2 hk2=>?_)
       dsimp only
       by_cases k2p : k2 > 0
       ·rw [if_pos k2p]
        have pb2:=pb.appB k2
        by_cases f2 : ((ib) + 1 + k2 == b.size) = true
        ·rw [if_pos f2]; exact wpS_pure ⟨hB2,.inl ⟨_,_,rfl,pb2.done⟩⟩
        rw [if_neg f2]
        have g2 : ¬ ((ib) + 1 + k2 = b.size):=by simpa using f2
        refine wpS_bind (aP (getElem?_pos a (ia) (by omega)) ?_)
        have pc:=pb2.pushA (show ia < a.size by omega)
        by_cases f3 : ((ia) + 1 + 1 == a.size) = true
        ·rw [if_pos f3]; exact wpS_pure ⟨hB2,.inl ⟨_,_,rfl,pc.last⟩⟩
        rw [if_neg f3]
        have g3 : ¬ ((ia) + 1 + 1 = a.size):=by simpa using f3
        split
        ·exact wpS_pure ⟨hB2,.inr ⟨_,_,_,_,_,_,rfl,pc,by omega,by omega,by omega⟩⟩
        ·exact wpS_pure ⟨hB2,⟨_,_,_,_,_,_,rfl,pc,by omega,by omega,by omega⟩⟩
       ·rw [if_neg k2p]
        refine wpS_bind (aP (getElem?_pos a (ia) (by omega)) ?_)
        have pc:=pb.pushA (show ia < a.size by omega)
        by_cases f3 : ((ia) + 1 + 1 == a.size) = true
        ·rw [if_pos f3]; exact wpS_pure ⟨hB2,.inl ⟨_,_,rfl,pc.last⟩⟩
        rw [if_neg f3]
        have g3 : ¬ ((ia) + 1 + 1 = a.size):=by simpa using f3
        split
        ·exact wpS_pure ⟨hB2,.inr ⟨_,_,_,_,_,_,rfl,pc,by omega,by omega,by omega⟩⟩
        ·exact wpS_pure ⟨hB2,⟨_,_,_,_,_,_,rfl,pc,by omega,by omega,by omega⟩⟩
     ·rw [if_neg hmg]
      rw [cQ]
      refine wpS_bind (wpS_modify ?_)
      refine wpS_bind (aP (getElem?_pos b ib (by omega)) ?_)
      have hB2 : SM κ ar pd (SortSt.mk' (kindOf st2) (arrOf st2) (pendingOf st2) mg (failedOf st2)):=⟨hB1.arr,hB1.kind,hB1.failed,hB1.pend⟩
      refine wpS_bind (bU hC hB2.kind (hb _ (by simp)) ha (by omega) (by omega) fun k hk=>?_)
      dsimp only
      by_cases kp : k > 0
      ·rw [if_pos kp]
       have p2:=p1.appA k
       by_cases f4 : (ia + k + 1 == a.size) = true
       ·rw [if_pos f4]; exact wpS_pure ⟨hB2,.inl ⟨_,_,rfl,p2.last⟩⟩
       rw [if_neg f4]
       have g4 : ¬ (ia + k + 1 = a.size):=by simpa using f4
       by_cases f5 : (ia + k == a.size) = true
       ·rw [if_pos f5]; exact wpS_pure ⟨hB2,.inl ⟨_,_,rfl,p2.done⟩⟩
       rw [if_neg f5]
       have g5 : ¬ (ia + k = a.size):=by simpa using f5
       refine wpS_bind (aP (getElem?_pos b (ib) (by omega)) ?_)
       have pb:=p2.pushB (show ib < b.size by omega)
       by_cases f1 : ((ib) + 1 == b.size) = true
       ·rw [if_pos f1]; exact wpS_pure ⟨hB2,.inl ⟨_,_,rfl,pb.done⟩⟩
       rw [if_neg f1]
       have g1 : ¬ ((ib) + 1 = b.size):=by simpa using f1
       refine wpS_bind (aP (getElem?_pos a (ia + k) (by omega)) ?_)
       refine wpS_bind (bU hC hB2.kind (ha _ (by simp)) hb (by omega) (by omega) fun k2 hk2=>?_)
       dsimp only
       by_cases k2p : k2 > 0
       ·rw [if_pos k2p]
        have pb2:=pb.appB k2
        by_cases f2 : ((ib) + 1 + k2 == b.size) = true
        ·rw [if_pos f2]; exact wpS_pure ⟨hB2,.inl ⟨_,_,rfl,pb2.done⟩⟩
        rw [if_neg f2]
        have g2 : ¬ ((ib) + 1 + k2 = b.size):=by simpa using f2
        refine wpS_bind (aP (getElem?_pos a (ia + k) (by omega)) ?_)
        have pc:=pb2.pushA (show ia + k < a.size by omega)
        by_cases f3 : ((ia + k) + 1 + 1 == a.size) = true
        ·rw [if_pos f3]; exact wpS_pure ⟨hB2,.inl ⟨_,_,rfl,pc.last⟩⟩
        rw [if_neg f3]
        have g3 : ¬ ((ia + k) + 1 + 1 = a.size):=by simpa using f3
        split
        ·exact wpS_pure ⟨hB2,.inr ⟨_,_,_,_,_,_,rfl,pc,by omega,by omega,by omega⟩⟩
        ·exact wpS_pure ⟨hB2,⟨_,_,_,_,_,_,rfl,pc,by omega,by omega,by omega⟩⟩
       ·rw [if_neg k2p]
        refine wpS_bind (aP (getElem?_pos a (ia + k) (by omega)) ?_)
        have pc:=pb.pushA (show ia + k < a.size by omega)
        by_cases f3 : ((ia + k) + 1 + 1 == a.size) = true
        ·rw [if_pos f3]; exact wpS_pure ⟨hB2,.inl ⟨_,_,rfl,pc.last⟩⟩
        rw [if_neg f3]
        have g3 : ¬ ((ia + k) + 1 + 1 = a.size):=by simpa using f3
        split
        ·exact wpS_pure ⟨hB2,.inr ⟨_,_,_,_,_,_,rfl,pc,by omega,by omega,by omega⟩⟩
        ·exact wpS_pure ⟨hB2,⟨_,_,_,_,_,_,rfl,pc,by omega,by omega,by omega⟩⟩
      ·rw [if_neg kp]
       refine wpS_bind (aP (getElem?_pos b (ib) (by omega)) ?_)
       have pb:=p1.pushB (show ib < b.size by omega)
       by_cases f1 : ((ib) + 1 == b.size) = true
       ·rw [if_pos f1]; exact wpS_pure ⟨hB2,.inl ⟨_,_,rfl,pb.done⟩⟩
       rw [if_neg f1]
       have g1 : ¬ ((ib) + 1 = b.size):=by simpa using f1
       refine wpS_bind (aP (getElem?_pos a (ia) (by omega)) ?_)
       refine wpS_bind (bU hC hB2.kind (ha _ (by simp)) hb (by omega) (by omega) fun k2 hk2=>?_)
       dsimp only
       by_cases k2p : k2 > 0
       ·rw [if_pos k2p]
        have pb2:=pb.appB k2
        by_cases f2 : ((ib) + 1 + k2 == b.size) = true
        ·rw [if_pos f2]; exact wpS_pure ⟨hB2,.inl ⟨_,_,rfl,pb2.done⟩⟩
        rw [if_neg f2]
        have g2 : ¬ ((ib) + 1 + k2 = b.size):=by simpa using f2
        refine wpS_bind (aP (getElem?_pos a (ia) (by omega)) ?_)
        have pc:=pb2.pushA (show ia < a.size by omega)
        by_cases f3 : ((ia) + 1 + 1 == a.size) = true
        ·rw [if_pos f3]; exact wpS_pure ⟨hB2,.inl ⟨_,_,rfl,pc.last⟩⟩
        rw [if_neg f3]
        have g3 : ¬ ((ia) + 1 + 1 = a.size):=by simpa using f3
        split
        ·exact wpS_pure ⟨hB2,.inr ⟨_,_,_,_,_,_,rfl,pc,by omega,by omega,by omega⟩⟩
        ·exact wpS_pure ⟨hB2,⟨_,_,_,_,_,_,rfl,pc,by omega,by omega,by omega⟩⟩
       ·rw [if_neg k2p]
        refine wpS_bind (aP (getElem?_pos a (ia) (by omega)) ?_)
        have pc:=pb.pushA (show ia < a.size by omega)
        by_cases f3 : ((ia) + 1 + 1 == a.size) = true
        ·rw [if_pos f3]; exact wpS_pure ⟨hB2,.inl ⟨_,_,rfl,pc.last⟩⟩
        rw [if_neg f3]
        have g3 : ¬ ((ia) + 1 + 1 = a.size):=by simpa using f3
        split
        ·exact wpS_pure ⟨hB2,.inr ⟨_,_,_,_,_,_,rfl,pc,by omega,by omega,by omega⟩⟩
        ·exact wpS_pure ⟨hB2,⟨_,_,_,_,_,_,rfl,pc,by omega,by omega,by omega⟩⟩
    ·rintro c st2 ⟨hB1,hh⟩
     exact ⟨hB1,.inr hh⟩
    ·rintro c st2 ⟨hB1,⟨r,c',rfl,hp⟩ | ⟨out,ia,ib,mg,ac,bc,rfl,p1,la,lb,li⟩⟩
     ·exact wpS_pure ⟨hB1,_,_,rfl,hp⟩
     ·dsimp only
      rw [cQ]
      refine wpS_bind (wpS_modify ?_)
      exact wpS_pure ⟨⟨hB1.arr,hB1.kind,hB1.failed,hB1.pend⟩,_,_,_,_,rfl,p1,la,lb,li⟩
 ·rintro c st1 ⟨hB0,out,ia,ib,mg,rfl,p1,la,lb,li⟩
  omega
 ·rintro c st1 ⟨hB0,r,c',rfl,hp⟩
  exact wpS_pure (h r st1 hp hB0)
end
end PyProof.Rows
namespace PyProof.Rows
open PySem
theorem vA (a b : Array Keyed) : nG a b = (do
 rule "list.sort.merge-hi"
 let total:=a.size + b.size
 let done (out : Array Keyed) (na nb : Nat):=a.extract 0 na ++ b.extract 0 nb ++ out.reverse
 let firstOfB (out : Array Keyed) (na nb : Nat):=b.extract 0 nb ++ a.extract 0 na ++ out.reverse
 let mut na:=a.size - 1
 let mut nb:=b.size
 let mut out : Array Keyed:=#[← elem' a na]
 if na == 0 then return done out na nb
 if nb == 1 then return firstOfB out na nb
 let mut minGallop:=gallopOf (← get)
 for _ in [0:total] do
  let mut acount:=0
  let mut bcount:=0
  for _ in [0:total] do
   let some aWins ← lt' (← elem' b (nb - 1)) (← elem' a (na - 1)) | return done out na nb
   if aWins then
    na:=na - 1; out:=out.push (← elem' a na); acount:=acount + 1; bcount:=0
    if na == 0 then return done out na nb
    if acount ≥ minGallop then break
   else
    nb:=nb - 1; out:=out.push (← elem' b nb); bcount:=bcount + 1; acount:=0
    if nb == 1 then return firstOfB out na nb
    if bcount ≥ minGallop then break
  rule "list.sort.gallop"
  minGallop:=minGallop + 1
  for _ in [0:total] do
   if minGallop > 1 then minGallop:=minGallop - 1
   eM minGallop
   let some at_ ← fW false (← elem' b (nb - 1)) a 0 na (na - 1) | return done out na nb
   let k:=na - at_
   acount:=k
   if k > 0 then
    out:=out ++ (a.extract at_ na).reverse; na:=at_
    if na == 0 then return done out na nb
   nb:=nb - 1; out:=out.push (← elem' b nb)
   if nb == 1 then return firstOfB out na nb
   let some at_ ← fW true (← elem' a (na - 1)) b 0 nb (nb - 1) | return done out na nb
   let k:=nb - at_
   bcount:=k
   if k > 0 then
    out:=out ++ (b.extract at_ nb).reverse; nb:=at_
    if nb == 1 then return firstOfB out na nb
    if nb == 0 then return done out na nb
   na:=na - 1; out:=out.push (← elem' a na)
   if na == 0 then return done out na nb
   if acount < 7 && bcount < 7 then break
  minGallop:=minGallop + 1
  eM minGallop
 unsupported "internal:list.sort.merge-bound"):=rfl
def PH (a b out : Array Keyed) (na nb : Nat) : Prop:=out.toList.Perm (a.toList.drop na ++ b.toList.drop nb)
theorem PH.pushA {a b out : Array Keyed} {na nb : Nat} (h : PH a b out na nb) (h1 : 1 ≤ na) (hi : na - 1 < a.size) : PH a b (out.push a[na - 1]) (na - 1) nb:=by
 unfold PH at h ⊢
 have e : a.toList.drop (na - 1) = a[na - 1] :: a.toList.drop na:=by
  have:=List.drop_eq_getElem_cons (l:=a.toList) (i:=na - 1) (by simpa using hi)
  rw [this,Nat.sub_add_cancel h1]
  simp
 rw [Array.toList_push,e]
 refine (h.append_right _).trans ?_
 exact List.perm_append_comm
theorem PH.pushB {a b out : Array Keyed} {na nb : Nat} (h : PH a b out na nb) (h1 : 1 ≤ nb) (hi : nb - 1 < b.size) : PH a b (out.push b[nb - 1]) na (nb - 1):=by
 unfold PH at h ⊢
 have e : b.toList.drop (nb - 1) = b[nb - 1] :: b.toList.drop nb:=by
  have:=List.drop_eq_getElem_cons (l:=b.toList) (i:=nb - 1) (by simpa using hi)
  rw [this,Nat.sub_add_cancel h1]
  simp
 rw [Array.toList_push,e]
 refine (h.append_right _).trans ?_
 rw [List.append_assoc]
 exact List.Perm.append_left _ List.perm_append_comm
theorem kT {l : List Keyed} {i j : Nat} (h : i ≤ j) : l.drop i = (l.drop i).take (j - i) ++ l.drop j:=by
 have:=(List.take_append_drop (j - i) (l.drop i)).symm
 rw [List.drop_drop,show i + (j - i) = j by omega] at this
 exact this
theorem PH.appA {a b out : Array Keyed} {na nb : Nat} (h : PH a b out na nb) {k : Nat} (hk : k ≤ na) : PH a b (out ++ (a.extract k na).reverse) k nb:=by
 unfold PH at h ⊢
 rw [Array.toList_append,Array.toList_reverse,dF]
 conv=>rhs; rw [kT hk]
 refine ((h.append_left _).trans ?_ |> fun z=>(List.Perm.trans List.perm_append_comm ((List.reverse_perm _).append_right _)).trans z)
 rw [List.append_assoc]
theorem PH.appB {a b out : Array Keyed} {na nb : Nat} (h : PH a b out na nb) {k : Nat} (hk : k ≤ nb) : PH a b (out ++ (b.extract k nb).reverse) na k:=by
 unfold PH at h ⊢
 rw [Array.toList_append,Array.toList_reverse,dF]
 conv=>rhs; rw [kT hk]
 refine (h.append_right _).trans ?_
 rw [List.append_assoc]
 refine List.Perm.append_left _ ?_
 exact List.perm_append_comm.trans ((List.reverse_perm _).append_right _)
theorem ext0 {a : Array Keyed} {j : Nat} : (a.extract 0 j).toList = a.toList.take j:=by rw [dF,List.drop_zero,Nat.sub_zero]
theorem PH.done {a b out : Array Keyed} {na nb : Nat} (h : PH a b out na nb) : (a.extract 0 na ++ b.extract 0 nb ++ out.reverse).Perm (a ++ b):=by
 rw [Array.perm_iff_toList_perm]
 unfold PH at h
 rw [Array.toList_append,Array.toList_append,Array.toList_append,Array.toList_reverse,ext0,ext0]
 conv=>rhs; rw [← List.take_append_drop na a.toList,← List.take_append_drop nb b.toList]
 refine (List.Perm.append_left _ ((List.reverse_perm _).trans h)).trans ?_
 rw [List.append_assoc,List.append_assoc]
 refine List.Perm.append_left _ ?_
 rw [← List.append_assoc,← List.append_assoc]
 exact List.Perm.append_right _ List.perm_append_comm
theorem PH.first {a b out : Array Keyed} {na nb : Nat} (h : PH a b out na nb) : (b.extract 0 nb ++ a.extract 0 na ++ out.reverse).Perm (a ++ b):=by
 refine Array.Perm.trans ?_ h.done
 rw [Array.perm_iff_toList_perm]
 rw [Array.toList_append,Array.toList_append,Array.toList_append,Array.toList_append]
 exact List.Perm.append_right _ List.perm_append_comm
section
variable {prog : Program} {w : World} {A : Around} {E : Value→Shared→Prop} {s : Shared} {κ : SortKind} {a₀ : Array Keyed} {pd : Array (Nat × Nat × Nat)} {ar : Array Keyed}
theorem vB {st : SortSt} {a b : Array Keyed} {Q : Array Keyed→SortSt→Prop} (hC : Cmp prog w A s κ a₀) (hB : SM κ ar pd st) (ha : ∀ x∈a.toList,x∈a₀.toList) (hb : ∀ x∈b.toList,x∈a₀.toList) (a1 : 1 ≤ a.size) (b1 : 1 ≤ b.size)
  (h : ∀ out st',out.Perm (a ++ b)→SM κ ar pd st'→Q out st') : wpS (model prog w) A E s (nG a b) Q st:=by
 rw [vA]
 refine wpS_bind (wpS_lift (wpAny_rule ⟨rfl,?_⟩))
 refine wpS_bind (aP (getElem?_pos a (a.size - 1) (by omega)) ?_)
 dsimp only
 have p0 : PH a b #[a[a.size - 1]] (a.size - 1) b.size:=by
  have : PH a b #[] a.size b.size:=by unfold PH; simp
  exact this.pushA a1 (by omega)
 by_cases e1 : (a.size - 1 == 0) = true
 ·rw [if_pos e1]
  exact wpS_pure (h _ _ p0.done hB)
 rw [if_neg e1]
 have n1 : ¬ (a.size - 1 = 0):=by simpa using e1
 by_cases e2 : (b.size == 1) = true
 ·rw [if_pos e2]
  exact wpS_pure (h _ _ p0.first hB)
 rw [if_neg e2]
 have n2 : ¬ (b.size = 1):=by simpa using e2
 refine wpS_bind (wpS_get ?_)
 refine wpS_bind (wpS_mono (wpS_forRange (I:=fun i c st'=>SM κ ar pd st'∧∃ na nb out mg,c = (none,na,nb,out,mg)∧PH a b out na nb∧1 ≤ na∧2 ≤ nb∧na ≤ a.size∧nb ≤ b.size∧i + na + nb ≤ a.size + b.size) (Q:=fun c st'=>SM κ ar pd st'∧∃ r c',c = (some r,c')∧r.Perm (a ++ b)) ?_ ?_ ⟨hB,_,_,_,_,rfl,p0,by omega,by omega,by omega,by omega,by omega⟩) ?_)
 ·rintro i c st1 _ hi ⟨hB0,na,nb,out,mg,rfl,p1,la,lb,ma,mb,li⟩
  dsimp only
  refine wpS_bind (wpS_mono (wpS_forRange (I:=fun x c st'=>SM κ ar pd st'∧∃ na nb out ac bc,c = (none,na,nb,out,ac,bc)∧PH a b out na nb∧1 ≤ na∧2 ≤ nb∧na ≤ a.size∧nb ≤ b.size∧i + x + na + nb ≤ a.size + b.size) (Q:=fun c st'=>SM κ ar pd st'∧((∃ r c',c = (some r,c')∧r.Perm (a ++ b))∨∃ na nb out ac bc,c = (none,na,nb,out,ac,bc)∧PH a b out na nb∧1 ≤ na∧2 ≤ nb∧na ≤ a.size∧nb ≤ b.size∧i + 1 + na + nb ≤ a.size + b.size)) ?_ ?_ ⟨hB0,_,_,_,_,_,rfl,p1,la,lb,ma,mb,by omega⟩) ?_)
  ·rintro x c st2 _ hx ⟨hB1,na,nb,out,ac,bc,rfl,p1,la,lb,ma,mb,li⟩
   dsimp only
   refine wpS_bind (aP (getElem?_pos b (nb - 1) (by omega)) ?_)
   refine wpS_bind (aP (getElem?_pos a (na - 1) (by omega)) ?_)
   refine wpS_bind (lQ hC hB1.kind (hb _ (by simp)) (ha _ (by simp)) fun aw=>?_)
   cases aw
   ·dsimp only
    rw [if_neg (by decide)]
    refine wpS_bind (aP (getElem?_pos b (nb - 1) (by omega)) ?_)
    have p2:=p1.pushB (show 1 ≤ nb by omega) (show nb - 1 < b.size by omega)
    by_cases f1 : (nb - 1 == 1) = true
    ·rw [if_pos f1]; exact wpS_pure ⟨hB1,.inl ⟨_,_,rfl,p2.first⟩⟩
    rw [if_neg f1]
    have g1 : ¬ (nb - 1 = 1):=by simpa using f1
    split
    ·exact wpS_pure ⟨hB1,.inr ⟨_,_,_,_,_,rfl,p2,by omega,by omega,by omega,by omega,by omega⟩⟩
    ·exact wpS_pure ⟨hB1,_,_,_,_,_,rfl,p2,by omega,by omega,by omega,by omega,by omega⟩
   ·dsimp only
    rw [if_pos rfl]
    refine wpS_bind (aP (getElem?_pos a (na - 1) (by omega)) ?_)
    have p2:=p1.pushA (show 1 ≤ na by omega) (show na - 1 < a.size by omega)
    by_cases f1 : (na - 1 == 0) = true
    ·rw [if_pos f1]; exact wpS_pure ⟨hB1,.inl ⟨_,_,rfl,p2.done⟩⟩
    rw [if_neg f1]
    have g1 : ¬ (na - 1 = 0):=by simpa using f1
    split
    ·exact wpS_pure ⟨hB1,.inr ⟨_,_,_,_,_,rfl,p2,by omega,by omega,by omega,by omega,by omega⟩⟩
    ·exact wpS_pure ⟨hB1,_,_,_,_,_,rfl,p2,by omega,by omega,by omega,by omega,by omega⟩
  ·rintro c st2 ⟨hB1,na,nb,out,ac,bc,rfl,p1,la,lb,ma,mb,li⟩
   exact ⟨hB1,.inr ⟨_,_,_,_,_,rfl,p1,la,lb,ma,mb,by omega⟩⟩
  ·rintro c st2 ⟨hB1,⟨r,c',rfl,hp⟩ | ⟨na,nb,out,ac,bc,rfl,p1,la,lb,ma,mb,li⟩⟩
   ·exact wpS_pure ⟨hB1,_,_,rfl,hp⟩
   ·dsimp only
    refine wpS_bind (wpS_lift (wpAny_rule ⟨rfl,?_⟩))
    refine wpS_bind (wpS_mono (wpS_forRange (I:=fun x c st'=>SM κ ar pd st'∧∃ na nb out mg ac bc,c = (none,na,nb,out,mg,ac,bc)∧PH a b out na nb∧1 ≤ na∧2 ≤ nb∧na ≤ a.size∧nb ≤ b.size∧i + 1 + na + nb ≤ a.size + b.size) (Q:=fun c st'=>SM κ ar pd st'∧((∃ r c',c = (some r,c')∧r.Perm (a ++ b))∨∃ na nb out mg ac bc,c = (none,na,nb,out,mg,ac,bc)∧PH a b out na nb∧1 ≤ na∧2 ≤ nb∧na ≤ a.size∧nb ≤ b.size∧i + 1 + na + nb ≤ a.size + b.size)) ?_ ?_ ⟨hB1,_,_,_,_,_,_,rfl,p1,la,lb,ma,mb,li⟩) ?_)
    ·rintro x c st2 _ hx ⟨hB1,na,nb,out,mg,ac,bc,rfl,p1,la,lb,ma,mb,li⟩
     dsimp only
     by_cases hmg : mg > 1
     ·rw [if_pos hmg]
      rw [cQ]
      refine wpS_bind (wpS_modify ?_)
      refine wpS_bind (aP (getElem?_pos b (nb - 1) (by omega)) ?_)
      have hB2 : SM κ ar pd (SortSt.mk' (kindOf st2) (arrOf st2) (pendingOf st2) (mg - 1) (failedOf st2)):=⟨hB1.arr,hB1.kind,hB1.failed,hB1.pend⟩
      refine wpS_bind (bU hC hB2.kind (hb _ (by simp)) ha (by omega) (by omega) fun k hk=>?_)
      dsimp only
      by_cases kp : na - k > 0
      ·rw [if_pos kp]
       have p2:=p1.appA hk
       by_cases f4 : (k == 0) = true
       ·rw [if_pos f4]; exact wpS_pure ⟨hB2,.inl ⟨_,_,rfl,p2.done⟩⟩
       rw [if_neg f4]
       have g4 : ¬ (k = 0):=by simpa using f4
       refine wpS_bind (aP (getElem?_pos b (nb - 1) (by omega)) ?_)
       have pb:=p2.pushB (show 1 ≤ nb by omega) (show nb - 1 < b.size by omega)
       by_cases f1 : (nb - 1 == 1) = true
       ·rw [if_pos f1]; exact wpS_pure ⟨hB2,.inl ⟨_,_,rfl,pb.first⟩⟩
       rw [if_neg f1]
       have g1 : ¬ (nb - 1 = 1):=by simpa using f1
       refine wpS_bind (aP (getElem?_pos a (k - 1) (by omega)) ?_)
       refine wpS_bind (bU hC hB2.kind (ha _ (by simp)) hb (by omega) (by omega) fun k2 hk2=>?_)
       dsimp only
       by_cases k2p : nb - 1 - k2 > 0
       ·rw [if_pos k2p]
        have pb2:=pb.appB hk2
        by_cases f2 : (k2 == 1) = true
        ·rw [if_pos f2]; exact wpS_pure ⟨hB2,.inl ⟨_,_,rfl,pb2.first⟩⟩
        rw [if_neg f2]
        have g2 : ¬ (k2 = 1):=by simpa using f2
        by_cases f6 : (k2 == 0) = true
        ·rw [if_pos f6]; exact wpS_pure ⟨hB2,.inl ⟨_,_,rfl,pb2.done⟩⟩
        rw [if_neg f6]
        have g6 : ¬ (k2 = 0):=by simpa using f6
        refine wpS_bind (aP (getElem?_pos a (k - 1) (by omega)) ?_)
        have pc:=pb2.pushA (show 1 ≤ k by omega) (show k - 1 < a.size by omega)
        by_cases f3 : (k - 1 == 0) = true
        ·rw [if_pos f3]; exact wpS_pure ⟨hB2,.inl ⟨_,_,rfl,pc.done⟩⟩
        rw [if_neg f3]
        have g3 : ¬ (k - 1 = 0):=by simpa using f3
        split
        ·exact wpS_pure ⟨hB2,.inr ⟨_,_,_,_,_,_,rfl,pc,by omega,by omega,by omega,by omega,by omega⟩⟩
        ·exact wpS_pure ⟨hB2,⟨_,_,_,_,_,_,rfl,pc,by omega,by omega,by omega,by omega,by omega⟩⟩
       ·rw [if_neg k2p]
        refine wpS_bind (aP (getElem?_pos a (k - 1) (by omega)) ?_)
        have pc:=pb.pushA (show 1 ≤ k by omega) (show k - 1 < a.size by omega)
        by_cases f3 : (k - 1 == 0) = true
        ·rw [if_pos f3]; exact wpS_pure ⟨hB2,.inl ⟨_,_,rfl,pc.done⟩⟩
        rw [if_neg f3]
        have g3 : ¬ (k - 1 = 0):=by simpa using f3
        split
        ·exact wpS_pure ⟨hB2,.inr ⟨_,_,_,_,_,_,rfl,pc,by omega,by omega,by omega,by omega,by omega⟩⟩
        ·exact wpS_pure ⟨hB2,⟨_,_,_,_,_,_,rfl,pc,by omega,by omega,by omega,by omega,by omega⟩⟩
      ·rw [if_neg kp]
       refine wpS_bind (aP (getElem?_pos b (nb - 1) (by omega)) ?_)
       have pb:=p1.pushB (show 1 ≤ nb by omega) (show nb - 1 < b.size by omega)
       by_cases f1 : (nb - 1 == 1) = true
       ·rw [if_pos f1]; exact wpS_pure ⟨hB2,.inl ⟨_,_,rfl,pb.first⟩⟩
       rw [if_neg f1]
       have g1 : ¬ (nb - 1 = 1):=by simpa using f1
       refine wpS_bind (aP (getElem?_pos a (na - 1) (by omega)) ?_)
       refine wpS_bind (bU hC hB2.kind (ha _ (by simp)) hb (by omega) (by omega) fun k2 hk2=>?_)
       dsimp only
       by_cases k2p : nb - 1 - k2 > 0
       ·rw [if_pos k2p]
        have pb2:=pb.appB hk2
        by_cases f2 : (k2 == 1) = true
        ·rw [if_pos f2]; exact wpS_pure ⟨hB2,.inl ⟨_,_,rfl,pb2.first⟩⟩
        rw [if_neg f2]
        have g2 : ¬ (k2 = 1):=by simpa using f2
        by_cases f6 : (k2 == 0) = true
        ·rw [if_pos f6]; exact wpS_pure ⟨hB2,.inl ⟨_,_,rfl,pb2.done⟩⟩
        rw [if_neg f6]
        have g6 : ¬ (k2 = 0):=by simpa using f6
        refine wpS_bind (aP (getElem?_pos a (na - 1) (by omega)) ?_)
        have pc:=pb2.pushA (show 1 ≤ na by omega) (show na - 1 < a.size by omega)
        by_cases f3 : (na - 1 == 0) = true
        ·rw [if_pos f3]; exact wpS_pure ⟨hB2,.inl ⟨_,_,rfl,pc.done⟩⟩
        rw [if_neg f3]
        have g3 : ¬ (na - 1 = 0):=by simpa using f3
        split
        ·exact wpS_pure ⟨hB2,.inr ⟨_,_,_,_,_,_,rfl,pc,by omega,by omega,by omega,by omega,by omega⟩⟩
        ·exact wpS_pure ⟨hB2,⟨_,_,_,_,_,_,rfl,pc,by omega,by omega,by omega,by omega,by omega⟩⟩
       ·rw [if_neg k2p]
        refine wpS_bind (aP (getElem?_pos a (na - 1) (by omega)) ?_)
        have pc:=pb.pushA (show 1 ≤ na by omega) (show na - 1 < a.size by omega)
        by_cases f3 : (na - 1 == 0) = true
        ·rw [if_pos f3]; exact wpS_pure ⟨hB2,.inl ⟨_,_,rfl,pc.done⟩⟩
        rw [if_neg f3]
        have g3 : ¬ (na - 1 = 0):=by simpa using f3
        split
        ·exact wpS_pure ⟨hB2,.inr ⟨_,_,_,_,_,_,rfl,pc,by omega,by omega,by omega,by omega,by omega⟩⟩
        ·exact wpS_pure ⟨hB2,⟨_,_,_,_,_,_,rfl,pc,by omega,by omega,by omega,by omega,by omega⟩⟩
     ·rw [if_neg hmg]
      rw [cQ]
      refine wpS_bind (wpS_modify ?_)
      refine wpS_bind (aP (getElem?_pos b (nb - 1) (by omega)) ?_)
      have hB2 : SM κ ar pd (SortSt.mk' (kindOf st2) (arrOf st2) (pendingOf st2) mg (failedOf st2)):=⟨hB1.arr,hB1.kind,hB1.failed,hB1.pend⟩
      refine wpS_bind (bU hC hB2.kind (hb _ (by simp)) ha (by omega) (by omega) fun k hk=>?_)
      dsimp only
      by_cases kp : na - k > 0
      ·rw [if_pos kp]
       have p2:=p1.appA hk
       by_cases f4 : (k == 0) = true
       ·rw [if_pos f4]; exact wpS_pure ⟨hB2,.inl ⟨_,_,rfl,p2.done⟩⟩
       rw [if_neg f4]
       have g4 : ¬ (k = 0):=by simpa using f4
       refine wpS_bind (aP (getElem?_pos b (nb - 1) (by omega)) ?_)
       have pb:=p2.pushB (show 1 ≤ nb by omega) (show nb - 1 < b.size by omega)
       by_cases f1 : (nb - 1 == 1) = true
       ·rw [if_pos f1]; exact wpS_pure ⟨hB2,.inl ⟨_,_,rfl,pb.first⟩⟩
       rw [if_neg f1]
       have g1 : ¬ (nb - 1 = 1):=by simpa using f1
       refine wpS_bind (aP (getElem?_pos a (k - 1) (by omega)) ?_)
       refine wpS_bind (bU hC hB2.kind (ha _ (by simp)) hb (by omega) (by omega) fun k2 hk2=>?_)
       dsimp only
       by_cases k2p : nb - 1 - k2 > 0
       ·rw [if_pos k2p]
        have pb2:=pb.appB hk2
        by_cases f2 : (k2 == 1) = true
        ·rw [if_pos f2]; exact wpS_pure ⟨hB2,.inl ⟨_,_,rfl,pb2.first⟩⟩
        rw [if_neg f2]
        have g2 : ¬ (k2 = 1):=by simpa using f2
        by_cases f6 : (k2 == 0) = true
        ·rw [if_pos f6]; exact wpS_pure ⟨hB2,.inl ⟨_,_,rfl,pb2.done⟩⟩
        rw [if_neg f6]
        have g6 : ¬ (k2 = 0):=by simpa using f6
        refine wpS_bind (aP (getElem?_pos a (k - 1) (by omega)) ?_)
        have pc:=pb2.pushA (show 1 ≤ k by omega) (show k - 1 < a.size by omega)
        by_cases f3 : (k - 1 == 0) = true
        ·rw [if_pos f3]; exact wpS_pure ⟨hB2,.inl ⟨_,_,rfl,pc.done⟩⟩
        rw [if_neg f3]
        have g3 : ¬ (k - 1 = 0):=by simpa using f3
        split
        ·exact wpS_pure ⟨hB2,.inr ⟨_,_,_,_,_,_,rfl,pc,by omega,by omega,by omega,by omega,by omega⟩⟩
        ·exact wpS_pure ⟨hB2,⟨_,_,_,_,_,_,rfl,pc,by omega,by omega,by omega,by omega,by omega⟩⟩
       ·rw [if_neg k2p]
        refine wpS_bind (aP (getElem?_pos a (k - 1) (by omega)) ?_)
        have pc:=pb.pushA (show 1 ≤ k by omega) (show k - 1 < a.size by omega)
        by_cases f3 : (k - 1 == 0) = true
        ·rw [if_pos f3]; exact wpS_pure ⟨hB2,.inl ⟨_,_,rfl,pc.done⟩⟩
        rw [if_neg f3]
        have g3 : ¬ (k - 1 = 0):=by simpa using f3
        split
        ·exact wpS_pure ⟨hB2,.inr ⟨_,_,_,_,_,_,rfl,pc,by omega,by omega,by omega,by omega,by omega⟩⟩
        ·exact wpS_pure ⟨hB2,⟨_,_,_,_,_,_,rfl,pc,by omega,by omega,by omega,by omega,by omega⟩⟩
      ·rw [if_neg kp]
       refine wpS_bind (aP (getElem?_pos b (nb - 1) (by omega)) ?_)
       have pb:=p1.pushB (show 1 ≤ nb by omega) (show nb - 1 < b.size by omega)
       by_cases f1 : (nb - 1 == 1) = true
       ·rw [if_pos f1]; exact wpS_pure ⟨hB2,.inl ⟨_,_,rfl,pb.first⟩⟩
       rw [if_neg f1]
       have g1 : ¬ (nb - 1 = 1):=by simpa using f1
       refine wpS_bind (aP (getElem?_pos a (na - 1) (by omega)) ?_)
       refine wpS_bind (bU hC hB2.kind (ha _ (by simp)) hb (by omega) (by omega) fun k2 hk2=>?_)
       dsimp only
       by_cases k2p : nb - 1 - k2 > 0
       ·rw [if_pos k2p]
        have pb2:=pb.appB hk2
        by_cases f2 : (k2 == 1) = true
        ·rw [if_pos f2]; exact wpS_pure ⟨hB2,.inl ⟨_,_,rfl,pb2.first⟩⟩
        rw [if_neg f2]
        have g2 : ¬ (k2 = 1):=by simpa using f2
        by_cases f6 : (k2 == 0) = true
        ·rw [if_pos f6]; exact wpS_pure ⟨hB2,.inl ⟨_,_,rfl,pb2.done⟩⟩
        rw [if_neg f6]
        have g6 : ¬ (k2 = 0):=by simpa using f6
        refine wpS_bind (aP (getElem?_pos a (na - 1) (by omega)) ?_)
        have pc:=pb2.pushA (show 1 ≤ na by omega) (show na - 1 < a.size by omega)
        by_cases f3 : (na - 1 == 0) = true
        ·rw [if_pos f3]; exact wpS_pure ⟨hB2,.inl ⟨_,_,rfl,pc.done⟩⟩
        rw [if_neg f3]
        have g3 : ¬ (na - 1 = 0):=by simpa using f3
        split
        ·exact wpS_pure ⟨hB2,.inr ⟨_,_,_,_,_,_,rfl,pc,by omega,by omega,by omega,by omega,by omega⟩⟩
        ·exact wpS_pure ⟨hB2,⟨_,_,_,_,_,_,rfl,pc,by omega,by omega,by omega,by omega,by omega⟩⟩
       ·rw [if_neg k2p]
        refine wpS_bind (aP (getElem?_pos a (na - 1) (by omega)) ?_)
        have pc:=pb.pushA (show 1 ≤ na by omega) (show na - 1 < a.size by omega)
        by_cases f3 : (na - 1 == 0) = true
        ·rw [if_pos f3]; exact wpS_pure ⟨hB2,.inl ⟨_,_,rfl,pc.done⟩⟩
        rw [if_neg f3]
        have g3 : ¬ (na - 1 = 0):=by simpa using f3
        split
        ·exact wpS_pure ⟨hB2,.inr ⟨_,_,_,_,_,_,rfl,pc,by omega,by omega,by omega,by omega,by omega⟩⟩
        ·exact wpS_pure ⟨hB2,⟨_,_,_,_,_,_,rfl,pc,by omega,by omega,by omega,by omega,by omega⟩⟩
    ·rintro c st2 ⟨hB1,hh⟩
     exact ⟨hB1,.inr hh⟩
    ·rintro c st2 ⟨hB1,⟨r,c',rfl,hp⟩ | ⟨na,nb,out,mg,ac,bc,rfl,p1,la,lb,ma,mb,li⟩⟩
     ·exact wpS_pure ⟨hB1,_,_,rfl,hp⟩
     ·dsimp only
      rw [cQ]
      refine wpS_bind (wpS_modify ?_)
      exact wpS_pure ⟨⟨hB1.arr,hB1.kind,hB1.failed,hB1.pend⟩,_,_,_,_,rfl,p1,la,lb,ma,mb,li⟩
 ·rintro c st1 ⟨hB0,na,nb,out,mg,rfl,p1,la,lb,ma,mb,li⟩
  omega
 ·rintro c st1 ⟨hB0,r,c',rfl,hp⟩
  exact wpS_pure (h r st1 hp hB0)
end
end PyProof.Rows
namespace PyProof.Rows
open PySem
section
variable {prog : Program} {w : World} {A : Around} {E : Value→Shared→Prop} {s : Shared} {κ : SortKind} {a₀ : Array Keyed} {pd : Array (Nat × Nat × Nat)}
theorem aAa {st : SortSt} {lo nrem : Nat} {Q : Option Nat→SortSt→Prop} (hC : Cmp prog w A s κ a₀) (hn : lo + nrem ≤ a₀.size) (h1 : 1 ≤ nrem) (hB : SQ κ a₀ pd st) (h : ∀ n st',SQ κ a₀ pd st'→1 ≤ n→n ≤ nrem→Q (some n) st') : wpS (model prog w) A E s (countRun' lo nrem) Q st:=by
 rw [countRun'_eq]
 refine wpS_bind (wpS_mono (wpS_forRange (I:=fun i c st'=>SQ κ a₀ pd st'∧∃ m,c = (none,m)∧m = i) (Q:=fun c st'=>SQ κ a₀ pd st'∧∃ m,c = (none,m)∧1 ≤ m∧m ≤ nrem) ?_ ?_ ⟨hB,_,rfl,rfl⟩) ?_)
 ·rintro i c st1 hi1 hi2 ⟨hB1,m,rfl,rfl⟩
  dsimp only
  refine wpS_bind (dW hC hB1 (by omega) (by omega) fun b1=>?_)
  cases b1
  ·exact wpS_pure ⟨hB1,_,rfl,rfl⟩
  ·exact wpS_pure ⟨hB1,_,rfl,by omega,by omega⟩
 ·rintro c st1 ⟨hB1,m,rfl,rfl⟩
  exact ⟨hB1,_,rfl,by omega,by omega⟩
 ·rintro c st1 ⟨hB1,n,rfl,n1,n2⟩
  dsimp only
  by_cases e1 : (n == nrem) = true
  ·rw [if_pos e1]; exact wpS_pure (h n st1 hB1 n1 n2)
  rw [if_neg e1]
  have g1 : ¬ (n = nrem):=by simpa using e1
  by_cases e2 : n > 1
  ·rw [if_pos e2]
   refine wpS_bind (dW hC hB1 (by omega) (by omega) fun b2=>?_)
   cases b2
   ·dsimp only
    rw [if_neg (by decide)]
    refine wpS_bind (fA hB1 fun st2 hB2=>?_)
    refine wpS_bind (wpS_lift (wpAny_rule ⟨rfl,?_⟩))
    refine wpS_bind (wpS_mono (wpS_forRange (I:=fun i c st'=>SQ κ a₀ pd st'∧∃ m q,c = (none,m,q)∧m = i) (Q:=fun c st'=>SQ κ a₀ pd st'∧∃ m q,c = (none,m,q)∧1 ≤ m∧m ≤ nrem) ?_ ?_ ⟨hB2,_,_,rfl,rfl⟩) ?_)
    ·rintro i c st3 hi1 hi2 ⟨hB3,m,q,rfl,rfl⟩
     dsimp only
     refine wpS_bind (dW hC hB3 (by omega) (by omega) fun b3=>?_)
     cases b3
     ·dsimp only
      rw [if_neg (by decide)]
      refine wpS_bind (dW hC hB3 (by omega) (by omega) fun b4=>?_)
      cases b4
      ·exact wpS_pure ⟨hB3,_,_,rfl,rfl⟩
      ·exact wpS_pure ⟨hB3,_,_,rfl,by omega,by omega⟩
     ·dsimp only
      rw [if_pos rfl]
      split
      ·exact wpS_bind (fA hB3 fun st4 hB4=>wpS_pure ⟨hB4,_,_,rfl,rfl⟩)
      ·exact wpS_pure ⟨hB3,_,_,rfl,rfl⟩
    ·rintro c st3 ⟨hB3,m,q,rfl,rfl⟩
     exact ⟨hB3,_,_,rfl,by omega,by omega⟩
    ·rintro c st3 ⟨hB3,m,q,rfl,m1,m2⟩
     dsimp only
     split
     ·refine wpS_bind (fA hB3 fun st4 hB4=>?_)
      refine wpS_bind (fA hB4 fun st5 hB5=>?_)
      refine wpS_bind (wpS_mono (wpS_forRange (I:=fun i c st'=>SQ κ a₀ pd st'∧∃ m,c = (none,m)∧m = i) (Q:=fun c st'=>SQ κ a₀ pd st'∧∃ m,c = (none,m)∧1 ≤ m∧m ≤ nrem) ?_ ?_ ⟨hB5,_,rfl,rfl⟩) ?_)
      ·rintro i c st6 hi1 hi2 ⟨hB6,m,rfl,rfl⟩
       dsimp only
       refine wpS_bind (dW hC hB6 (by omega) (by omega) fun b6=>?_)
       cases b6
       ·exact wpS_pure ⟨hB6,_,rfl,rfl⟩
       ·exact wpS_pure ⟨hB6,_,rfl,by omega,by omega⟩
      ·rintro c st6 ⟨hB6,m,rfl,rfl⟩
       exact ⟨hB6,_,rfl,by omega,by omega⟩
      ·rintro c st6 ⟨hB6,m,rfl,h1,h2⟩
       exact wpS_pure (h m st6 hB6 h1 h2)
     ·refine wpS_bind (fA hB3 fun st5 hB5=>?_)
      refine wpS_bind (wpS_mono (wpS_forRange (I:=fun i c st'=>SQ κ a₀ pd st'∧∃ m,c = (none,m)∧m = i) (Q:=fun c st'=>SQ κ a₀ pd st'∧∃ m,c = (none,m)∧1 ≤ m∧m ≤ nrem) ?_ ?_ ⟨hB5,_,rfl,rfl⟩) ?_)
      ·rintro i c st6 hi1 hi2 ⟨hB6,m,rfl,rfl⟩
       dsimp only
       refine wpS_bind (dW hC hB6 (by omega) (by omega) fun b6=>?_)
       cases b6
       ·exact wpS_pure ⟨hB6,_,rfl,rfl⟩
       ·exact wpS_pure ⟨hB6,_,rfl,by omega,by omega⟩
      ·rintro c st6 ⟨hB6,m,rfl,rfl⟩
       exact ⟨hB6,_,rfl,by omega,by omega⟩
      ·rintro c st6 ⟨hB6,m,rfl,h1,h2⟩
       exact wpS_pure (h m st6 hB6 h1 h2)
   ·exact wpS_pure (h n st1 hB1 n1 n2)
  ·rw [if_neg e2]
   have hB2:=hB1
   refine wpS_bind (wpS_lift (wpAny_rule ⟨rfl,?_⟩))
   refine wpS_bind (wpS_mono (wpS_forRange (I:=fun i c st'=>SQ κ a₀ pd st'∧∃ m q,c = (none,m,q)∧m = i) (Q:=fun c st'=>SQ κ a₀ pd st'∧∃ m q,c = (none,m,q)∧1 ≤ m∧m ≤ nrem) ?_ ?_ ⟨hB2,_,_,rfl,rfl⟩) ?_)
   ·rintro i c st3 hi1 hi2 ⟨hB3,m,q,rfl,rfl⟩
    dsimp only
    refine wpS_bind (dW hC hB3 (by omega) (by omega) fun b3=>?_)
    cases b3
    ·dsimp only
     rw [if_neg (by decide)]
     refine wpS_bind (dW hC hB3 (by omega) (by omega) fun b4=>?_)
     cases b4
     ·exact wpS_pure ⟨hB3,_,_,rfl,rfl⟩
     ·exact wpS_pure ⟨hB3,_,_,rfl,by omega,by omega⟩
    ·dsimp only
     rw [if_pos rfl]
     split
     ·exact wpS_bind (fA hB3 fun st4 hB4=>wpS_pure ⟨hB4,_,_,rfl,rfl⟩)
     ·exact wpS_pure ⟨hB3,_,_,rfl,rfl⟩
   ·rintro c st3 ⟨hB3,m,q,rfl,rfl⟩
    exact ⟨hB3,_,_,rfl,by omega,by omega⟩
   ·rintro c st3 ⟨hB3,m,q,rfl,m1,m2⟩
    dsimp only
    split
    ·refine wpS_bind (fA hB3 fun st4 hB4=>?_)
     refine wpS_bind (fA hB4 fun st5 hB5=>?_)
     refine wpS_bind (wpS_mono (wpS_forRange (I:=fun i c st'=>SQ κ a₀ pd st'∧∃ m,c = (none,m)∧m = i) (Q:=fun c st'=>SQ κ a₀ pd st'∧∃ m,c = (none,m)∧1 ≤ m∧m ≤ nrem) ?_ ?_ ⟨hB5,_,rfl,rfl⟩) ?_)
     ·rintro i c st6 hi1 hi2 ⟨hB6,m,rfl,rfl⟩
      dsimp only
      refine wpS_bind (dW hC hB6 (by omega) (by omega) fun b6=>?_)
      cases b6
      ·exact wpS_pure ⟨hB6,_,rfl,rfl⟩
      ·exact wpS_pure ⟨hB6,_,rfl,by omega,by omega⟩
     ·rintro c st6 ⟨hB6,m,rfl,rfl⟩
      exact ⟨hB6,_,rfl,by omega,by omega⟩
     ·rintro c st6 ⟨hB6,m,rfl,h1,h2⟩
      exact wpS_pure (h m st6 hB6 h1 h2)
    ·refine wpS_bind (fA hB3 fun st5 hB5=>?_)
     refine wpS_bind (wpS_mono (wpS_forRange (I:=fun i c st'=>SQ κ a₀ pd st'∧∃ m,c = (none,m)∧m = i) (Q:=fun c st'=>SQ κ a₀ pd st'∧∃ m,c = (none,m)∧1 ≤ m∧m ≤ nrem) ?_ ?_ ⟨hB5,_,rfl,rfl⟩) ?_)
     ·rintro i c st6 hi1 hi2 ⟨hB6,m,rfl,rfl⟩
      dsimp only
      refine wpS_bind (dW hC hB6 (by omega) (by omega) fun b6=>?_)
      cases b6
      ·exact wpS_pure ⟨hB6,_,rfl,rfl⟩
      ·exact wpS_pure ⟨hB6,_,rfl,by omega,by omega⟩
     ·rintro c st6 ⟨hB6,m,rfl,rfl⟩
      exact ⟨hB6,_,rfl,by omega,by omega⟩
     ·rintro c st6 ⟨hB6,m,rfl,h1,h2⟩
      exact wpS_pure (h m st6 hB6 h1 h2)
end
end PyProof.Rows
namespace PyProof.Rows
open PySem
abbrev Run:=Nat × Nat × Nat
def Runs : List Run→Nat→Nat→Prop
 | [],s,e=>s = e
 | r :: rs,s,e=>r.1 = s∧1 ≤ r.2.1∧Runs rs (s + r.2.1) e
theorem Runs.le : ∀ {l : List Run} {s e : Nat},Runs l s e→s ≤ e
 | [],_,_,h=>Nat.le_of_eq h
 | r :: rs,s,e,⟨_,h2,h3⟩=>by have:=h3.le; omega
theorem Runs.two : ∀ {l : List Run} {s e i : Nat} {x y : Run},Runs l s e→l[i]? = some x→l[i + 1]? = some y →
  x.1 + x.2.1 = y.1∧y.1 + y.2.1 ≤ e∧1 ≤ x.2.1∧1 ≤ y.2.1∧∀ p,Runs ((l.set i (x.1,x.2.1 + y.2.1,p)).eraseIdx (i + 1)) s e
 | r :: q :: rs,s,e,0,x,y,⟨h1,h2,h3,h4,h5⟩,hx,hy=>by
  obtain rfl:=Option.some.inj hx
  obtain rfl:=Option.some.inj hy
  have:=h5.le
  refine ⟨by omega,by omega,h2,h4,fun p=>⟨h1,by show 1 ≤ r.2.1 + q.2.1; omega,?_⟩⟩
  show Runs rs (s + (r.2.1 + q.2.1)) e
  rw [← Nat.add_assoc]; exact h5
 | r :: rs,s,e,i + 1,x,y,⟨h1,h2,h3⟩,hx,hy=>by
  obtain ⟨a1,a2,a3,a4,a5⟩:=Runs.two (i:=i) h3 hx hy
  exact ⟨a1,a2,a3,a4,fun p=>⟨h1,h2,a5 p⟩⟩
theorem Runs.push : ∀ {l : List Run} {s e n p : Nat},Runs l s e→1 ≤ n→Runs (l ++ [(e,n,p)]) s (e + n)
 | [],s,e,n,p,h,hn=>⟨h.symm,hn,by rw [h]; rfl⟩
 | r :: rs,s,e,n,p,⟨h1,h2,h3⟩,hn=>⟨h1,h2,Runs.push h3 hn⟩
theorem Runs.pw : ∀ {l : List Run} {s e : Nat} (i p : Nat),Runs l s e→Runs (l.modify i fun r=>(r.1,r.2.1,p)) s e
 | [],s,e,i,p,h=>by cases i <;> exact h
 | r :: rs,s,e,0,p,⟨h1,h2,h3⟩=>⟨h1,h2,h3⟩
 | r :: rs,s,e,i + 1,p,⟨h1,h2,h3⟩=>⟨h1,h2,Runs.pw i p h3⟩
theorem aB6 {M : Model} {A : Around} {E : Value→Shared→Prop} {s : Shared} {σ : Type} {x : σ} {Q : PUnit→σ→Prop} {st : σ} (h : Q ⟨⟩ x) : wpS M A E s (set x : StateT σ Sem PUnit) Q st:=by
 unfold wpS; rw [StateT.run_set]; exact wpAny_pure ⟨rfl,h⟩
theorem vC (i : Nat) : mergeAt' i = (do
 let s ← get
 let (some (sa,na,power),some (sb,nb,_)):=((pendingOf s)[i]?,(pendingOf s)[i + 1]?) | unsupported "internal:list.sort.pending"
 set (setPending s (((pendingOf s).setIfInBounds i (sa,na + nb,power)).eraseIdxIfInBounds (i + 1)))
 let some k ← fW false (← elem' (arrOf s) sb) (arrOf s) sa na 0 | return false
 let (sa,na):=(sa + k,na - k)
 if na == 0 then return true
 let some nb ← fW true (← elem' (arrOf s) (sa + na - 1)) (arrOf s) sb nb (nb - 1) | return false
 if nb == 0 then return true
 let x:=(arrOf s).extract sa sb
 let y:=(arrOf s).extract sb (sb + nb)
 let merged ← if na ≤ nb then nF x y else nG x y
 modify fun s=>setArr s (merged.toList.zipIdx.foldl (fun a (p,j)=>a.setIfInBounds (sa + j) p) (arrOf s))
 return (failedOf (← get)).isNone):=rfl
theorem oO {sa : Nat} : ∀ (l : List Keyed) (k : Nat) (arr : Array Keyed),sa + k + l.length ≤ arr.size →
  ((l.zipIdx k).foldl (fun (a : Array Keyed) (x : Keyed × Nat)=>a.setIfInBounds (sa + x.2) x.1) arr).toList = arr.toList.take (sa + k) ++ l ++ arr.toList.drop (sa + k + l.length)
 | [],k,arr,_=>by simp
 | x :: l,k,arr,h=>by
  rw [List.length_cons] at h
  have hs : sa + k < arr.toList.length:=by rw [Array.length_toList]; omega
  rw [List.zipIdx_cons,List.foldl_cons,oO l (k + 1) _ (by rw [Array.size_setIfInBounds]; omega),Array.toList_setIfInBounds]
  dsimp only
  have e1 : (arr.toList.set (sa + k) x).take (sa + (k + 1)) = arr.toList.take (sa + k) ++ [x]:=by
   rw [← Nat.add_assoc,List.take_add_one,List.getElem?_set_self hs,List.take_set_of_le (Nat.le_refl _)]
   rfl
  have e2 : (arr.toList.set (sa + k) x).drop (sa + (k + 1) + l.length) = arr.toList.drop (sa + k + (x :: l).length):=by
   rw [List.drop_set_of_lt (by omega),List.length_cons]
   congr 1; omega
  rw [e1,e2,List.append_assoc,List.append_assoc,List.append_assoc]
  rfl
section
variable {prog : Program} {w : World} {A : Around} {E : Value→Shared→Prop} {s : Shared} {κ : SortKind} {a₀ : Array Keyed}
def SR (κ : SortKind) (a₀ : Array Keyed) (lo : Nat) (st : SortSt) : Prop:=∃ pd,SQ κ a₀ pd st∧Runs pd.toList 0 lo∧lo ≤ a₀.size
theorem kB {st : SortSt} {i lo : Nat} {Q : Bool→SortSt→Prop} (hC : Cmp prog w A s κ a₀) (hB : SR κ a₀ lo st) (hi : i + 1 < (pendingOf st).size) (h : ∀ st',SR κ a₀ lo st'→Q true st') : wpS (model prog w) A E s (mergeAt' i) Q st:=by
 obtain ⟨pd,hq,hr,hlo⟩:=hB
 rw [hq.pend] at hi
 rw [vC]
 refine wpS_bind (wpS_get ?_)
 have e1 : pd[i]? = some pd[i]:=getElem?_pos pd i (by omega)
 have e2 : pd[i + 1]? = some pd[i + 1]:=getElem?_pos pd (i + 1) hi
 obtain ⟨a1,a2,a3,a4,a5⟩:=hr.two (i:=i) (x:=pd[i]) (y:=pd[i + 1]) (by simpa using e1) (by simpa using e2)
 rw [hq.pend,e1,e2]
 revert a1 a2 a3 a4 a5
 generalize pd[i] = x
 generalize pd[i + 1] = y
 obtain ⟨sa,na,pw⟩:=x
 obtain ⟨sb,nb,pw2⟩:=y
 intro a1 a2 a3 a4 a5
 dsimp only at a1 a2 a3 a4 a5 ⊢
 obtain ⟨pd',hpd'⟩ : ∃ pd',pd' = (pd.setIfInBounds i (sa,na + nb,pw)).eraseIdxIfInBounds (i + 1):=⟨_,rfl⟩
 have hr' : Runs pd'.toList 0 lo:=by
  rw [hpd',Array.toList_eraseIdxIfInBounds,Array.toList_setIfInBounds]
  exact a5 pw
 refine wpS_bind (aB6 ?_)
 rw [← hpd']
 have hq1 : SM κ (arrOf st) pd' (setPending st pd'):=⟨rfl,hq.kind,hq.failed,rfl⟩
 have hsz:=hq.size
 have hin : ∀ x∈(arrOf st).toList,x∈a₀.toList:=fun x hx=>(Array.perm_iff_toList_perm.mp hq.perm).mem_iff.mp hx
 have fin : ∀ st',SM κ (arrOf st) pd' st'→SR κ a₀ lo st':=fun st' m=>⟨pd',⟨by rw [m.arr]; exact hq.perm,m.kind,m.failed,m.pend⟩,hr',hlo⟩
 refine wpS_bind (aP (getElem?_pos (arrOf st) sb (by omega)) ?_)
 refine wpS_bind (bU hC hq1.kind (hin _ (by simp)) hin (by omega) (by omega) fun k hk=>?_)
 dsimp only
 by_cases f1 : (na - k == 0) = true
 ·rw [if_pos f1]; exact wpS_pure (h _ (fin _ hq1))
 rw [if_neg f1]
 have g1 : ¬ (na - k = 0):=by simpa using f1
 refine wpS_bind (aP (getElem?_pos (arrOf st) (sa + k + (na - k) - 1) (by omega)) ?_)
 refine wpS_bind (bU hC hq1.kind (hin _ (by simp)) hin (by omega) (by omega) fun k2 hk2=>?_)
 dsimp only
 by_cases f2 : (k2 == 0) = true
 ·rw [if_pos f2]; exact wpS_pure (h _ (fin _ hq1))
 rw [if_neg f2]
 have g2 : ¬ (k2 = 0):=by simpa using f2
 have hx : ∀ x∈((arrOf st).extract (sa + k) sb).toList,x∈a₀.toList:=fun x hx=>hin x (by rw [dF] at hx; exact List.mem_of_mem_drop (List.mem_of_mem_take hx))
 have hy : ∀ x∈((arrOf st).extract sb (sb + k2)).toList,x∈a₀.toList:=fun x hx=>hin x (by rw [dF] at hx; exact List.mem_of_mem_drop (List.mem_of_mem_take hx))
 have sx : ((arrOf st).extract (sa + k) sb).size = sb - (sa + k):=by rw [Array.size_extract]; omega
 have sy : ((arrOf st).extract sb (sb + k2)).size = k2:=by rw [Array.size_extract]; omega
 have last : ∀ (out : Array Keyed) (st' : SortSt),out.Perm ((arrOf st).extract (sa + k) sb ++ (arrOf st).extract sb (sb + k2))→SM κ (arrOf st) pd' st'→wpS (model prog w) A E s (do
   modify fun s=>setArr s (out.toList.zipIdx.foldl (fun a (p,j)=>a.setIfInBounds (sa + k + j) p) (arrOf s))
   return (failedOf (← get)).isNone) Q st':=by
  intro out st' hp m
  refine wpS_bind (wpS_modify ?_)
  refine wpS_bind (wpS_get (wpS_pure ?_))
  have osz : out.toList.length = sb - (sa + k) + k2:=by
   rw [Array.length_toList,hp.size_eq,Array.size_append,sx,sy]
  have wl:=oO (sa:=sa + k) out.toList 0 (arrOf st') (by rw [m.arr,osz]; omega)
  have pm : (out.toList.zipIdx.foldl (fun a (p,j)=>a.setIfInBounds (sa + k + j) p) (arrOf st')).Perm (arrOf st):=by
   rw [Array.perm_iff_toList_perm]
   refine (List.Perm.of_eq wl).trans ?_
   rw [m.arr,osz,Nat.add_zero]
   have hp':=Array.perm_iff_toList_perm.mp hp
   rw [Array.toList_append,dF,dF] at hp'
   refine ((hp'.append_left _).append_right _).trans ?_
   have e1 : (arrOf st).toList.drop (sa + k) = ((arrOf st).toList.drop (sa + k)).take (sb - (sa + k)) ++ (arrOf st).toList.drop sb:=kT (by omega)
   have e2 : (arrOf st).toList.drop sb = ((arrOf st).toList.drop sb).take (sb + k2 - sb) ++ (arrOf st).toList.drop (sb + k2):=kT (by omega)
   have e3 : sa + k + (sb - (sa + k) + k2) = sb + k2:=by omega
   rw [e3]
   refine List.Perm.of_eq ?_
   conv=>rhs; rw [← List.take_append_drop (sa + k) (arrOf st).toList,e1,e2]
   simp only [List.append_assoc]
  have hf : (failedOf st').isNone = true:=by rw [m.failed]; rfl
  show Q (failedOf st').isNone _
  rw [hf]
  exact h _ ⟨pd',⟨pm.trans hq.perm,m.kind,m.failed,m.pend⟩,hr',hlo⟩
 by_cases f3 : na - k ≤ k2
 ·rw [if_pos f3]
  exact wpS_bind (uZ hC hq1 hx hy (by omega) (by omega) fun out st' hp m=>last out st' hp m)
 ·rw [if_neg f3]
  exact wpS_bind (vB hC hq1 hx hy (by omega) (by omega) fun out st' hp m=>last out st' hp m)
end
end PyProof.Rows
namespace PyProof.Rows
open PySem
section
variable {prog : Program} {w : World} {A : Around} {E : Value→Shared→Prop} {s : Shared} {κ : SortKind} {a₀ : Array Keyed}
theorem vD {c : Prop} [Decidable c] {x : Nat} : (if c then x - 1 else x) ≤ x:=by split <;> omega
theorem SR.pw {lo : Nat} {st : SortSt} (h : SR κ a₀ lo st) (i p : Nat) : SR κ a₀ lo (setPending st ((pendingOf st).modify i fun r=>(r.1,r.2.1,p))):=by
 obtain ⟨pd,hq,hr,hl⟩:=h
 refine ⟨_,⟨hq.perm,hq.kind,hq.failed,rfl⟩,?_,hl⟩
 show Runs ((pendingOf st).modify i fun r=>(r.1,r.2.1,p)).toList 0 lo
 rw [hq.pend,Array.toList_modify]
 exact hr.pw i p
theorem SR.push {lo n : Nat} {st : SortSt} (h : SR κ a₀ lo st) (h1 : 1 ≤ n) (hn : lo + n ≤ a₀.size) : SR κ a₀ (lo + n) (setPending st ((pendingOf st).push (lo,n,0))):=by
 obtain ⟨pd,hq,hr,hl⟩:=h
 refine ⟨_,⟨hq.perm,hq.kind,hq.failed,rfl⟩,?_,hn⟩
 show Runs ((pendingOf st).push (lo,n,0)).toList 0 (lo + n)
 rw [hq.pend,Array.toList_push]
 exact hr.push h1
theorem aAb {st : SortSt} {Q : Unit→SortSt→Prop} (hC : Cmp prog w A s κ a₀) (hp : (arrOf st).Perm a₀) (hk : kindOf st = κ) (hf : failedOf st = none) (hpd : pendingOf st = #[])
  (h : ∀ st',(arrOf st').Perm a₀→failedOf st' = none→Q () st') : wpS (model prog w) A E s sortRuns' Q st:=by
 have h0 : SR κ a₀ 0 st:=⟨#[],⟨hp,hk,hf,hpd⟩,rfl,Nat.zero_le _⟩
 have hsz : (arrOf st).size = a₀.size:=hp.size_eq
 rw [sortRuns'_eq]
 refine wpS_bind (wpS_get ?_)
 dsimp only
 rw [hsz]
 refine wpS_bind (wpS_mono (wpS_forRange (I:=fun _ c st'=>∃ lo,c = (none,lo)∧SR κ a₀ lo st') (Q:=fun c st'=>∃ lo,c = (none,lo)∧SR κ a₀ lo st') ?_ (fun c st' hh=>hh) ⟨0,rfl,h0⟩) ?_)
 ·rintro i c st1 _ _ ⟨lo,rfl,hR⟩
  dsimp only
  by_cases e1 : lo ≥ a₀.size
  ·rw [if_pos e1]; exact wpS_pure ⟨lo,rfl,hR⟩
  rw [if_neg e1]
  have hlo : lo < a₀.size:=by omega
  obtain ⟨pd,hq,hr,hl⟩:=hR
  refine wpS_bind (aAa hC (by omega) (by omega) hq fun n st2 hq2 n1 n2=>?_)
  dsimp only
  by_cases hm : n < minRun' a₀.size a₀.size 0
  ·rw [if_pos hm]
   refine wpS_bind (wpS_lift (wpAny_rule ⟨rfl,?_⟩))
   refine wpS_bind (aB5 hC (by omega) hq2 fun st3 hq3=>?_)
   simp only [Bool.not_true,Bool.false_eq_true,if_false]
   have hR3 : SR κ a₀ lo st3:=⟨pd,hq3,hr,hl⟩
   refine wpS_bind (wpS_get ?_)
   cases hb : (pendingOf st3).back? with
   | none =>
    dsimp only
    exact wpS_bind (wpS_modify (wpS_pure ⟨_,rfl,hR3.push (by omega) (by omega)⟩))
   | some r =>
    obtain ⟨s1,n1',pw1⟩:=r
    dsimp only
    refine wpS_bind (wpS_mono (wpS_forRange (I:=fun _ c st'=>c = (none,())∧SR κ a₀ lo st') (Q:=fun c st'=>c = (none,())∧SR κ a₀ lo st') ?_ (fun c st' hh=>hh) ⟨rfl,hR3⟩) ?_)
    ·rintro x c st4 _ _ ⟨rfl,hR4⟩
     refine wpS_bind (wpS_get ?_)
     by_cases hs : (pendingOf st4).size > 1
     ·rw [if_pos hs,getElem?_pos (pendingOf st4) ((pendingOf st4).size - 2) (by omega)]
      generalize (pendingOf st4)[(pendingOf st4).size - 2] = r4
      obtain ⟨_,_,older⟩:=r4
      dsimp only
      split
      ·exact wpS_pure ⟨rfl,hR4⟩
      ·refine wpS_bind (kB hC hR4 (by omega) fun st5 hR5=>?_)
       simp only [Bool.not_true,Bool.false_eq_true,if_false]
       exact wpS_pure ⟨rfl,hR5⟩
     ·rw [if_neg hs]; exact wpS_pure ⟨rfl,hR4⟩
    ·rintro c st4 ⟨rfl,hR4⟩
     dsimp only
     exact wpS_bind (wpS_modify (wpS_bind (wpS_modify (wpS_pure ⟨_,rfl,(hR4.pw _ _).push (by omega) (by omega)⟩))))
  ·rw [if_neg hm]
   have hR3 : SR κ a₀ lo st2:=⟨pd,hq2,hr,hl⟩
   refine wpS_bind (wpS_get ?_)
   cases hb : (pendingOf st2).back? with
   | none =>
    dsimp only
    exact wpS_bind (wpS_modify (wpS_pure ⟨_,rfl,hR3.push (by omega) (by omega)⟩))
   | some r =>
    obtain ⟨s1,n1',pw1⟩:=r
    dsimp only
    refine wpS_bind (wpS_mono (wpS_forRange (I:=fun _ c st'=>c = (none,())∧SR κ a₀ lo st') (Q:=fun c st'=>c = (none,())∧SR κ a₀ lo st') ?_ (fun c st' hh=>hh) ⟨rfl,hR3⟩) ?_)
    ·rintro x c st4 _ _ ⟨rfl,hR4⟩
     refine wpS_bind (wpS_get ?_)
     by_cases hs : (pendingOf st4).size > 1
     ·rw [if_pos hs,getElem?_pos (pendingOf st4) ((pendingOf st4).size - 2) (by omega)]
      generalize (pendingOf st4)[(pendingOf st4).size - 2] = r4
      obtain ⟨_,_,older⟩:=r4
      dsimp only
      split
      ·exact wpS_pure ⟨rfl,hR4⟩
      ·refine wpS_bind (kB hC hR4 (by omega) fun st5 hR5=>?_)
       simp only [Bool.not_true,Bool.false_eq_true,if_false]
       exact wpS_pure ⟨rfl,hR5⟩
     ·rw [if_neg hs]; exact wpS_pure ⟨rfl,hR4⟩
    ·rintro c st4 ⟨rfl,hR4⟩
     dsimp only
     exact wpS_bind (wpS_modify (wpS_bind (wpS_modify (wpS_pure ⟨_,rfl,(hR4.pw _ _).push (by omega) (by omega)⟩))))
 ·rintro c st1 ⟨lo,rfl,hR⟩
  dsimp only
  refine wpS_bind (wpS_mono (wpS_forRange (I:=fun _ c st'=>c = (none,())∧SR κ a₀ lo st') (Q:=fun c st'=>c = (none,())∧SR κ a₀ lo st') ?_ (fun c st' hh=>hh) ⟨rfl,hR⟩) ?_)
  ·rintro x c st4 _ _ ⟨rfl,hR4⟩
   refine wpS_bind (wpS_get ?_)
   by_cases hs : (pendingOf st4).size ≤ 1
   ·rw [if_pos hs]; exact wpS_pure ⟨rfl,hR4⟩
   rw [if_neg hs]
   refine wpS_bind (kB hC hR4 ?_ fun st5 hR5=>?_)
   ·exact Nat.lt_of_le_of_lt (Nat.succ_le_succ vD) (show (pendingOf st4).size - 2 + 1 < (pendingOf st4).size by omega)
   ·simp only [Bool.not_true,Bool.false_eq_true,if_false]
    exact wpS_pure ⟨rfl,hR5⟩
  ·rintro c st4 ⟨rfl,pd,hq,_⟩
   exact wpS_pure (h _ hq.perm hq.failed)
end
end PyProof.Rows
namespace L2
open PySem PySem.Spec PyProof.Rows PySem.W
def gJ (h : Heap) (vs : List Value) : Prop:=∀ v∈vs,∃ a o n x t y u,v = Value.ref a∧h.get? a = some o∧o.cls = .type "tuple" ∧ o.data = .seq #[.int x t,.int y u] n
theorem gJ.tups {h : Heap} : ∀ {vs : List Value},gJ h vs→∃ fs,KatTups h vs fs∧fs.length = vs.length∧∀ v∈fs,∃ n t,v = Value.int n t
 | [],_=>⟨[],trivial,rfl,fun v hv=>nomatch hv⟩
 | v :: vs,hp=>by
  obtain ⟨fs,k1,k2,k3⟩:=gJ.tups (vs:=vs) fun b hb=>hp b (List.mem_cons_of_mem _ hb)
  obtain ⟨a,o,n,x,t,y,u,rfl,e,c,d⟩:=hp v List.mem_cons_self
  refine ⟨.int x t :: fs,KatTups.cons e c d rfl k1,by simp [k2],fun v hv=>?_⟩
  rcases List.mem_cons.mp hv with z | z
  ·exact ⟨x,t,z⟩
  ·exact k3 v z
section
variable {prog : Program} {w : World} {A : Around} {E : Value→Shared→Prop} {s : Shared}
theorem aAc {vs : List Value} (hp : gJ s.heap vs) : Cmp prog w A s (tuples' true) (vs.toArray.zip vs.toArray):=by
 have mem : ∀ x∈(vs.toArray.zip vs.toArray).toList,x.1∈vs:=by
  intro x hx
  rw [Array.toList_zip] at hx
  exact (List.of_mem_zip hx).1
 intro x y hx hy Q E' q
 obtain ⟨a,o,n,x1,t1,x2,t2,e1,eo,_,ed⟩:=hp x.1 (mem x hx)
 obtain ⟨b,o',n',y1,u1,y2,u2,e2,eo',_,ed'⟩:=hp y.1 (mem y hy)
 rw [e1,e2]
 refine kat_lt eo ed eo' ed' (kat_cons (wpAny_eqBool_int ?_))
 by_cases h1 : x1 = y1
 ·rw [beq_iff_eq.mpr h1]
  refine kat_yes (kat_cons (wpAny_eqBool_int ?_))
  by_cases h2 : x2 = y2
  ·rw [beq_iff_eq.mpr h2]
   exact kat_yes (kat_nil (q _))
  ·rw [beq_eq_false_iff_ne.mpr h2]
   exact kat_no (kat_one _ _ (lt_int (q _)))
 ·rw [beq_eq_false_iff_ne.mpr h1]
  exact kat_no (oneLt_int (q _))
theorem aB7 {vs : List Value} : ((vs.toArray.zip vs.toArray).map (·.2)).toList = vs:=by
 rw [Array.toList_map,Array.toList_zip]
 show (vs.zip vs).map (·.2) = vs
 rw [← List.unzip_snd,List.unzip_zip_right (Nat.le_refl _)]
theorem oP {a : Addr} {vs : List Value} {n : Nat} {P : PySem.Fin→Shared→Prop} (ho : s.heap.get? a = some (seqObj "list" vs.toArray n)) (hp : gJ s.heap vs) (hz : vs.length ≤ 4096)
  (h : ∀ (out : Array Value),out.toList.Perm vs→P (.done (.ret .none)) { s with heap:=sortedHeap s.heap a vs out }) :
  wpAny (model prog w) A (Builtin.«list.sort» ⟨[.ref a],[]⟩) P E s:=by
 rw [list_sort_plain]
 have ha : a < s.heap.objs.size:=Heap.lt_size ho
 have hsl : vs.toArray.size ≤ sizeLine:=by rw [List.size_toArray,sizeLine_eq]; omega
 refine wpAny_bind (listItems_at ho rfl ?_)
 refine wpAny_bind (listUpdate_at ho rfl ?_ hsl (Nat.zero_le _))
 obtain ⟨e1,ho1⟩ : ∃ e1,(s.heap.update a (Obj.mapSeq fun _=>#[])).get? a = some (seqObj "list" #[] e1):=⟨_,get?_update_seq ho (fun _=>#[])⟩
 refine wpAny_bind (seqEpoch_at ho1 rfl ?_)
 refine wpAny_bind (wpAny_newTuple ?_ (by show vs.length ≤ _; rw [sizeLine_eq]; omega))
 refine wpAny_bind (wpAny_newList ?_ (Nat.zero_le _))
 refine wpAny_holding ?_
 have ho6 : (((s.heap.update a (Obj.mapSeq fun _=>#[])).push (seqObj "tuple" vs.toArray 0)).push (seqObj "list" #[] 0)).get? a = some (seqObj "list" #[] e1):=by
  rw [Heap.get?_push_ne _ _ _ (by rw [size_push',Heap.size_update]; exact Nat.ne_of_lt (Nat.lt_succ_of_lt ha)),Heap.get?_push_ne _ _ _ (by rw [Heap.size_update]; exact Nat.ne_of_lt ha)]
  exact ho1
 have hp6 : gJ (((s.heap.update a (Obj.mapSeq fun _=>#[])).push (seqObj "tuple" vs.toArray 0)).push (seqObj "list" #[] 0)) vs:=by
  intro v hv
  obtain ⟨b,o,n,x,t,y,u,ev,e,c,d⟩:=hp v hv
  have hb : b < s.heap.objs.size:=Heap.lt_size e
  have hne : b ≠ a:=by
   rintro rfl
   rw [ho] at e; cases e
   exact absurd (Value.type.inj c) (by decide)
  refine ⟨b,o,n,x,t,y,u,ev,?_,c,d⟩
  rw [Heap.get?_push_ne _ _ _ (by rw [size_push',Heap.size_update]; exact Nat.ne_of_lt (Nat.lt_succ_of_lt hb)),Heap.get?_push_ne _ _ _ (by rw [Heap.size_update]; exact Nat.ne_of_lt hb),Heap.get?_update_ne _ _ _ _ hne]
  exact e
 show wpAny (model prog w) A _ P E { s with heap:=((s.heap.update a (Obj.mapSeq fun _=>#[])).push (seqObj "tuple" vs.toArray 0)).push (seqObj "list" #[] 0) }
 dsimp only
 have fin : ∀ st' : SortSt,(arrOf st').Perm (vs.toArray.zip vs.toArray)→P (.done (.ret .none)) { s with heap:=sortedHeap s.heap a vs ((arrOf st').map (·.2)) }:=by
  intro st' hpm
  refine h _ ?_
  have:=(Array.perm_iff_toList_perm.mp hpm).map (·.2)
  rw [← Array.toList_map,← Array.toList_map,aB7] at this
  exact this
 have zsz : (vs.toArray.zip vs.toArray).size = vs.length:=by simp
 by_cases h2 : vs.toArray.size < 2
 ·rw [if_pos h2,if_pos h2]
  refine wpAny_bind (wpAny_pure ?_)
  rw [StateT.run_pure]
  refine wpAny_bind (wpAny_pure ?_)
  dsimp only
  refine wpAny_bind (seqEpoch_at ho6 rfl ?_)
  refine wpAny_bind (listUpdate_at ho6 rfl ?_ (Nat.zero_le _) (by show ((vs.toArray.zip vs.toArray).map (·.2)).size ≤ _; rw [Array.size_map,zsz,sizeLine_eq]; omega))
  simp only [bne_self_eq_false,Bool.false_eq_true,if_false]
  exact wpAny_pure (fin (SortSt.mk' general' (vs.toArray.zip vs.toArray) #[] 7 none) (Array.Perm.refl _))
 ·rw [if_neg h2,if_neg h2]
  have hlen : 2 ≤ vs.length:=by rw [List.size_toArray] at h2; omega
  obtain ⟨fs,k1,k2,k3⟩:=hp6.tups
  refine wpAny_bind (kat_kind (T:=.type "int") k1 (by omega) (fun v hv=>?_) rfl ?_)
  ·obtain ⟨m,t,rfl⟩:=k3 v hv
   exact .now
  refine wpAny_bind (wpAny_mono (aAb (a₀:=vs.toArray.zip vs.toArray) (κ:=tuples' true) (st:=SortSt.mk' (tuples' true) (vs.toArray.zip vs.toArray) #[] 7 none)
   (Q:=fun _ st'=>(arrOf st').Perm (vs.toArray.zip vs.toArray)∧failedOf st' = none) (aAc hp6) (Array.Perm.refl _) rfl rfl rfl fun st' b1 b2=>⟨b1,b2⟩) ?_ fun _ _ e=>e)
  rintro ⟨⟨⟩,st'⟩ s' ⟨rfl,hpm,hf⟩
  dsimp only
  refine wpAny_bind (seqEpoch_at ho6 rfl ?_)
  refine wpAny_bind (listUpdate_at ho6 rfl ?_ (Nat.zero_le _) (by refine Nat.le_trans (Nat.le_of_eq ((Array.size_map ..).trans (hpm.size_eq.trans zsz))) ?_; rw [sizeLine_eq]; omega))
  rw [hf]
  simp only [bne_self_eq_false,Bool.false_eq_true,if_false]
  exact wpAny_pure (fin st' hpm)
theorem tG {l : Addr} {vs : List Value} {Q : Value→Shared→Prop} (hl : s.heap.IsList l vs.toArray) (hp : gJ s.heap vs) (hz : vs.length ≤ 4096)
  (h : ∀ (out : Array Value),out.toList.Perm vs→Q (.ref (s.heap.objs.size + 1)) { s with heap:=sortedAll s.heap vs out }) :
  wpAny (model prog w) A (call (.builtin "sorted") [.ref l]) Q E s:=by
 have hsl : vs.length ≤ sizeLine:=by rw [sizeLine_eq]; omega
 refine Calls.call_function_entry kind_sorted plain_sorted entry_sorted (args_sorted1 _) ?_
 unfold Builtin.«sorted»
 refine wpAny_bind (m:=checkCount "sorted" 1 1 _) (wpAny_pure ?_)
 refine wpAny_bind (collect_list hl ?_ hsl)
 refine wpAny_bind (wpAny_newList ?_ hsl)
 have hsz : ((s.heap.push (seqObj "list" #[] 0)).update s.heap.objs.size (Obj.mapSeq (· ++ vs.toArray))).objs.size = s.heap.objs.size + 1:=by
  rw [Heap.size_update,size_push']
 have hoL : (((s.heap.push (seqObj "list" #[] 0)).update s.heap.objs.size (Obj.mapSeq (· ++ vs.toArray))).push (seqObj "list" vs.toArray 0)).get? (s.heap.objs.size + 1) = some (seqObj "list" vs.toArray 0):=by
  rw [← hsz]; exact Heap.get?_push_size _ rfl
 have hp2 : gJ (((s.heap.push (seqObj "list" #[] 0)).update s.heap.objs.size (Obj.mapSeq (· ++ vs.toArray))).push (seqObj "list" vs.toArray 0)) vs:=by
  intro v hv
  obtain ⟨b,o,n,x,t,y,u,ev,e,c,d⟩:=hp v hv
  have hb : b < s.heap.objs.size:=Heap.lt_size e
  refine ⟨b,o,n,x,t,y,u,ev,?_,c,d⟩
  rw [Heap.get?_push_ne _ _ _ (by rw [hsz]; exact Nat.ne_of_lt (Nat.lt_succ_of_lt hb)),Heap.get?_update_ne _ _ _ _ (Nat.ne_of_lt hb),Heap.get?_push_ne _ _ _ (Nat.ne_of_lt hb)]
  exact e
 show wpAny _ _ _ _ _ { s with heap:=((s.heap.push (seqObj "list" #[] 0)).update s.heap.objs.size (Obj.mapSeq (· ++ vs.toArray))).push (seqObj "list" vs.toArray 0) }
 rw [hsz]
 refine wpAny_bind (wpAny_holding (wpAny_call_entry slot_list_sort ⟨_,hoL,rfl⟩ entry_list_sort (oP hoL hp2 hz fun out a1=>⟨_,rfl,?_⟩) (args_list_sort _)))
 exact wpAny_pure ⟨_,rfl,h out a1⟩
end
theorem tH : ∀ {as : List Addr} {its : List Value},Vals (as.map V.ref) its→its = as.map Value.ref
 | [],_,r=>by cases r; rfl
 | a :: as,_,r=>by
  cases r with
  | cons r rr =>
   obtain rfl:=(show _ = Value.ref a from r)
   rw [tH rr]; rfl
theorem rF : ∀ {as : List Addr},Vals (as.map V.ref) (as.map Value.ref)
 | []=>.nil
 | _ :: _=>.cons rfl rF
theorem aAd {as : List Addr} {vs : List Value} (h : vs.Perm (as.map Value.ref)) : ∃ as' : List Addr,vs = as'.map Value.ref∧as'.Perm as:=by
 let un : Value→Addr:=fun v=>match v with | .ref a=>a | _=>0
 refine ⟨vs.map un,?_,?_⟩
 ·rw [List.map_map]
  have : ∀ v∈vs,(Value.ref ∘ un) v = v:=by
   intro v hv
   obtain ⟨a,_,rfl⟩:=List.mem_map.mp (h.mem_iff.mp hv)
   rfl
  conv=>lhs; rw [← List.map_id vs]
  exact List.map_congr_left fun v hv=>(this v hv).symm
 ·have:=h.map un
  rw [List.map_map] at this
  have e : as.map (un ∘ Value.ref) = as:=by
   conv=>rhs; rw [← List.map_id as]
   exact List.map_congr_left fun a _=>rfl
  rw [e] at this
  exact this
def aAe (K : PySem.W.Frag) : List V→Hp→VK→Prop:=fun xs H Q=>∃ (l : Addr) (as : List Addr),xs = [.ref l]∧SqL K H l (as.map V.ref)∧(∀ a∈as,∃ x y : Int,SqT K H a [.int x,.int y])∧as.length ≤ 4096 ∧
 ∀ (D : Addr) (as' : List Addr),H D = none→as'.Perm as→Q (.ref D) (upd H D (.lst (as'.map V.ref)))
theorem xG {X : Cx} : cY X (.builtin "sorted") (aAe X.K):=by
 intro pins s σ H xs us Q I r h
 obtain ⟨l,as,rfl,hl,hp,hz,q⟩:=h
 obtain ⟨u1,rfl,r1⟩:=r.one
 obtain rfl : u1 = Value.ref l:=r1
 obtain ⟨its,rv,pl,_⟩:=I.list hl
 have hits:=tH rv
 subst hits
 have hpv : gJ s.heap (as.map Value.ref):=by
  intro v hv
  obtain ⟨a,ha,rfl⟩:=List.mem_map.mp hv
  obtain ⟨x,y,hxy⟩:=hp a ha
  obtain ⟨its,r,⟨o,e,c,n,d⟩,_⟩:=I.tuple hxy
  obtain ⟨u1,u2,rfl,r1,r2⟩:=r.two
  obtain ⟨t,rfl⟩:=r1
  obtain ⟨t',rfl⟩:=r2
  exact ⟨a,o,n,x,t,y,t',rfl,e,c,d⟩
 refine tG pl.isList hpv (by rw [List.length_map]; exact hz) fun out hperm=>?_
 obtain ⟨as',eo,pa⟩:=aAd hperm
 have hout : out = (as'.map Value.ref).toArray:=by rw [← eo]
 subst hout
 have sz1 : ((s.heap.push (seqObj "list" #[] 0)).update s.heap.objs.size (Obj.mapSeq (· ++ (as.map Value.ref).toArray))).objs.size = s.heap.objs.size + 1:=by rw [Heap.size_update,size_push']
 have k1 : ∀ b u,s.heap.get? b = some u→(((s.heap.push (seqObj "list" #[] 0)).update s.heap.objs.size (Obj.mapSeq (· ++ (as.map Value.ref).toArray))).push (seqObj "list" (as.map Value.ref).toArray 0)).get? b = some u:=fun b u e=>by
  have hb : b < s.heap.objs.size:=Heap.lt_size e
  rw [Heap.get?_push_ne _ _ _ (by rw [sz1]; exact Nat.ne_of_lt (Nat.lt_succ_of_lt hb)),Heap.get?_update_ne _ _ _ _ (Nat.ne_of_lt hb),Heap.get?_push_ne _ _ _ (Nat.ne_of_lt hb)]
  exact e
 have hoL : (((s.heap.push (seqObj "list" #[] 0)).update s.heap.objs.size (Obj.mapSeq (· ++ (as.map Value.ref).toArray))).push (seqObj "list" (as.map Value.ref).toArray 0)).get? (s.heap.objs.size + 1) = some (seqObj "list" (as.map Value.ref).toArray 0):=by
  rw [← sz1]; exact Heap.get?_push_size _ rfl
 have sz2 : (((s.heap.push (seqObj "list" #[] 0)).update s.heap.objs.size (Obj.mapSeq (· ++ (as.map Value.ref).toArray))).push (seqObj "list" (as.map Value.ref).toArray 0)).objs.size = s.heap.objs.size + 2:=by rw [size_push',sz1]
 show EP X pins σ Q (.ref (s.heap.objs.size + 1)) { s with heap:=sortedHeap (((s.heap.push (seqObj "list" #[] 0)).update s.heap.objs.size (Obj.mapSeq (· ++ (as.map Value.ref).toArray))).push (seqObj "list" (as.map Value.ref).toArray 0)) (s.heap.objs.size + 1) (as.map Value.ref) (as'.map Value.ref).toArray }
 revert k1 hoL sz2
 generalize ((s.heap.push (seqObj "list" #[] 0)).update s.heap.objs.size (Obj.mapSeq (· ++ (as.map Value.ref).toArray))).push (seqObj "list" (as.map Value.ref).toArray 0) = h1
 intro k1 hoL sz2
 obtain ⟨e1,ho1⟩ : ∃ e1,(h1.update (s.heap.objs.size + 1) (Obj.mapSeq fun _=>(#[] : Array Value))).get? (s.heap.objs.size + 1) = some (seqObj "list" #[] e1):=⟨_,get?_update_seq hoL (fun _=>#[])⟩
 have ho6 : (((h1.update (s.heap.objs.size + 1) (Obj.mapSeq fun _=>(#[] : Array Value))).push (seqObj "tuple" (as.map Value.ref).toArray 0)).push (seqObj "list" #[] 0)).get? (s.heap.objs.size + 1) = some (seqObj "list" #[] e1):=by
  rw [Heap.get?_push_ne _ _ _ (by rw [size_push',Heap.size_update,sz2]; exact Nat.ne_of_lt (Nat.lt_succ_of_lt (Nat.lt_succ_self _))),Heap.get?_push_ne _ _ _ (by rw [Heap.size_update,sz2]; exact Nat.ne_of_lt (Nat.lt_succ_self _))]
  exact ho1
 obtain ⟨e2,ho7⟩ : ∃ e2,(sortedHeap h1 (s.heap.objs.size + 1) (as.map Value.ref) (as'.map Value.ref).toArray).get? (s.heap.objs.size + 1) = some (seqObj "list" (as'.map Value.ref).toArray e2):=⟨_,get?_update_seq ho6 (fun _=>(as'.map Value.ref).toArray)⟩
 have keep : ∀ b u,s.heap.get? b = some u→(sortedHeap h1 (s.heap.objs.size + 1) (as.map Value.ref) (as'.map Value.ref).toArray).get? b = some u:=fun b u e=>by
  have hb : b < s.heap.objs.size:=Heap.lt_size e
  unfold sortedHeap
  rw [Heap.get?_update_ne _ _ _ _ (Nat.ne_of_lt (Nat.lt_succ_of_lt hb)),Heap.get?_push_ne _ _ _ (by rw [size_push',Heap.size_update,sz2]; exact Nat.ne_of_lt (Nat.lt_succ_of_lt (Nat.lt_succ_of_lt (Nat.lt_succ_of_lt hb)))),Heap.get?_push_ne _ _ _ (by rw [Heap.size_update,sz2]; exact Nat.ne_of_lt (Nat.lt_succ_of_lt (Nat.lt_succ_of_lt hb))),Heap.get?_update_ne _ _ _ _ (Nat.ne_of_lt (Nat.lt_succ_of_lt hb))]
  exact k1 b u e
 have hnone : s.heap.get? (s.heap.objs.size + 1) = none:=Heap.get?_none_of_le (by omega)
 refine ⟨.ref (s.heap.objs.size + 1),_,I.laidN (t':=s.toks) (o:=.lst (as'.map V.ref)) keep hnone ⟨?_,as'.map Value.ref,e2,rF,ho7⟩,rfl,q _ as' (I.hok.freshN hnone) pa⟩
 rw [List.length_map,pa.length_eq]
 exact Nat.le_trans hz (by decide)
end L2
namespace L2
open PySem PySem.Spec PyProof.Rows
section
variable {prog : Program} {w : World} {A : Around} {E : Value→Shared→Prop} {s : Shared}
end
end L2
namespace L2
open PySem PySem.Spec PyProof.Rows
section
variable {prog : Program} {w : World} {A : Around} {E : Value→Shared→Prop} {s : Shared}
end
section
variable {X : Cx}
end
end L2
namespace L2
open PySem PySem.Spec PyProof.Rows
section
variable {X : Cx}
end
end L2
namespace L2
open PySem PySem.Spec PyProof.Rows PySem.W
end L2
namespace NetM
abbrev Ts:=List (Int × Int)
def T (ts : Ts) (a b : Nat) : Prop:=(((a : Nat) : Int),((b : Nat) : Int))∈ts
instance (ts : Ts) (a b : Nat) : Decidable (T ts a b):=inferInstanceAs (Decidable (_∈_))
def Walk (ts : Ts) : Nat→Nat→Nat→Prop
 | 0,a,b=>a = b
 | k + 1,a,b=>∃ c,Walk ts k a c∧T ts c b
theorem Walk.trans {ts : Ts} {k : Nat} {a b : Nat} (h : Walk ts k a b) : ∀ {l : Nat} {c : Nat},Walk ts l b c→Walk ts (k + l) a c
 | 0,_,e=>by cases e; exact h
 | l + 1,_,⟨d,w,t⟩=>⟨d,h.trans w,t⟩
theorem Walk.one {ts : Ts} {a b : Nat} (h : T ts a b) : Walk ts 1 a b:=⟨a,rfl,h⟩
theorem Walk.cons {ts : Ts} {k a b c : Nat} (h : T ts a b) (w : Walk ts k b c) : Walk ts (k + 1) a c:=by
 have:=(Walk.one h).trans w
 rwa [Nat.add_comm] at this
def iK (ts : Ts) (a b d : Nat) : Prop:=Walk ts d a b∧∀ k,Walk ts k a b→d ≤ k
theorem iK.uniq {ts : Ts} {a b d e : Nat} (h : iK ts a b d) (g : iK ts a b e) : d = e:=Nat.le_antisymm (h.2 _ g.1) (g.2 _ h.1)
theorem aDb {ts : Ts} {a b : Nat} : ∀ k,Walk ts k a b→∃ d,iK ts a b d:=by
 intro k
 induction k using Nat.strongRecOn with
 | ind k ih =>
  intro w
  by_cases h : ∃ j,j < k∧Walk ts j a b
  ·obtain ⟨j,hj,wj⟩:=h
   exact ih j hj wj
  ·exact ⟨k,w,fun j wj=>Classical.byContradiction fun z=>h ⟨j,by omega,wj⟩⟩
open Classical in
noncomputable def far (ts : Ts) (a b : Nat) : Nat:=if h : ∃ d,iK ts a b d then h.choose else 0
theorem tI {ts : Ts} {a b d : Nat} (h : iK ts a b d) : far ts a b = d:=by
 unfold far
 have hx : ∃ d,iK ts a b d:=⟨d,h⟩
 rw [dif_pos hx]
 exact hx.choose_spec.uniq h
theorem aDc {ts : Ts} {a b k : Nat} (w : Walk ts k a b) : iK ts a b (far ts a b):=by
 obtain ⟨d,h⟩:=aDb k w
 rw [tI h]; exact h
structure Fine (n : Nat) (ts : Ts) : Prop where
 n1 : 2 ≤ n
 n2 : n ≤ 32
 nd : ts.Nodup
 rg : ∀ t∈ts,(0 ≤ t.1∧t.1 < n)∧(0 ≤ t.2∧t.2 < n)
 ne : ∀ t∈ts,t.1 ≠ t.2
 bal : ∀ h : Int,(ts.filter fun t=>decide (t.1 = h)).length = (ts.filter fun t=>decide (t.2 = h)).length
 most : ∀ h : Int,(ts.filter fun t=>decide (t.1 = h)).length ≤ 8
 con : ∀ a b,a < n→b < n→∃ k,Walk ts k a b
theorem aAf {α : Type} (f : α→Int) : ∀ (l : List α) (n : Nat),(∀ x∈l,0 ≤ f x∧f x < n)→(∀ h : Int,(l.filter fun t=>decide (f t = h)).length ≤ 8)→l.length ≤ 8 * n:=by
 intro l n
 induction n generalizing l with
 | zero =>
  intro h _
  cases l with
  | nil=>simp
  | cons x xs=>have:=h x List.mem_cons_self; omega
 | succ n ih =>
  intro h h8
  have e : l.length = (l.filter fun t=>decide (f t = (n : Int))).length + (l.filter fun t=>!decide (f t = (n : Int))).length:=by
   induction l with
   | nil=>rfl
   | cons x xs ih2 =>
    have:=ih2 (fun y hy=>h y (List.mem_cons_of_mem _ hy)) (fun hh=>Nat.le_trans (by rw [List.filter_cons]; split <;> simp) (h8 hh))
    by_cases q : f x = (n : Int) <;> simp [List.filter_cons,q] <;> omega
  have i2:=ih (l.filter fun t=>!decide (f t = (n : Int))) (fun x hx=>by
   have a:=h x (List.mem_filter.mp hx |>.1)
   have b:=(List.mem_filter.mp hx).2
   simp at b
   omega) (fun hh=>by
   refine Nat.le_trans ?_ (h8 hh)
   exact (List.filter_sublist.filter _).length_le)
  have:=h8 (n : Int)
  omega
theorem Fine.len {n : Nat} {ts : Ts} (F : Fine n ts) : ts.length ≤ 256:=by
 have:=aAf (·.1) ts n (fun t ht=>(F.rg t ht).1) F.most
 have:=F.n2
 omega
theorem Fine.tlt {n : Nat} {ts : Ts} (F : Fine n ts) {a b : Nat} (h : T ts a b) : a < n∧b < n∧a ≠ b:=by
 have q:=F.rg _ h
 have q2:=F.ne _ h
 refine ⟨by have:=q.1; simp at this; omega,by have:=q.2; simp at this; omega,fun e=>q2 (by rw [e])⟩
theorem Fine.fars {n : Nat} {ts : Ts} (F : Fine n ts) {a b : Nat} (ha : a < n) (hb : b < n) : iK ts a b (far ts a b) :=
 let ⟨_,w⟩:=F.con a b ha hb; aDc w
def outN (n : Nat) (ts : Ts) (h : Nat) : List Nat:=((List.range n).map fun s=>(h + s) % n).filter fun o=>decide (T ts h o)
theorem jG {n : Nat} {ts : Ts} (F : Fine n ts) {h o : Nat} (hh : h < n) : o∈outN n ts h↔T ts h o:=by
 unfold outN
 rw [List.mem_filter,decide_eq_true_eq]
 refine ⟨fun z=>z.2,fun z=>⟨?_,z⟩⟩
 obtain ⟨_,h2,_⟩:=F.tlt z
 refine List.mem_map.mpr ⟨if h ≤ o then o - h else o + n - h,List.mem_range.mpr (by split <;> omega),?_⟩
 split
 ·rw [show h + (o - h) = o by omega,Nat.mod_eq_of_lt h2]
 ·rw [show h + (o + n - h) = o + n by omega,Nat.add_mod_right,Nat.mod_eq_of_lt h2]
theorem aB8 {n : Nat} {ts : Ts} (F : Fine n ts) {h o : Nat} (hh : h < n) (ho : o∈outN n ts h) : o < n:=(F.tlt ((jG F hh).mp ho)).2.1
def key (n h o : Nat) : Int:=((o : Int) - (h : Int)) % (n : Int)
theorem iD {n h s : Nat} (hh : h < n) (hs : s < n) : key n h ((h + s) % n) = (s : Int):=by
 unfold key
 by_cases c : h + s < n
 ·rw [Nat.mod_eq_of_lt c,show (((h + s : Nat) : Int) - (h : Int)) = (s : Int) by omega]
  exact Int.emod_eq_of_lt (by omega) (by omega)
 ·have e : (h + s) % n = h + s - n:=by
   rw [Nat.mod_eq_sub_mod (by omega),Nat.mod_eq_of_lt (by omega)]
  rw [e,show ((((h + s - n : Nat)) : Int) - (h : Int)) = (s : Int) - (n : Int) by omega,Int.sub_emod_right]
  exact Int.emod_eq_of_lt (by omega) (by omega)
theorem vE {n : Nat} {ts : Ts} {h : Nat} (hh : h < n) : (outN n ts h).Pairwise fun a b=>key n h a < key n h b:=by
 unfold outN
 refine List.Pairwise.filter _ ?_
 refine List.pairwise_map.mpr ?_
 refine List.Pairwise.imp_of_mem ?_ (List.pairwise_lt_range (n:=n))
 intro a b ha hb hab
 rw [iD hh (List.mem_range.mp ha),iD hh (List.mem_range.mp hb)]
 omega
theorem mX {α : Type} {k : α→Int} : ∀ {a b : List α},a.Pairwise (fun x y=>k x < k y)→b.Pairwise (fun x y=>k x < k y)→(∀ x,x∈a↔x∈b)→a = b
 | [],[],_,_,_=>rfl
 | [],y :: ys,_,_,h=>absurd ((h y).mpr List.mem_cons_self) (by simp)
 | x :: xs,[],_,_,h=>absurd ((h x).mp List.mem_cons_self) (by simp)
 | x :: xs,y :: ys,ha,hb,h=>by
  obtain ⟨a1,a2⟩:=List.pairwise_cons.mp ha
  obtain ⟨b1,b2⟩:=List.pairwise_cons.mp hb
  have e : x = y:=by
   rcases List.mem_cons.mp ((h x).mp List.mem_cons_self) with z | z
   ·exact z
   ·rcases List.mem_cons.mp ((h y).mpr List.mem_cons_self) with z' | z'
    ·exact z'.symm
    ·have q1:=b1 x z
     have q2:=a1 y z'
     omega
  subst e
  refine congrArg (x :: ·) (mX a2 b2 fun z=>⟨fun hz=>?_,fun hz=>?_⟩)
  ·rcases List.mem_cons.mp ((h z).mp (List.mem_cons_of_mem _ hz)) with q | q
   ·subst q; exact absurd (a1 _ hz) (by omega)
   ·exact q
  ·rcases List.mem_cons.mp ((h z).mpr (List.mem_cons_of_mem _ hz)) with q | q
   ·subst q; exact absurd (b1 _ hz) (by omega)
   ·exact q
structure Bfs (n : Nat) (ts : Ts) (s i : Nat) (R : List Nat) (f : Nat→Nat) : Prop where
 nd : R.Nodup
 lt : ∀ x∈R,x < n
 st : s∈R
 z : f s = 0
 wk : ∀ x∈R,Walk ts (f x) s x
 up : R.Pairwise fun a b=>f a ≤ f b
 bd : ∀ u,R[i]? = some u→∀ x∈R,f x ≤ f u + 1
 cl : ∀ j u,j < i→R[j]? = some u→∀ v,T ts u v→v∈R∧f v ≤ f u + 1
theorem Bfs.start {n : Nat} {ts : Ts} {s : Nat} (hs : s < n) : Bfs n ts s 0 [s] (fun _=>0) :=
 ⟨by simp,fun x hx=>by simp at hx; omega,by simp,rfl,fun x hx=>by simp at hx; subst hx; rfl,by simp,fun u _ x _=>by omega,fun j u h=>absurd h (by omega)⟩
def put (f : Nat→Nat) (v k : Nat) : Nat→Nat:=fun y=>if y = v then k else f y
theorem fS {f : Nat→Nat} {v k : Nat} : put f v k v = k:=by simp [put]
theorem dG {f : Nat→Nat} {v k x : Nat} (h : x ≠ v) : put f v k x = f x:=by simp [put,h]
theorem Bfs.add {n : Nat} {ts : Ts} {s i u v : Nat} {R : List Nat} {f : Nat→Nat} (B : Bfs n ts s i R f) (hu : R[i]? = some u) (hv : v < n) (t : T ts u v) (hn : v ∉ R) : Bfs n ts s i (R ++ [v]) (put f v (f u + 1)):=by
 have hur : u∈R:=List.mem_of_getElem? hu
 have nv : ∀ x∈R,x ≠ v:=fun x hx e=>hn (e ▸ hx)
 have hi : i < R.length:=(List.getElem?_eq_some_iff.mp hu).1
 refine ⟨?_,fun x hx=>?_,List.mem_append_left _ B.st,by rw [dG (nv s B.st)]; exact B.z,fun x hx=>?_,?_,fun w hw x hx=>?_,fun j w hj hw x hx=>?_⟩
 ·rw [List.nodup_append]
  exact ⟨B.nd,by simp,fun a ha b hb e=>by simp at hb; subst hb; exact hn (e ▸ ha)⟩
 ·rcases List.mem_append.mp hx with z | z
  ·exact B.lt x z
  ·simp at z; omega
 ·rcases List.mem_append.mp hx with z | z
  ·rw [dG (nv x z)]; exact B.wk x z
  ·simp at z; subst z
   rw [fS]
   exact ⟨u,B.wk u hur,t⟩
 ·rw [List.pairwise_append]
  refine ⟨B.up.imp_of_mem fun {a b} ha hb h=>by rw [dG (nv a ha),dG (nv b hb)]; exact h,by simp,fun a ha b hb=>?_⟩
  simp at hb; subst hb
  rw [dG (nv a ha),fS]
  exact B.bd u hu a ha
 ·have hw' : w = u:=by
   rw [List.getElem?_append_left hi,hu] at hw
   exact (Option.some.inj hw).symm
  subst hw'
  rw [dG (nv w hur)]
  rcases List.mem_append.mp hx with z | z
  ·rw [dG (nv x z)]; exact B.bd w hu x z
  ·simp at z; subst z; rw [fS]; exact Nat.le_refl _
 ·rw [List.getElem?_append_left (by omega)] at hw
  obtain ⟨a,b⟩:=B.cl j w hj hw x hx
  refine ⟨List.mem_append_left _ a,?_⟩
  rw [dG (nv x a),dG (nv w (List.mem_of_getElem? hw))]
  exact b
theorem Bfs.next {n : Nat} {ts : Ts} {s i u : Nat} {R : List Nat} {f : Nat→Nat} (B : Bfs n ts s i R f) (hu : R[i]? = some u) (h : ∀ v,T ts u v→v∈R∧f v ≤ f u + 1) : Bfs n ts s (i + 1) R f:=by
 refine ⟨B.nd,B.lt,B.st,B.z,B.wk,B.up,fun w hw x hx=>?_,fun j w hj hw v hv=>?_⟩
 ·have h1:=B.bd u hu x hx
  have h2 : f u ≤ f w:=by
   have hi : i < R.length:=(List.getElem?_eq_some_iff.mp hu).1
   have hi' : i + 1 < R.length:=(List.getElem?_eq_some_iff.mp hw).1
   have:=List.pairwise_iff_getElem.mp B.up i (i + 1) hi hi' (by omega)
   rw [List.getElem?_eq_getElem hi] at hu
   rw [List.getElem?_eq_getElem hi'] at hw
   rw [Option.some.inj hu,Option.some.inj hw] at this
   exact this
  omega
 ·by_cases e : j = i
  ·subst e
   rw [hu] at hw
   cases hw
   exact h v hv
  ·exact B.cl j w (by omega) hw v hv
theorem dX : ∀ {n : Nat} {R : List Nat},R.Nodup→(∀ x∈R,x < n)→R.length ≤ n:=by
 intro n R hn hl
 have key : ∀ (a b : List Nat),a.Nodup→(∀ x∈a,x∈b)→a.length ≤ b.length:=by
  intro a
  induction a with
  | nil=>intro b _ _; exact Nat.zero_le _
  | cons x xs ih =>
   intro b hn hs
   obtain ⟨h1,h2⟩:=List.nodup_cons.mp hn
   have hx : x∈b:=hs x List.mem_cons_self
   have:=ih (b.erase x) h2 fun y hy=>(List.mem_erase_of_ne (fun (e : y = x)=>h1 (e ▸ hy))).mpr (hs y (List.mem_cons_of_mem _ hy))
   rw [List.length_erase_of_mem hx] at this
   have : 0 < b.length:=List.length_pos_of_mem hx
   rw [List.length_cons]
   omega
 have:=key R (List.range n) hn fun x hx=>List.mem_range.mpr (hl x hx)
 rwa [List.length_range] at this
theorem Bfs.done {n : Nat} {ts : Ts} {s i : Nat} {R : List Nat} {f : Nat→Nat} (B : Bfs n ts s i R f) (F : Fine n ts) (hi : R.length ≤ i) {x : Nat} (hx : x < n) : x∈R∧f x = far ts s x:=by
 have cl : ∀ u∈R,∀ v,T ts u v→v∈R∧f v ≤ f u + 1:=fun u hu v hv=>by
  obtain ⟨j,hj,e⟩:=List.mem_iff_getElem.mp hu
  exact B.cl j u (by omega) (by rw [List.getElem?_eq_getElem hj,e]) v hv
 have walk : ∀ k x,Walk ts k s x→x∈R∧f x ≤ k:=by
  intro k
  induction k with
  | zero=>intro x e; cases e; exact ⟨B.st,by rw [B.z]; exact Nat.le_refl _⟩
  | succ k ih =>
   rintro x ⟨c,w,t⟩
   obtain ⟨c1,c2⟩:=ih c w
   obtain ⟨d1,d2⟩:=cl c c1 x t
   exact ⟨d1,by omega⟩
 obtain ⟨k,w⟩:=F.con s x (B.lt s B.st) hx
 obtain ⟨m,_⟩:=walk k x w
 exact ⟨m,(tI ⟨B.wk x m,fun k w=>(walk k x w).2⟩).symm⟩
end NetM
namespace NetM
abbrev ci (x : Nat) : Int:=(x : Int)
end NetM
namespace NetM
theorem Fine.far_le {n : Nat} {ts : Ts} (F : Fine n ts) {a b k : Nat} (ha : a < n) (hb : b < n) (w : Walk ts k a b) : far ts a b ≤ k:=(F.fars ha hb).2 k w
end NetM
namespace L2
open PySem PySem.Spec PyProof.Rows
section
variable {X : Cx}
end
end L2
namespace K12
open PySem L2
def top (i : Nat) : Stmt:=PySem.Challenge.pw_neverwait_k62_straight_judged.main.body.getD i (.Pass ⟨0,0,0,0⟩)
abbrev kG : Stmt:=top 2
abbrev iU : Stmt:=top 3
abbrev tJ : Stmt:=top 4
abbrev sRow : Stmt:=top 6
structure Bl (mg : Str→Option Value) : Prop where
 isi : mg "isinstance" = none
 int : mg "int" = none
 bool : mg "bool" = none
 tup : mg "tuple" = none
 lst : mg "list" = none
 str : mg "str" = none
 set : mg "set" = none
 len : mg "len" = none
 range : mg "range" = none
 sorted : mg "sorted" = none
 any : mg "any" = none
 max : mg "max" = none
 min : mg "min" = none
 verr : mg "ValueError" = none
 all : mg "all" = none
def aAV (K : PySem.W.Frag) (H : Hp) (x : V) : Prop:=∃ t,TyX K H x t∧(PySem.W.kitOne K t (.type "int") = some false∨(PySem.W.kitOne K t (.type "int") = some true∧PySem.W.kitOne K t (.type "bool") = some true))
theorem kC {K : PySem.W.Frag} : PySem.W.kitOne K (.type "int") (.type "int") = some true:=by kernel_rfl
theorem jH {K : PySem.W.Frag} : PySem.W.kitOne K (.type "int") (.type "bool") = some false:=by kernel_rfl
inductive Wh (K : PySem.W.Frag) (H : Hp) : V→Option Int→Prop where
 | int (i : Int) : Wh K H (.int i) (some i)
 | no {x : V} (h : aAV K H x) : Wh K H x none
def gT (K : PySem.W.Frag) : Sp:=fun vs H Q _=>∃ x o,vs = [x]∧Wh K H x o∧Q (.bl o.isSome) H
section
variable {P : Program} {w : World} {K : PySem.W.Frag} {mg : Str→Option Value} {base : Heap}
theorem pZ : aY ["thing"] ["thing"] (aI kG):=⟨rfl,rfl,rfl,by decide +kernel,rfl,by decide +kernel,by decide +kernel⟩
theorem nI {f : Addr} {fd : FuncData} (F : Fun K "is_whole" "is_whole" kG f fd) (B : Bl mg) : FnOk P w K mg base CX0 1 f fd ["thing"] (gT K):=by
 refine F.ok pZ (fun vs H Q E h=>?_) (fun cdv A outer s H vs Q E hr h=>?_)
 ·obtain ⟨x,o,rfl,_⟩:=h
  rfl
 ·obtain ⟨x,o,rfl,W,k⟩:=h
  refine ⟨_,aK (bB (eI (aQ eU (by rfl) B.isi PyProof.Rows.boot_isinstance (aA (pv 0) (aA (fV (v:=.ty "int") rfl B.int PyProof.Rows.boot_int rfl) aE)))
   (eT (yE (aQ eU (by rfl) B.isi PyProof.Rows.boot_isinstance (aA (pv 0) (aA (fV (v:=.ty "bool") rfl B.bool PyProof.Rows.boot_bool rfl) aE))))))),?_⟩
  cases W with
  | int i =>
   refine ⟨_,rfl,_,_,_,.type "int",true,rfl,⟨rfl,kC⟩,.of (.int _),true,rfl,?_⟩
   exact ⟨_,rfl,_,_,_,.type "int",false,rfl,⟨rfl,jH⟩,.of (.int _),false,rfl,k⟩
  | no h =>
   obtain ⟨t,ty,h | ⟨h1,h2⟩⟩:=h
   ·exact ⟨_,rfl,_,_,_,t,false,rfl,⟨rfl,h⟩,ty,false,rfl,k⟩
   ·refine ⟨_,rfl,_,_,_,t,true,rfl,⟨rfl,h1⟩,ty,true,rfl,?_⟩
    exact ⟨_,rfl,_,_,_,t,true,rfl,⟨rfl,h2⟩,ty,true,rfl,k⟩
end
section
variable {P : Program} {w : World} {K : PySem.W.Frag} {mg : Str→Option Value} {base : Heap}
def fL (o : Option Int) (lo hi : Int) : Bool:=match o with
 | some i=>decide (lo ≤ i) && decide (i ≤ hi)
 | none=>false
def eV (K : PySem.W.Frag) : Sp:=fun vs H Q _=>∃ x o lo hi,vs = [x,.int lo,.int hi]∧Wh K H x o∧Q (.bl (fL o lo hi)) H
theorem nJ : aY ["thing", "least", "most"] ["thing", "least", "most"] (aI iU):=⟨rfl,rfl,rfl,by decide +kernel,rfl,by decide +kernel,by decide +kernel⟩
theorem lR {f : Addr} {fd : FuncData} (F : Fun K "is_whole_within" "is_whole_within" iU f fd) (W : Cal P w K mg base CX0 1 "is_whole" ["thing"] (gT K)) : FnOk P w K mg base CX0 2 f fd ["thing", "least", "most"] (eV K):=by
 refine F.ok nJ (fun vs H Q E h=>?_) (fun cdv A outer s H vs Q E hr h=>?_)
 ·obtain ⟨x,o,lo,hi,rfl,_⟩:=h
  rfl
 ·obtain ⟨x,o,lo,hi,rfl,wh,k⟩:=h
  refine ⟨_,aK (bB (eI (aS W hr aU (aA (pv 0) aE)) (eT (sJ nS nS (pv 1) (pv 0) (pv 2))))),?_⟩
  refine ⟨_,rfl,x,o,rfl,wh,?_⟩
  cases wh with
  | no h=>exact ⟨false,rfl,k⟩
  | int i =>
   refine ⟨true,rfl,_,rfl,_,rfl,_,_,rfl,rfl,_,rfl,?_⟩
   show if decide (lo ≤ i) = true then _ else _
   have k' : Q (.bl (decide (lo ≤ i) && decide (i ≤ hi))) H:=k
   by_cases h : lo ≤ i
   ·rw [decide_eq_true h] at k' ⊢
    exact ⟨_,rfl,_,_,rfl,rfl,k'⟩
   ·rw [decide_eq_false h] at k' ⊢
    exact k'
def mI (K : PySem.W.Frag) : Sp:=fun vs H Q _=>∃ x o n,vs = [.int n,x]∧Wh K H x o∧Q (.bl (fL o 0 (n - 1))) H
theorem aB9 : aY ["many", "thing"] ["many", "thing"] (aI tJ):=⟨rfl,rfl,rfl,by decide +kernel,rfl,by decide +kernel,by decide +kernel⟩
theorem aAW {f : Addr} {fd : FuncData} (F : Fun K "is_house" "is_house" tJ f fd) (W : Cal P w K mg base CX0 2 "is_whole_within" ["thing", "least", "most"] (eV K)) : FnOk P w K mg base CX0 3 f fd ["many", "thing"] (mI K):=by
 refine F.ok aB9 (fun vs H Q E h=>?_) (fun cdv A outer s H vs Q E hr h=>?_)
 ·obtain ⟨x,o,n,rfl,_⟩:=h
  rfl
 ·obtain ⟨x,o,n,rfl,wh,k⟩:=h
  refine ⟨_,aK (bB (aS W hr aU (aA (pv 1) (aA aJ (aA (bA jB (pv 0) aJ) aE))))),?_⟩
  exact ⟨_,rfl,_,rfl,_,_,rfl,rfl,x,o,0,n - 1,rfl,wh,k⟩
inductive Rw (K : PySem.W.Frag) (H : Hp) : V→Option (List V)→Prop where
 | tup {p : Addr} {xs : List V} (h : H p = some (.tup xs)) : Rw K H (.ref p) (some xs)
 | no {x : V} {t : Value} (ty : TyX K H x t) (h : PySem.W.kitOne K t (.type "tuple") = some false) : Rw K H x none
def aDW (o : Option (List V)) (m : Int) : Bool:=match o with
 | some xs=>decide ((xs.length : Int) = m)
 | none=>false
theorem aCa {K : PySem.W.Frag} : PySem.W.kitOne K (.type "tuple") (.type "tuple") = some true:=by kernel_rfl
def xH (K : PySem.W.Frag) : Sp:=fun vs H Q _=>∃ x o m,vs = [x,.int m]∧Rw K H x o∧Q (.bl (aDW o m)) H
theorem aDX : aY ["thing", "length"] ["thing", "length"] (aI sRow):=⟨rfl,rfl,rfl,by decide +kernel,rfl,by decide +kernel,by decide +kernel⟩
theorem aDd {f : Addr} {fd : FuncData} (F : Fun K "is_row" "is_row" sRow f fd) (B : Bl mg) : FnOk P w K mg base CX0 1 f fd ["thing", "length"] (xH K):=by
 refine F.ok aDX (fun vs H Q E h=>?_) (fun cdv A outer s H vs Q E hr h=>?_)
 ·obtain ⟨x,o,m,rfl,_⟩:=h
  rfl
 ·obtain ⟨x,o,m,rfl,W,k⟩:=h
  refine ⟨_,aK (bB (eI (aQ eU (by rfl) B.isi PyProof.Rows.boot_isinstance (aA (pv 0) (aA (fV (v:=.ty "tuple") rfl B.tup PyProof.Rows.boot_tuple rfl) aE)))
   (eT (cN cT (aQ aT (by rfl) B.len PySem.boot_len (aA (pv 0) aE)) (pv 1) (aX _))))),?_⟩
  cases W with
  | @tup p xs h =>
   refine ⟨_,rfl,_,_,_,.type "tuple",true,rfl,⟨rfl,aCa⟩,.of (.tup h),true,rfl,?_⟩
   refine ⟨_,rfl,_,_,rfl,.inr (SqT.of h),_,rfl,rfl,?_⟩
   have e : decide (V.int ((xs.length : Nat) : Int) = V.int m) = decide (((xs.length : Nat) : Int) = m):=by simp
   rw [e]
   exact k
  | no ty h=>exact ⟨_,rfl,_,_,_,_,false,rfl,⟨rfl,h⟩,ty,false,rfl,k⟩
end
end K12
namespace K12
open PySem L2
theorem dL {D : Addr} {H H' : Hp} {o : HO} (s : Same H H') (hD : H D = none) : Same H (upd H' D o):=fun b u e=>by rw [aD (aF e hD)]; exact s b u e
theorem bY {p D : Addr} {H H' : Hp} {o : HO} (s : aL p H H') (hD : H D = none) : aL p H (upd H' D o):=fun b u e n=>by rw [aD (aF e hD)]; exact s b u e n
abbrev IV (ns : List Int) : List V:=ns.map V.int
abbrev NV (ns : List Nat) : List V:=ns.map fun (x : Nat)=>V.int (x : Int)
abbrev Zs:=List (Addr × (Int × Int))
abbrev prT (u : Int × Int) : HO:=.tup [.int u.1,.int u.2]
def zr (zs : Zs) : List V:=zs.map fun z=>V.ref z.1
def zp (zs : Zs) : List (Int × Int):=zs.map (·.2)
def PO (H : Hp) (zs : Zs) : Prop:=∀ z∈zs,H z.1 = some (prT z.2)
theorem fX {a b : Zs} : zr (a ++ b) = zr a ++ zr b:=List.map_append
theorem fY {a b : Zs} : zp (a ++ b) = zp a ++ zp b:=List.map_append
theorem fN {a : Zs} : (zr a).length = a.length:=List.length_map _
theorem cL {a : Zs} : (zp a).length = a.length:=List.length_map _
theorem qA {a : Zs} : zr a = (a.map (·.1)).map V.ref:=by unfold zr; rw [List.map_map]; rfl
theorem tK {zs : Zs} {i : Nat} {x : V} (h : (zr zs)[i]? = some x) : ∃ z,zs[i]? = some z∧x = .ref z.1:=by
 unfold zr at h
 rw [List.getElem?_map] at h
 cases e : zs[i]? with
 | none=>rw [e] at h; cases h
 | some z=>rw [e] at h; exact ⟨z,rfl,(Option.some.inj h).symm⟩
theorem PO.nil {H : Hp} : PO H []:=fun z hz=>(nomatch hz)
theorem PO.same {H H' : Hp} {zs : Zs} (h : PO H zs) (s : Same H H') : PO H' zs:=fun z hz=>s _ _ (h z hz)
theorem PO.putL {H : Hp} {D : Addr} {xs : List V} {o : HO} {zs : Zs} (h : PO H zs) (e : H D = some (.lst xs)) : PO (upd H D o) zs:=fun z hz=>by
 have:=h z hz
 rw [aD (by rintro rfl; rw [e] at this; cases this)]; exact this
theorem PO.putN {H : Hp} {D : Addr} {o : HO} {zs : Zs} (h : PO H zs) (e : H D = none) : PO (upd H D o) zs:=h.same (aG e)
theorem PO.append {H : Hp} {a b : Zs} (h : PO H a) (h' : PO H b) : PO H (a ++ b):=fun z hz=>(List.mem_append.mp hz).elim (h z) (h' z)
theorem PO.one {H : Hp} {p : Addr} {u : Int × Int} (h : H p = some (prT u)) : PO H [(p,u)]:=fun z hz=>by rw [List.mem_singleton.mp hz]; exact h
theorem aAX {zs : Zs} {i : Nat} (h : i < zs.length) : (zs.map (·.1)).getD i 0 = zs[i].1:=by
 rw [List.getD_eq_getElem?_getD,List.getElem?_map,List.getElem?_eq_getElem h]; rfl
theorem aCb {zs : Zs} {i : Nat} (h : i < zs.length) : (zp zs).getD i (0,0) = zs[i].2:=by
 unfold zp
 rw [List.getD_eq_getElem?_getD,List.getElem?_map,List.getElem?_eq_getElem h]; rfl
theorem aAg {H : Hp} {zs : Zs} (ho : PO H zs) {as : List Addr} (h : as.Perm (zs.map (·.1))) : ∃ zs' : Zs,zs'.Perm zs∧as = zs'.map (·.1):=by
 classical
 let f : Addr→Int × Int:=fun a=>match H a with
  | some (.tup [.int x,.int y])=>(x,y)
  | _=>(0,0)
 have e : (zs.map (·.1)).map (fun a=>(a,f a)) = zs:=by
  rw [List.map_map]
  conv=>rhs; rw [← List.map_id zs]
  refine List.map_congr_left fun z hz=>?_
  have:=ho z hz
  show (z.1,f z.1) = z
  have e2 : f z.1 = z.2:=by
   show (match H z.1 with | some (.tup [.int x,.int y])=>(x,y) | _=>(0,0)) = z.2
   rw [this]
  rw [e2]
 refine ⟨as.map fun a=>(a,f a),?_,?_⟩
 ·have:=h.map (fun a=>(a,f a))
  rw [e] at this
  exact this
 ·rw [List.map_map]
  exact (List.map_id as).symm
theorem aCc {K : PySem.W.Frag} {H : Hp} {l : Addr} {zs : Zs} {Q : VK} (hl : H l = some (.lst (zr zs))) (ho : PO H zs) (hz : zs.length ≤ 4096) (q : ∀ (D : Addr) (zs' : Zs),H D = none→zs'.Perm zs→Q (.ref D) (upd H D (.lst (zr zs')))) : aAe K [.ref l] H Q:=by
 refine ⟨l,zs.map (·.1),rfl,SqL.of (by rw [← qA]; exact hl),fun a ha=>?_,by rw [List.length_map]; exact hz,fun D as' hD hp=>?_⟩
 ·obtain ⟨z,hz,rfl⟩:=List.mem_map.mp ha
  exact ⟨_,_,SqT.of (ho z hz)⟩
 ·obtain ⟨zs',h1,rfl⟩:=aAg ho hp
  rw [← qA]
  exact q D zs' hD h1
theorem aAY {K : PySem.W.Frag} {a D : Addr} {zs0 : Zs} {g : TG} {tt : TT} {te : TE} {fin : Hp→Prop} {σB : St} {H0 : Hp} (F : Int × Int→Int × Int) (shape : St→Prop) (ha : H0 a = some (.lst (zr zs0))) (hp0 : PO H0 zs0) (hD : H0 D = none) (hn : zs0.length ≤ 100000) (h0 : shape σB)
  (hs : ∀ z σ H (R : V→St→Hp→Prop) (Kf : St→Hp→Prop),z∈zs0→shape σ→H z.1 = some (prT z.2)→(∀ σ2 p,shape σ2→H p = none→R (.ref p) σ2 (upd H p (prT (F z.2))))→g (.ref z.1) σ H fun σ2 H2=>tt σ2 H2 fun b H3=>if b = true then te σ2 H3 fun v H4=>R v σ2 H4 else Kf σ2 H3)
  (hd : ∀ zs H,Same H0 H→H D = some (.lst (zr zs))→PO H zs→zp zs = (zp zs0).map F→fin H) : hV (Itl K a) g tt te D fin σB (upd H0 D (.lst [])):=by
 refine dZ (xs:=zr zs0) (fun i ys σ H=>shape σ∧Same H0 H∧H D = some (.lst ys)∧∃ zs : Zs,ys = zr zs∧PO H zs∧zp zs = ((zp zs0).take i).map F) ⟨h0,aG hD,aB,[],rfl,PO.nil,rfl⟩ (fun i ys σ H _ z=>SqL.of (z.2.1 _ _ ha)) ?_ ?_
 ·rintro i x ys σ H Kt Kf hx ⟨sh,sm,hDl,zs,rfl,po,ep⟩ kt kf
  obtain ⟨z,hz,rfl⟩:=tK hx
  have hi : i < zs0.length:=(List.getElem?_eq_some_iff.mp hz).1
  have hzm : z∈zs0:=List.mem_of_getElem? hz
  have hl : zs.length = i:=by rw [← cL,ep,List.length_map,List.length_take,cL]; omega
  refine hs z σ H Kt Kf hzm sh (sm _ _ (hp0 z hzm)) (fun σ2 p sh2 hp=>?_)
  ·have nD : D ≠ p:=aF hDl hp
   refine kt _ _ _ (by rw [aD nD]; exact hDl) (by rw [fN,hl]; exact Nat.lt_of_lt_of_le hi (Nat.le_trans hn (by decide))) ⟨sh2,dL (sm.trans (aG hp)) hD,aB,zs ++ [(p,F z.2)],?_,?_,?_⟩
   ·rw [fX]; rfl
   ·refine PO.putL (xs:=zr zs) ?_ (by rw [aD nD]; exact hDl)
    exact (po.putN hp).append (PO.one aB)
   ·have e2 : (zp zs0)[i]? = some z.2:=by unfold zp; rw [List.getElem?_map,hz]; rfl
    rw [fY,ep,List.take_add_one,e2,Option.toList_some,List.map_append]; rfl
 ·rintro ys σ H ⟨_,sm,hDl,zs,rfl,po,ep⟩
  rw [fN,← cL,List.take_length] at ep
  exact hd zs H sm hDl po ep
end K12
namespace K12
open PySem L2
open NetM
abbrev rV : Stmt:=pT (top 21) 0
abbrev sFar : Stmt:=pT (top 21) 4
abbrev tL : Stmt:=pT (top 21) 8
theorem n12 : ¬ (("house_count" : Str) = "tie_list"):=by decide +kernel
theorem n13 : ¬ (("house_count" : Str) = "out_lists"):=by decide +kernel
theorem n14 : ¬ (("house_count" : Str) = "distances"):=by decide +kernel
def flds (n : Int) (tl ol ds : Addr) : List (Str × V):=putF "distances" (.ref ds) (putF "out_lists" (.ref ol) (putF "tie_list" (.ref tl) (putF "house_count" (.int n) [])))
theorem aCd (n : Int) (tl ol ds : Addr) : (flds n tl ol ds).lookup ("house_count" : Str) = some (.int n):=by
 unfold flds
 rw [bS,if_neg n14,bS,if_neg n13,bS,if_neg n12,bS,if_pos rfl]
theorem vZ (n : Int) (tl ol ds : Addr) {m : Str} (h1 : ¬ m = "house_count") (h2 : ¬ m = "tie_list") (h3 : ¬ m = "out_lists") (h4 : ¬ m = "distances") : (flds n tl ol ds).lookup m = none:=by
 unfold flds
 rw [bS,if_neg h4,bS,if_neg h3,bS,if_neg h2,bS,if_neg h1]
 all_goals rfl
theorem aCe (n : Int) (tl ol ds : Addr) : (flds n tl ol ds).lookup ("distances" : Str) = some (.ref ds):=by
 unfold flds
 rw [bS,if_pos rfl]
def jI (H : Hp) (L : Addr→Prop) (l : Addr) (n : Nat) (r : Nat→List Nat) : Prop:=∃ bs : List Addr,H l = some (.lst (bs.map V.ref))∧(∀ b∈bs,L b)∧Holds H bs n (fun h=>.lst (NV (r h)))
theorem jI.keep {H H' : Hp} {L : Addr→Prop} {l : Addr} {n : Nat} {r : Nat→List Nat} (R : jI H L l n r) (hl : L l) (k : ∀ b o,L b→H b = some o→H' b = some o) : jI H' L l n r :=
 let ⟨bs,a,b,c⟩:=R
 ⟨bs,k _ _ hl a,b,c.mono fun j hj e=>k _ _ (b _ (by rw [List.getD_eq_getElem?_getD,List.getElem?_eq_getElem (by rw [c.1]; exact hj)]; exact List.getElem_mem _)) e⟩
theorem jI.row {H : Hp} {L : Addr→Prop} {l : Addr} {n : Nat} {r : Nat→List Nat} (R : jI H L l n r) {h : Nat} (hh : h < n) : ∃ (bs : List Addr) (b : Addr),H l = some (.lst (bs.map V.ref))∧(bs.map V.ref)[h]? = some (V.ref b)∧H b = some (.lst (NV (r h)))∧L b:=by
 obtain ⟨bs,a,b,c⟩:=R
 have hl : h < bs.length:=by rw [c.1]; exact hh
 refine ⟨bs,bs[h],a,by rw [List.getElem?_map,List.getElem?_eq_getElem hl]; rfl,?_,b _ (List.getElem_mem _)⟩
 have:=c.2 h hh
 rw [List.getD_eq_getElem?_getD,List.getElem?_eq_getElem hl] at this
 exact this
structure dP (C : Addr) (H : Hp) (L : Addr→Prop) (p : Addr) (n : Nat) (ts : Ts) : Prop where
 fine : Fine n ts
 ob : ∃ dx tl ol ds,H p = some (.ins C dx (flds n tl ol ds))∧L ol∧L ds∧jI H L ol n (outN n ts)∧jI H L ds n (fun h=>(List.range n).map (far ts h))
theorem dP.keep {C : Addr} {H H' : Hp} {L : Addr→Prop} {p : Addr} {n : Nat} {ts : Ts} (N : dP C H L p n ts) (k : ∀ b o,L b→H b = some o→H' b = some o) (kp : ∀ o,H p = some o→H' p = some o) : dP C H' L p n ts :=
 let ⟨dx,tl,ol,ds,a,l1,l2,b,c⟩:=N.ob
 ⟨N.fine,dx,tl,ol,ds,kp _ a,l1,l2,b.keep l1 k,c.keep l2 k⟩
theorem dP.same {C : Addr} {H H' : Hp} {L : Addr→Prop} {p : Addr} {n : Nat} {ts : Ts} (N : dP C H L p n ts) (s : Same H H') : dP C H' L p n ts:=N.keep (fun b o _ e=>s b o e) (fun o e=>s _ o e)
structure NT (K : PySem.W.Frag) (mg : Str→Option Value) (C : Addr) : Prop where
 cl : Cls K C
 nH : fJ K C "house_count"
 nT : fJ K C "tie_list"
 nO : fJ K C "out_lists"
 nD : fJ K C "distances"
 mgC : mg "Net" = some (.ref C)
structure MCal (P : Program) (w : World) (K : PySem.W.Frag) (mg : Str→Option Value) (base : Heap) (CX : CXT) (k : Nat) (C : Addr) (x : Str) (ps : List Str) (sp : Sp) : Prop where
 ex : ∃ f fd,Meth K C x f∧gB K fd ps []∧FnOk P w K mg base CX k f fd ps sp
section
variable {P : Program} {w : World} {K : PySem.W.Frag} {mg : Str→Option Value} {base : Heap}
theorem aCf : aY ["self", "thing"] ["self", "thing"] (aI tL):=⟨rfl,rfl,rfl,by decide +kernel,rfl,by decide +kernel,by decide +kernel⟩
theorem nchk (n : Int) (tl ol ds : Addr) : (flds n tl ol ds).lookup ("check_house" : Str) = none:=vZ n tl ol ds (by decide +kernel) (by decide +kernel) (by decide +kernel) (by decide +kernel)
theorem nfar (n : Int) (tl ol ds : Addr) : (flds n tl ol ds).lookup ("far" : Str) = none:=vZ n tl ol ds (by decide +kernel) (by decide +kernel) (by decide +kernel) (by decide +kernel)
theorem tP {xs : List Nat} : (NV xs).length = xs.length:=List.length_map _
theorem rG {i n : Nat} (h : i < n) : fL (some (i : Int)) 0 ((n : Int) - 1) = true:=by unfold fL; simp; omega
theorem jV : aY ["self", "one", "other"] ["self", "one", "other"] (aI sFar):=⟨rfl,rfl,rfl,by decide +kernel,rfl,by decide +kernel,by decide +kernel⟩
end
end K12
namespace K12
open PySem L2 NetM
abbrev tQ : Stmt:=top 22
abbrev sTie : Stmt:=top 23
abbrev sBal : Stmt:=top 24
section
variable {P : Program} {w : World} {K : PySem.W.Frag} {mg : Str→Option Value} {base : Heap}
abbrev sUnl : Stmt:=top 5
theorem aDY : aY ["many", "one", "other"] ["many", "one", "other"] (aI sUnl):=⟨rfl,rfl,rfl,by decide +kernel,rfl,by decide +kernel,by decide +kernel⟩
def xI : Sp:=fun vs H Q _=>∃ (n a b : Int),vs = [.int n,.int a,.int b]∧0 ≤ a∧a < n∧0 ≤ b∧b < n∧a ≠ b∧Q (.bl true) H
theorem aDe {f : Addr} {fd : FuncData} (F : Fun K "are_unlike_houses" "are_unlike_houses" sUnl f fd) (HH : Cal P w K mg base CX0 3 "is_house" ["many", "thing"] (mI K)) :
  FnOk P w K mg base CX0 4 f fd ["many", "one", "other"] xI:=by
 refine F.ok aDY (fun vs H Q E h=>?_) (fun cdv A outer s H vs Q E hr h=>?_)
 ·obtain ⟨n,a,b,rfl,_⟩:=h
  rfl
 ·obtain ⟨n,a,b,rfl,a1,a2,b1,b2,hne,k⟩:=h
  refine ⟨_,aK (bB (eI (aS HH hr aU (aA (pv 0) (aA (pv 1) aE))) (eI (aS HH hr aU (aA (pv 0) (aA (pv 2) aE))) (eT (cN hU (pv 1) (pv 2) (aX _)))))),?_⟩
  refine ⟨_,rfl,_,rfl,_,_,n,rfl,.int a,_,rfl,?_⟩
  rw [if_pos (show fL (some a) 0 (n - 1) = true by unfold fL; simp; omega)]
  refine ⟨_,rfl,_,rfl,_,_,n,rfl,.int b,_,rfl,?_⟩
  rw [if_pos (show fL (some b) 0 (n - 1) = true by unfold fL; simp; omega)]
  refine ⟨_,rfl,_,rfl,rfl,?_⟩
  have e : (!decide (V.int a = V.int b)) = true:=by simp [hne]
  rw [e]
  exact k
theorem aDZ : aY ["many", "thing"] ["many", "thing"] (aI sTie):=⟨rfl,rfl,rfl,by decide +kernel,rfl,by decide +kernel,by decide +kernel⟩
def xJ : Sp:=fun vs H Q _=>∃ (n : Int) (p : Addr) (a b : Int),vs = [.int n,.ref p]∧H p = some (.tup [.int a,.int b])∧0 ≤ a∧a < n∧0 ≤ b∧b < n∧a ≠ b∧Q (.bl true) H
theorem aDf {f : Addr} {fd : FuncData} (F : Fun K "is_tie" "is_tie" sTie f fd) (R : Cal P w K mg base CX0 1 "is_row" ["thing", "length"] (xH K)) (U : Cal P w K mg base CX0 4 "are_unlike_houses" ["many", "one", "other"] xI) :
  FnOk P w K mg base CX0 5 f fd ["many", "thing"] xJ:=by
 refine F.ok aDZ (fun vs H Q E h=>?_) (fun cdv A outer s H vs Q E hr h=>?_)
 ·obtain ⟨n,p,a,b,rfl,_⟩:=h
  rfl
 ·obtain ⟨n,p,a,b,rfl,hp,a1,a2,b1,b2,hne,k⟩:=h
  refine ⟨_,aK (bB (eI (aS R (hr.mono (by decide)) aU (aA (pv 1) (aA aJ aE)))
   (eT (aS U hr aU (aA (pv 0) (aA (aO bP (pv 1) aJ (fun _ _=>rfl)) (aA (aO bP (pv 1) aJ (fun _ _=>rfl)) aE))))))),?_⟩
  refine ⟨_,rfl,_,_,_,rfl,.tup hp,true,rfl,?_⟩
  exact ⟨_,rfl,_,rfl,p,_,_,_,rfl,rfl,SqT.of hp,bQ (j:=0) rfl,_,rfl,p,_,_,_,rfl,rfl,SqT.of hp,bQ (j:=1) rfl,n,a,b,rfl,a1,a2,b1,b2,hne,k⟩
theorem wA : aY ["many", "ties", "tie"] ["many", "ties"] (aI tQ):=⟨rfl,rfl,rfl,by decide +kernel,rfl,by decide +kernel,by decide +kernel⟩
theorem aAZ {K : PySem.W.Frag} : PySem.W.kitOne K (.type "list") (.type "list") = some true:=by kernel_rfl
structure dI (H : Hp) (l : Addr) (n : Nat) (zs : Zs) : Prop where
 fine : Fine n (zp zs)
 at_ : H l = some (.lst (zr zs))
 po : PO H zs
theorem dI.same {H H' : Hp} {l : Addr} {n : Nat} {zs : Zs} (h : dI H l n zs) (s : Same H H') : dI H' l n zs:=⟨h.fine,s _ _ h.at_,h.po.same s⟩
def iV : Sp:=fun vs H Q _=>∃ (n : Nat) (l : Addr) (zs : Zs),vs = [.int n,.ref l]∧dI H l n zs∧∀ H',Same H H'→Q .non H'
theorem aA0 {f : Addr} {fd : FuncData} (F : Fun K "check_ties" "check_ties" tQ f fd) (B : Bl mg) (gF : ∃ t,mg "FEWEST_HOUSES" = some (.int 2 t)) (gM : ∃ t,mg "MOST_HOUSES" = some (.int 32 t))
  (W : Cal P w K mg base CX0 2 "is_whole_within" ["thing", "least", "most"] (eV K)) (T : Cal P w K mg base CX0 5 "is_tie" ["many", "thing"] xJ) :
  FnOk P w K mg base CX0 6 f fd ["many", "ties"] iV:=by
 obtain ⟨tF,gF⟩:=gF
 obtain ⟨tM,gM⟩:=gM
 refine F.ok wA (fun vs H Q E h=>?_) (fun cdv A outer s H vs Q E hr h=>?_)
 ·obtain ⟨n,l,zs,rfl,_⟩:=h
  rfl
 ·refine ⟨_,aH (bN (dS (cV (aS W (hr.mono (by decide)) aU (aA (pv 0) (aA (pM (v:=.int 2) rfl gF ⟨_,rfl⟩) (aA (pM (v:=.int 32) rfl gM ⟨_,rfl⟩) aE)))))) cK bE)
   (aH (bN (dS (cV (aQ eU (by rfl) B.isi PyProof.Rows.boot_isinstance (aA (pv 1) (aA (fV (v:=.ty "list") rfl B.lst PyProof.Rows.boot_list rfl) aE))))) cK bE)
   (aH (bW PassesOwn.never rfl (cF (pv 1)) (aM (i:=2) wA.nd rfl (Or.inl rfl)) (aK (bN (dS (cV (aS T hr aU (aA (pv 0) (aA (pv 2) aE))))) cK bE)))
   (aK (bN (aZ hU (aQ uT (by rfl) B.len PySem.boot_len (aA (bT (zG rfl (by have:=hr.un; show (A.deeper _).units + 8 < _; omega)) (by rfl) B.set PyProof.Rows.boot_set (aA (pv 1) aE)) aE)) (aQ aT (by rfl) B.len PySem.boot_len (aA (pv 1) aE)) (aX _)) cK bE)))),?_⟩
  obtain ⟨n,l,zs,rfl,tt,k⟩:=h
  obtain ⟨fi,hl,po⟩:=id tt
  have n1:=fi.n1
  have n2:=fi.n2
  refine ⟨_,rfl,_,_,2,32,rfl,.int n,_,rfl,?_⟩
  rw [show fL (some (n : Int)) 2 32 = true by unfold fL; simp; omega]
  refine iteF ?_
  refine ⟨_,rfl,_,_,_,.type "list",true,rfl,⟨rfl,aAZ⟩,.of (.lst hl),_,rfl,iteF ?_⟩
  refine ⟨_,rfl,l,rfl,⟨_,SqL.of hl⟩,fP (K:=K) (a:=l) (xs:=zr zs) (fun i σ H2=>H2 = H∧∃ v,σ = [some (.int n),some (.ref l),v]) ⟨rfl,none,rfl⟩ (fun i σ H2 _ ⟨e,_⟩=>by rw [e]; exact SqL.of hl) ?_ ?_⟩
  ·rintro i x σ H2 hx ⟨rfl,v,rfl⟩
   obtain ⟨z,hz,rfl⟩:=tK hx
   have hzm : z∈zs:=List.mem_of_getElem? hz
   have hzp : z.2∈zp zs:=List.mem_map.mpr ⟨z,hzm,rfl⟩
   have r:=fi.rg _ hzp
   exact ⟨_,rfl,_,rfl,n,_,_,_,rfl,po z hzm,r.1.1,r.1.2,r.2.1,r.2.2,fi.ne _ hzp,_,rfl,iteF ⟨rfl,_,rfl⟩⟩
  ·rintro σ H2 ⟨rfl,v,rfl⟩
   have hlen : (zp zs).length ≤ 256:=fi.len
   refine ⟨_,rfl,l,zs.map (·.1),zp zs,rfl,SqL.of (by rw [← qA]; exact hl),by rw [List.length_map,cL],fun i hi=>?_,fi.nd,fun y hy=>?_,by omega,fun D hD=>?_⟩
   ·rw [cL] at hi
    rw [aAX hi,aCb hi]
    exact SqT.of (po _ (List.getElem_mem hi))
   ·have r:=fi.rg _ hy
    omega
   ·have nl : l ≠ D:=aF hl hD
    refine ⟨D,_,rfl,aB,by omega,_,rfl,l,zr zs,rfl,.inl (SqL.of (by rw [aD nl]; exact hl)),rfl,_,rfl,?_⟩
    have ez : (!decide (V.int (((zp zs).length : Nat) : Int) = V.int (((zr zs).length : Nat) : Int))) = false:=by rw [cL,fN]; simp
    rw [ez]
    exact iteF (k _ (aG hD))
end
end K12
namespace K12
open PySem L2 NetM
abbrev oQ : Stmt:=top 25
section
variable {P : Program} {w : World} {K : PySem.W.Frag} {mg : Str→Option Value} {base : Heap}
theorem lS {zs : Zs} {l D : Addr} {H : Hp} {g : TG} {tt : TT} {te : TE} {fin : Hp→Prop} {σB : St} (S : St→Prop) (p q : Int × Int→Int) (h : Int) (hD : H D = none) (hl : H l = some (.lst (zr zs))) (po : PO H zs) (hn : zs.length ≤ 1000) (s0 : S σB)
  (hg : ∀ z σ H2 (Kt : V→St→Hp→Prop) (Kf : St→Hp→Prop),z∈zs→S σ→H2 z.1 = some (prT z.2)→(∀ σ2,S σ2→p z.2 = h→Kt (.int (q z.2)) σ2 H2)→(∀ σ2,S σ2→p z.2 ≠ h→Kf σ2 H2) →
   g (.ref z.1) σ H2 fun σ2 H2=>tt σ2 H2 fun b H3=>if b = true then te σ2 H3 fun v H4=>Kt v σ2 H4 else Kf σ2 H3)
  (hd : fin (upd H D (.lst (IV (((zp zs).filter fun y=>decide (p y = h)).map q))))) : hV (Itl K l) g tt te D fin σB (upd H D (.lst [])):=by
 have nl : l ≠ D:=aF hl hD
 have tk : ∀ {i : Nat} {z : Addr × (Int × Int)},zs[i]? = some z→(zp zs).take (i + 1) = (zp zs).take i ++ [z.2]:=fun {i z} hz=>by
  rw [List.take_add_one,show (zp zs)[i]? = some z.2 by unfold zp; rw [List.getElem?_map,hz]; rfl]; rfl
 refine dZ (xs:=zr zs) (fun i ys σ H2=>S σ∧ys = IV ((((zp zs).take i).filter fun y=>decide (p y = h)).map q)∧H2 = upd H D (.lst ys)) ⟨s0,by simp,rfl⟩ (fun i ys σ H2 _ ⟨_,_,e⟩=>by rw [e]; exact SqL.of (by rw [aD nl]; exact hl)) ?_ ?_
 ·rintro i x ys σ H2 Kt Kf hx ⟨hS,ey,rfl⟩ kt kf
  obtain ⟨z,hz,rfl⟩:=tK hx
  have hzm : z∈zs:=List.mem_of_getElem? hz
  have hp:=po z hzm
  have na : z.1 ≠ D:=aF hp hD
  have hi : i < zs.length:=(List.getElem?_eq_some_iff.mp hz).1
  refine hg z σ _ Kt Kf hzm hS (by rw [aD na]; exact hp) (fun σ2 s2 e=>?_) (fun σ2 s2 e=>?_)
  ·refine kt _ _ _ aB ?_ ⟨s2,?_,?_⟩
   ·rw [ey,List.length_map,List.length_map]
    exact Nat.lt_of_le_of_lt (List.length_filter_le _ _) (Nat.lt_of_le_of_lt (List.length_take_le _ _) (Nat.lt_of_lt_of_le (show i < 1000 by omega) (by decide)))
   ·rw [ey,tk hz,List.filter_append,List.map_append]
    have : decide (p z.2 = h) = true:=by simp [e]
    simp [List.filter_cons,this]
   ·rw [dR]
  ·refine kf _ _ ⟨s2,?_,rfl⟩
   have : decide (p z.2 = h) = false:=by simp [e]
   rw [ey,tk hz,List.filter_append]
   simp [List.filter_cons,this]
 ·rintro ys σ H2 ⟨_,ey,rfl⟩
  rw [fN,← cL,List.take_length] at ey
  rw [ey]
  exact hd
theorem nb3 : (["one", "other", "house"] : List Str).Nodup:=by decide +kernel
theorem rW : aY ["many", "ties", "house", "leading_out", "leading_in"] ["many", "ties"] (aI sBal):=⟨rfl,rfl,rfl,by decide +kernel,rfl,by decide +kernel,by decide +kernel⟩
theorem aDg {f : Addr} {fd : FuncData} (F : Fun K "check_balance" "check_balance" sBal f fd) (B : Bl mg) (gM : ∃ t,mg "MOST_TIES_OUT" = some (.int 8 t)) :
  FnOk P w K mg base CX0 1 f fd ["many", "ties"] iV:=by
 obtain ⟨tM,gM⟩:=gM
 refine F.ok rW (fun vs H Q E h=>?_) (fun cdv A outer s H vs Q E hr h=>?_)
 ·obtain ⟨n,l,zs,rfl,_⟩:=h
  rfl
 ·obtain ⟨n,l,zs,rfl,T,k⟩:=h
  have fi:=T.fine
  have n1:=fi.n1
  have n2:=fi.n2
  have hlen : zs.length ≤ 256:=by have:=fi.len; rw [cL] at this; exact this
  refine' ⟨_,aK (bW PassesOwn.never rfl (cB rfl B.range (aA (pv 0) aE)) (aM (i:=2) rW.nd rfl (Or.inr rfl))
   (aH (aV (i:=3) rW.nd rfl (Or.inl rfl) (aQ aT (by rfl) B.len PySem.boot_len (aA ?c1 aE)))
   (aH (aV (i:=4) rW.nd rfl (Or.inl rfl) (aQ aT (by rfl) B.len PySem.boot_len (aA ?c2 aE)))
   (aH (bN (aZ hU (pv 3) (pv 4) (aX _)) cK bE)
   (aK (bN (aZ nU (pv 3) (pM (v:=.int 8) rfl gM ⟨_,rfl⟩) (aX _)) cK bE)))))),?_⟩
  case c1 =>
   refine' cZ (g:=gTup K 2 (cS (bG 0) (cS (bG 1) gNil))) (NB:=["one", "other", "house"]) (src:=[none,none,some 2]) (bZ (by kernel_rfl)) rfl (cF (pv 1)) ?g ?t ?e
   case g=>exact fun cl C s₃ H₃ fp=>dE (n:=2) rfl (bD (aM (i:=0) nb3 rfl (Or.inl rfl) (Or.inr rfl)) (bD (aM (i:=1) nb3 rfl (Or.inl rfl) (Or.inr rfl)) cM))
   case t=>exact fun cl C s₃ H₃ fp=>eN (aZ cT (pv 0) (pv 2) (aX _))
   case e=>exact fun cl C s₃ H₃ fp=>pv 0
  case c2 =>
   refine' cZ (g:=gTup K 2 (cS (bG 0) (cS (bG 1) gNil))) (NB:=["one", "other", "house"]) (src:=[none,none,some 2]) (bZ (by kernel_rfl)) rfl (cF (pv 1)) ?g ?t ?e
   case g=>exact fun cl C s₃ H₃ fp=>dE (n:=2) rfl (bD (aM (i:=0) nb3 rfl (Or.inl rfl) (Or.inr rfl)) (bD (aM (i:=1) nb3 rfl (Or.inl rfl) (Or.inr rfl)) cM))
   case t=>exact fun cl C s₃ H₃ fp=>eN (aZ cT (pv 1) (pv 2) (aX _))
   case e=>exact fun cl C s₃ H₃ fp=>pv 1
  refine ⟨_,rfl,n,rfl,by omega,by omega,cW (n:=n) (lo:=0) (fun i σ H2=>Same H H2∧∃ a b c,σ = [some (.int n),some (.ref l),a,b,c]) ⟨Same.refl _,none,none,none,rfl⟩ ?_ ?_⟩
  ·rintro i σ H2 hi ⟨sm,a,b,c,rfl⟩
   have T2:=T.same sm
   refine ⟨_,rfl,l,rfl,⟨_,SqL.of T2.at_⟩,fun D hD=>lS (fun σ=>∃ a b,σ = [a,b,some (.int (0 + (i : Int)))]) (·.1) (·.1) (0 + (i : Int)) hD T2.at_ T2.po (by omega) ⟨_,_,rfl⟩ ?_ ?_⟩
   ·rintro z σ H3 Kt Kf hj ⟨x,y,rfl⟩ ha kt kf
    refine ⟨z.1,_,rfl,SqT.of ha,rfl,_,_,rfl,_,_,rfl,rfl,?_⟩
    refine ⟨_,rfl,_,rfl,rfl,_,rfl,?_⟩
    refine ite2 (fun e=>?_) (fun e=>?_)
    ·exact ⟨_,rfl,kt _ ⟨_,_,rfl⟩ (by simpa using e)⟩
    ·exact kf _ ⟨_,_,rfl⟩ (by simpa using e)
   ·refine ⟨D,_,rfl,.inl (SqL.of aB),?_⟩
    have sm2:=dL (o:=.lst (IV (((zp zs).filter fun y=>decide (y.1 = 0 + (i : Int))).map (·.1)))) (sm.trans (Same.refl _)) (H:=H) (by cases z : H D with | none=>rfl | some o=>rw [sm _ _ z] at hD; cases hD)
    have T3:=T.same sm2
    refine ⟨_,rfl,l,rfl,⟨_,SqL.of T3.at_⟩,fun D' hD'=>lS (fun σ=>∃ a b,σ = [a,b,some (.int (0 + (i : Int)))]) (·.2) (·.2) (0 + (i : Int)) hD' T3.at_ T3.po (by omega) ⟨_,_,rfl⟩ ?_ ?_⟩
    ·rintro z σ H3 Kt Kf hj ⟨x,y,rfl⟩ ha kt kf
     refine ⟨z.1,_,rfl,SqT.of ha,rfl,_,_,rfl,_,_,rfl,rfl,?_⟩
     refine ⟨_,rfl,_,rfl,rfl,_,rfl,?_⟩
     refine ite2 (fun e=>?_) (fun e=>?_)
     ·exact ⟨_,rfl,kt _ ⟨_,_,rfl⟩ (by simpa using e)⟩
     ·exact kf _ ⟨_,_,rfl⟩ (by simpa using e)
    ·refine ⟨D',_,rfl,.inl (SqL.of aB),?_⟩
     rw [Int.zero_add] at *
     have q1 : (IV (((zp zs).filter fun y=>decide (y.1 = (i : Int))).map (·.1))).length = (IV (((zp zs).filter fun y=>decide (y.2 = (i : Int))).map (·.2))).length:=by
      rw [List.length_map,List.length_map,List.length_map,List.length_map]; exact fi.bal i
     have q2 : (IV (((zp zs).filter fun y=>decide (y.1 = (i : Int))).map (·.1))).length ≤ 8:=by
      rw [List.length_map,List.length_map]; exact fi.most i
     refine ⟨_,rfl,_,rfl,rfl,_,rfl,?_⟩
     rw [← q1]
     rw [show (!decide (V.int (((IV (((zp zs).filter fun y=>decide (y.1 = (i : Int))).map (·.1))).length : Nat) : Int) = V.int (((IV (((zp zs).filter fun y=>decide (y.1 = (i : Int))).map (·.1))).length : Nat) : Int))) = false by simp]
     refine iteF ?_
     refine ⟨_,rfl,_,_,rfl,rfl,_,rfl,?_⟩
     rw [show decide ((((IV (((zp zs).filter fun y=>decide (y.1 = (i : Int))).map (·.1))).length : Nat) : Int) > 8) = false by rw [decide_eq_false_iff_not]; omega]
     exact iteF ⟨sm2.trans (aG hD'),_,_,_,rfl⟩
  ·rintro σ H2 ⟨sm,a,b,c,rfl⟩
   exact k H2 sm
end
end K12
namespace K12
open PySem L2 NetM
def lamE : Expr:=match (cC oQ).getD 1 (.Pass ⟨0,0,0,0⟩) with
 | .Return (some (.Call _ _ (k :: _) _)) _=>k.value
 | _=>.Name "x" ⟨0,0,0,0⟩
def aCg : Arguments:=match lamE with
 | .Lambda a _ _ _=>a
 | _=>{ posonlyargs:=[],args:=[],vararg:=none,kwonlyargs:=[],kw_defaults:=[],kwarg:=none,defaults:=[] }
def aCh : Expr:=match lamE with
 | .Lambda _ b _ _=>b
 | e=>e
def aD0 : Scope:=match lamE with
 | .Lambda _ _ s _=>s
 | _=>{ kind:=.function,names:=[],isGenerator:=false,isCoroutine:=false }
def aDh : Pos:=match lamE with
 | .Lambda _ _ _ p=>p
 | _=>⟨0,0,0,0⟩
def aBx : Str:=("houses_out" : Str) ++ ".<locals>." ++ "<lambda>"
abbrev Tab (Pt : Addr) (H : Hp) : Prop:=wZ aDh aBx Pt H
def oR (Pt : Addr) (H H' : Hp) : Prop:=∀ b o,H b = some o→b ≠ Pt→H' b = some o
theorem oR.of {Pt : Addr} {H H' : Hp} (a : Same H H') : oR Pt H H':=fun c o h _=>a c o h
theorem Tab.not {Pt : Addr} {H : Hp} (t : Tab Pt H) {b : Addr} {o : HO} (h : H b = some o) (n : ∀ ps,o ≠ .tbl ps) : b ≠ Pt:=by
 rintro rfl
 rcases t with z | ⟨c,z,_⟩ <;> · rw [h] at z; exact n _ (Option.some.inj z)
theorem Tab.same {Pt : Addr} {H H' : Hp} (t : Tab Pt H) (e : Same H H') : Tab Pt H':=by
 rcases t with z | ⟨c,z,y⟩
 ·exact .inl (e _ _ z)
 ·exact .inr ⟨c,e _ _ z,e _ _ y⟩
theorem aCi {n a b h : Int} (hn : 0 < n) (a0 : 0 ≤ a) (a1 : a < n) (b0 : 0 ≤ b) (b1 : b < n) (e : (a - h) % n = (b - h) % n) : a = b:=by
 have h1:=Int.emod_emod_of_dvd (a - h) (Int.dvd_refl n)
 have q : (a - b) % n = 0:=by
  have : a - b = (a - h) - (b - h):=by omega
  rw [this,Int.sub_emod,e,Int.sub_self,Int.zero_emod]
 obtain ⟨c,hc⟩:=Int.dvd_of_emod_eq_zero q
 have c0 : c = 0:=by
  rcases Int.lt_trichotomy c 0 with z | z | z
  ·have : n * c ≤ n * (-1):=Int.mul_le_mul_of_nonneg_left (by omega) (by omega)
   omega
  ·exact z
  ·have : n * 1 ≤ n * c:=Int.mul_le_mul_of_nonneg_left (by omega) (by omega)
   omega
 rw [c0] at hc
 omega
theorem rQ {ts : Ts} {h : Int} (nd : ts.Nodup) : ((ts.filter fun y=>decide (y.1 = h)).map (·.2)).Nodup:=by
 refine L2.lO (nd.filter _) fun x hx y hy e=>?_
 have a:=(List.mem_filter.mp hx).2
 have b:=(List.mem_filter.mp hy).2
 simp at a b
 exact Prod.ext (a.trans b.symm) e
theorem aAh {n : Nat} {ts : Ts} {h : Nat} (F : Fine n ts) (hh : h < n) {out : List Int} (ko : KOut (h : Int) (n : Int) ((ts.filter fun y=>decide (y.1 = (h : Int))).map (·.2)) out) : out.map V.int = NV (outN n ts h):=by
 obtain ⟨ps,hp,rfl,hs⟩:=ko
 have hout : (ps.map (·.2)).Perm ((ts.filter fun y=>decide (y.1 = (h : Int))).map (·.2)):=by
  have:=hp.map (·.2)
  rw [List.map_map] at this
  refine this.trans (List.Perm.of_eq ?_)
  conv=>rhs; rw [← List.map_id ((ts.filter fun y=>decide (y.1 = (h : Int))).map (·.2))]
  rfl
 have mem : ∀ z,z∈ps.map (·.2)↔((h : Int),z)∈ts:=fun z=>by
  rw [hout.mem_iff,List.mem_map]
  constructor
  ·rintro ⟨y,hy,rfl⟩
   obtain ⟨y1,y2⟩:=List.mem_filter.mp hy
   have : y.1 = (h : Int):=by simpa using y2
   rw [← this]; exact y1
  ·intro hz
   exact ⟨_,List.mem_filter.mpr ⟨hz,by simp⟩,rfl⟩
 have nd : (ps.map (·.2)).Nodup:=hout.nodup_iff.mpr (rQ F.nd)
 have key : ∀ q∈ps,q.1 = (q.2 - (h : Int)) % (n : Int):=fun q hq=>by
  obtain ⟨z,_,e⟩:=List.mem_map.mp (hp.mem_iff.mp hq)
  rw [← e]
 have hn : (0 : Int) < n:=by have:=F.n1; omega
 have sorted : (ps.map (·.2)).Pairwise fun x y=>(x - (h : Int)) % (n : Int) < (y - (h : Int)) % (n : Int):=by
  refine List.pairwise_map.mpr ?_
  have nd2:=List.pairwise_map.mp nd
  refine (hs.and nd2).imp_of_mem fun {x y} hx hy hxy=>?_
  have l1:=hxy.1
  rw [key x hx,key y hy] at l1
  have ax:=F.rg _ ((mem x.2).mp (List.mem_map.mpr ⟨x,hx,rfl⟩))
  have ay:=F.rg _ ((mem y.2).mp (List.mem_map.mpr ⟨y,hy,rfl⟩))
  have ne : (x.2 - (h : Int)) % (n : Int) ≠ (y.2 - (h : Int)) % (n : Int):=fun z=>hxy.2 (aCi hn ax.2.1 ax.2.2 ay.2.1 ay.2.2 z)
  omega
 have e : ps.map (·.2) = (outN n ts h).map fun (o : Nat)=>(o : Int):=by
  refine mX (k:=fun z=>(z - (h : Int)) % (n : Int)) sorted ?_ fun z=>?_
  ·refine List.pairwise_map.mpr ?_
   exact vE hh
  ·rw [mem,List.mem_map]
   constructor
   ·intro hz
    have r:=F.rg _ hz
    refine ⟨z.toNat,(jG F hh).mpr ?_,by omega⟩
    show (((h : Nat) : Int),((z.toNat : Nat) : Int))∈ts
    rw [show ((z.toNat : Nat) : Int) = z by omega]; exact hz
   ·rintro ⟨o,ho,rfl⟩
    exact (jG F hh).mp ho
 rw [e,List.map_map]
 rfl
section
variable {P : Program} {w : World} {K : PySem.W.Frag} {mg : Str→Option Value} {base : Heap}
theorem aAi : aY ["many", "ties", "house", "others"] ["many", "ties", "house"] (aI oQ):=⟨rfl,rfl,rfl,by decide +kernel,rfl,by decide +kernel,by decide +kernel⟩
def oT (Pt : Addr) : Sp:=fun vs H Q _=>∃ (n : Nat) (l : Addr) (h : Nat) (zs : Zs),vs = [.int n,.ref l,.int h]∧h < n∧dI H l n zs∧Tab Pt H ∧
 ∀ (r : Addr) (H' : Hp),Tab Pt H'→oR Pt H H'→H r = none→H' r = some (.lst (NV (outN n (zp zs) h)))→Q (.ref r) H'
theorem aCj {f c Pt : Addr} {fd : FuncData} (F : FunC K "houses_out" "houses_out" oQ f fd c) (B : Bl mg) (kb : K.In base) (hb : BmOk mg base) (hc : PySem.W.codeHdIn K c Pt = true) :
  FnOk P w K mg base CX0 1 f fd ["many", "ties", "house"] (oT Pt):=by
 refine F.ok aAi (fun vs H Q E h=>?_) (fun A outer s H vs Q E hr h=>?_)
 ·obtain ⟨n,l,h,zs,rfl,_⟩:=h
  rfl
 ·obtain ⟨n,l,h,zs,rfl,hh,T,tb,k⟩:=h
  have fi:=T.fine
  have n1:=fi.n1
  have hlen : zs.length ≤ 256:=by have:=fi.len; rw [cL] at this; exact this
  have LS : LamS (cxOf CX0 P w K mg base ["many", "ties", "house", "others"] "houses_out" (aI oQ) f (.ref c) A outer s H E).nox aBx aCg aCh aD0 "other" "house" "many" 2 0 :=
   ⟨⟨_,_,_,_,_,rfl⟩,fun _ _ _ _ _=>rfl,rfl,rfl,rfl,rfl,rfl,rfl,rfl,by decide +kernel,by decide +kernel,by decide +kernel,rfl,rfl,rfl,by decide,⟨by decide,by decide⟩,⟨by decide,by decide⟩⟩
  refine' ⟨_,aH (eB (i:=3) (g:=gTup K 2 (cS (bG 0) (cS (bG 1) gNil))) (NB:=["one", "other", "house"]) (src:=[none,none,some 2]) (bZ (by kernel_rfl)) rfl (cF (pv 1)) ?g ?t ?e aAi.nd rfl rfl rfl)
   (aK (bB (zL (xA LS hr) rfl B.sorted PyProof.Rows.boot_sorted (aA (pv 3) aE) (aBM (aC2 (NB:=["other", "house", "many"]) (src:=[none,some 2,some 0]) (aBW kb hb hc) (bZ (by kernel_rfl))) aCV)))),?_⟩
  case g=>exact fun cl C s₃ H₃ fp=>dE (n:=2) rfl (bD (aM (i:=0) nb3 rfl (Or.inl rfl) (Or.inr rfl)) (bD (aM (i:=1) nb3 rfl (Or.inl rfl) (Or.inr rfl)) cM))
  case t=>exact fun cl C s₃ H₃ fp=>eN (aZ cT (pv 0) (pv 2) (aX _))
  case e=>exact fun cl C s₃ H₃ fp=>pv 1
  refine ⟨_,rfl,l,rfl,⟨_,SqL.of T.at_⟩,fun D hD=>lS (fun σ=>∃ a b,σ = [a,b,some (.int (h : Int))]) (·.1) (·.2) (h : Int) hD T.at_ T.po (by omega) ⟨_,_,rfl⟩ ?_ ?_⟩
  ·rintro z σ H3 Kt Kf hj ⟨x,y,rfl⟩ ha kt kf
   refine ⟨z.1,_,rfl,SqT.of ha,rfl,_,_,rfl,_,_,rfl,rfl,?_⟩
   refine ⟨_,rfl,_,rfl,rfl,_,rfl,?_⟩
   refine ite2 (fun e=>?_) (fun e=>?_)
   ·exact ⟨_,rfl,kt _ ⟨_,_,rfl⟩ (by simpa using e)⟩
   ·exact kf _ ⟨_,_,rfl⟩ (by simpa using e)
  ·generalize hos : ((zp zs).filter fun y=>decide (y.1 = (h : Int))).map (·.2) = os
   have hol : os.length ≤ 8:=by rw [← hos,List.length_map]; exact fi.most h
   have sm : Same H (upd H D (.lst (IV os))):=aG hD
   refine ⟨_,rfl,tb.same sm,fun f' c' H2 t2' old hc' hf'=>?_⟩
   have t2 : Tab Pt H2:=t2'
   have hD2 : H2 D = some (.lst (IV os)):=old _ _ aB ((tb.same sm).not aB (by intro ps z; cases z))
   refine ⟨D,f',c',os,h,n,rfl,rfl,SqL.of hD2,(by omega),hf',hc',rfl,rfl,by omega,fun r out hr' ko=>?_⟩
   rw [← hos] at ko
   rw [aAh fi hh ko]
   have sm2 : Same H2 (upd H2 r (.lst (NV (outN n (zp zs) h)))):=aG hr'
   refine k r _ (t2.same sm2) (fun b o e hb=>sm2 _ _ (old b o (sm _ _ e) hb)) ?_ aB
   cases z : H r with
   | none=>rfl
   | some o =>
    by_cases hP : r = Pt
    ·rcases t2 with q | ⟨_,q,_⟩ <;> · rw [← hP,hr'] at q; cases q
    ·rw [old r o (sm _ _ z) hP] at hr'; cases hr'
end
end K12
namespace K12
open PySem L2 NetM
abbrev xK : Stmt:=top 26
abbrev tR : Stmt:=top 27
def rowV (n : Nat) (R : List Nat) (f : Nat→Nat) : List V:=(List.range n).map fun x=>if x∈R then V.int ((f x : Nat) : Int) else .non
theorem jJ {n : Nat} {R : List Nat} {f : Nat→Nat} : (rowV n R f).length = n:=by unfold rowV; rw [List.length_map,List.length_range]
theorem jK {n : Nat} {R : List Nat} {f : Nat→Nat} {x : Nat} (h : x < n) : (rowV n R f)[x]? = some (if x∈R then V.int ((f x : Nat) : Int) else .non):=by
 unfold rowV
 rw [List.getElem?_map,List.getElem?_range h]
 rfl
theorem xL {n s : Nat} (hs : s < n) : (List.replicate n V.non).set s (V.int 0) = rowV n [s] (fun _=>0):=by
 apply List.ext_getElem?
 intro x
 by_cases hx : x < n
 ·rw [jK hx]
  by_cases e : x = s
  ·subst e
   rw [List.getElem?_set_self (by rw [List.length_replicate]; exact hx),if_pos (by simp)]
   rfl
  ·rw [List.getElem?_set_ne (fun z=>e z.symm),List.getElem?_replicate,if_pos hx,if_neg (by simp [e])]
 ·rw [List.getElem?_eq_none (by rw [List.length_set,List.length_replicate]; omega),List.getElem?_eq_none (by rw [jJ]; omega)]
theorem aA1 {n v k : Nat} {R : List Nat} {f : Nat→Nat} (hv : v < n) : (rowV n R f).set v (V.int ((k : Nat) : Int)) = rowV n (R ++ [v]) (put f v k):=by
 apply List.ext_getElem?
 intro x
 by_cases hx : x < n
 ·rw [jK hx]
  by_cases e : x = v
  ·subst e
   rw [List.getElem?_set_self (by rw [jJ]; exact hx),if_pos (by simp),fS]
  ·rw [List.getElem?_set_ne (fun z=>e z.symm),jK hx,dG e]
   by_cases h : x∈R
   ·rw [if_pos h,if_pos (List.mem_append_left _ h)]
   ·rw [if_neg h,if_neg (fun z=>(List.mem_append.mp z).elim h fun z=>e (by simpa using z))]
 ·rw [List.getElem?_eq_none (by rw [List.length_set,jJ]; omega),List.getElem?_eq_none (by rw [jJ]; omega)]
def aBy (σ : St) : Nat:=match σ[4]? with
 | some (some (V.int z))=>z.toNat
 | _=>0
theorem nbO : (["others"] : List Str).Nodup:=by decide +kernel
def bC (H : Hp) (ol : Addr) (n : Nat) (ts : Ts) : Prop:=∃ bs : List Addr,H ol = some (.lst (bs.map V.ref))∧Holds H bs n (fun h=>.lst (NV (outN n ts h)))
theorem bC.same {H H' : Hp} {ol : Addr} {n : Nat} {ts : Ts} (x : bC H ol n ts) (e : Same H H') : bC H' ol n ts:=let ⟨bs,a,b⟩:=x; ⟨bs,e _ _ a,b.mono fun _ _ z=>e _ _ z⟩
theorem oU {as : List Addr} {i : Nat} {x : V} (h : (as.map V.ref)[i]? = some x) : i < as.length∧x = .ref (as.getD i 0):=by
 rw [List.getElem?_map] at h
 cases e : as[i]? with
 | none=>rw [e] at h; cases h
 | some a =>
  rw [e] at h
  refine ⟨(List.getElem?_eq_some_iff.mp e).1,?_⟩
  rw [List.getD_eq_getElem?_getD,e]
  exact (Option.some.inj h).symm
section
variable {P : Program} {w : World} {K : PySem.W.Frag} {mg : Str→Option Value} {base : Heap}
theorem jL : aY ["out_lists", "start", "distances", "reached", "at", "house", "other"] ["out_lists", "start"] (aI xK):=⟨rfl,rfl,rfl,by decide +kernel,rfl,by decide +kernel,by decide +kernel⟩
def oV : Sp:=fun vs H Q _=>∃ (ol : Addr) (n s : Nat) (ts : Ts),vs = [.ref ol,.int s]∧Fine n ts∧s < n∧bC H ol n ts ∧
 ∀ (r : Addr) (H' : Hp),Same H H'→H r = none→H' r = some (.lst (NV ((List.range n).map (far ts s))))→Q (.ref r) H'
theorem aCk {f : Addr} {fd : FuncData} (F : Fun K "distances_from" "distances_from" xK f fd) (B : Bl mg) : FnOk P w K mg base CX0 1 f fd ["out_lists", "start"] oV:=by
 refine F.ok jL (fun vs H Q E h=>?_) (fun cdv A outer s H vs Q E hr h=>?_)
 ·obtain ⟨ol,n,s,ts,rfl,_⟩:=h
  rfl
 ·obtain ⟨ol,n,st,ts,rfl,fi,hs,O,k⟩:=h
  have n1:=fi.n1
  have n2:=fi.n2
  refine' ⟨_,aH (eB (i:=2) (g:=bG 0) (NB:=["others"]) (src:=[none]) (bZ (by kernel_rfl)) rfl (cF (pv 0)) ?g ?t ?e jL.nd rfl rfl rfl)
   (aH (fH aJ (jA (pv 2) (pv 1) fQ))
   (aH (aV (i:=3) jL.nd rfl (Or.inl rfl) (cG (aA (pv 1) aE)))
   (aH (aV (i:=4) jL.nd rfl (Or.inl rfl) aJ)
   (aH (sG PassesOwn.never (aZ iG (pv 4) (aQ aT (by rfl) B.len PySem.boot_len (aA (pv 3) aE)) (aX _))
    (aH (aV (i:=5) jL.nd rfl (Or.inl rfl) (aO aR (pv 3) (pv 4) (fun _ _=>rfl)))
    (aH (bW PassesOwn.never rfl (cF (aO aR (pv 0) (pv 5) (fun _ _=>rfl))) (aM (i:=6) jL.nd rfl (Or.inl rfl))
     (aK (bN (aZ aCU (aO aR (pv 2) (pv 6) (fun _ _=>rfl)) kD (aX _))
      (aH (fH (bA bX (aO aR (pv 2) (pv 5) (fun _ _=>rfl)) aJ) (jA (pv 2) (pv 6) fQ))
      (aK (bR (eA PySem.F.plainAttrs_list PySem.F.slot_list_append PySem.F.type_list_append dD (pv 3) (aA (pv 6) aE))))) bE)))
    (aK (aCS (i:=4) jL.nd rfl (Or.inl rfl) aJ aCT)))))
   (aK (bB (pv 2))))))),?_⟩
  case g=>exact fun cl C s₃ H₃ fp=>aM (i:=0) nbO rfl (Or.inl rfl) (Or.inr rfl)
  case t=>exact fun cl C s₃ H₃ fp=>dU
  case e=>exact fun cl C s₃ H₃ fp=>kD
  obtain ⟨bs,hol,hbl,hbs⟩:=id O
  refine ⟨_,rfl,ol,rfl,⟨_,SqL.of hol⟩,fun D hD=>?_⟩
  have nol : ol ≠ D:=aF hol hD
  refine dZ (xs:=bs.map V.ref) (fun i ys σ H2=>(∃ a,σ = [a])∧ys = List.replicate i V.non∧H2 = upd H D (.lst ys)) ⟨⟨_,rfl⟩,rfl,rfl⟩ (fun i ys σ H2 _ ⟨_,_,e⟩=>by rw [e]; exact SqL.of (by rw [aD nol]; exact hol)) ?_ ?_
  ·rintro i x ys σ H2 Kt Kf hx ⟨⟨a,rfl⟩,rfl,rfl⟩ kt kf
   have hi:=(oU hx).1
   refine kt _ _ _ aB ?_ ⟨⟨_,rfl⟩,?_,by rw [dR]⟩
   ·rw [List.length_replicate]
    exact Nat.lt_of_lt_of_le hi (by rw [hbl]; exact Nat.le_trans n2 (by decide))
   ·rw [List.replicate_succ']
  ·rintro ys σ H2 ⟨_,rfl,rfl⟩
   rw [List.length_map,hbl]
   refine ⟨_,rfl,_,rfl,D,_,st,st,rfl,rfl,aB,by rw [List.length_replicate]; exact iT hs,?_⟩
   rw [dR,xL hs]
   refine ⟨_,rfl,by show 1 ≤ sizeLine; decide,fun R hR=>?_⟩
   have nDR : D ≠ R:=aF (H:=upd H D (.lst (rowV n [st] (fun _=>0)))) aB hR
   have hR0 : H R = none:=by rw [aD nDR.symm] at hR; exact hR
   refine sI (fun σ H2=>∃ (i : Nat) (Rs : List Nat) (f : Nat→Nat),i ≤ Rs.length∧Bfs n ts st i Rs f∧(∃ a b,σ = [some (.ref ol),some (.int st),some (.ref D),some (.ref R),some (.int (i : Int)),a,b])∧Same H H2∧H2 D = some (.lst (rowV n Rs f))∧H2 R = some (.lst (NV Rs)))
    (fun σ _=>n - aBy σ) ⟨0,[st],fun _=>0,Nat.zero_le _,Bfs.start hs,⟨none,none,rfl⟩,dL (aG hD) hR0,?_,aB⟩ ?_ ?_
   ·rw [aD nDR,aB]
   ·rintro σ H2 ⟨i,Rs,f,hi,Bf,⟨a,b,rfl⟩,sm,hD2,hR2⟩
    have hRn : Rs.length ≤ n:=dX Bf.nd Bf.lt
    refine ⟨_,rfl,_,rfl,R,_,rfl,.inl (SqL.of hR2),_,_,rfl,rfl,_,rfl,?_⟩
    rw [tP]
    by_cases hin : i < Rs.length
    ·rw [show decide ((i : Int) < ((Rs.length : Nat) : Int)) = true by simp; omega]
     refine iteT ?_
     have hu : Rs[i]? = some Rs[i]:=List.getElem?_eq_getElem hin
     generalize Rs[i] = u at hu
     have hun : u < n:=Bf.lt u (List.mem_of_getElem? hu)
     have huR : (NV Rs)[i]? = some (.int (u : Int)):=by rw [List.getElem?_map,hu]; rfl
     refine ⟨_,rfl,_,rfl,R,_,_,_,rfl,rfl,SqL.of hR2,bQ huR,?_⟩
     have hb1 : (bs.map V.ref)[u]? = some (.ref (bs.getD u 0)):=by
      rw [List.getElem?_map,List.getD_eq_getElem?_getD,List.getElem?_eq_getElem (by rw [hbl]; exact hun)]; rfl
     have hb2:=sm _ _ (hbs _ hun)
     refine ⟨_,rfl,_,rfl,ol,_,_,_,rfl,rfl,SqL.of (sm _ _ hol),bQ hb1,_,rfl,⟨_,SqL.of hb2⟩,?_⟩
     have nbD : bs.getD u 0 ≠ D:=aF (hbs _ hun) hD
     have nbR : bs.getD u 0 ≠ R:=aF (hbs _ hun) hR0
     refine fP (K:=K) (xs:=NV (outN n ts u)) (fun j σ H3=>∃ (Rs' : List Nat) (f' : Nat→Nat),Bfs n ts st i Rs' f'∧Rs'[i]? = some u∧(∀ v∈(outN n ts u).take j,v∈Rs'∧f' v ≤ f' u + 1) ∧
      (∃ b,σ = [some (.ref ol),some (.int st),some (.ref D),some (.ref R),some (.int (i : Int)),some (.int (u : Int)),b])∧Same H H3∧H3 D = some (.lst (rowV n Rs' f'))∧H3 R = some (.lst (NV Rs')))
      ⟨Rs,f,Bf,hu,fun v hv=>by simp at hv,⟨_,rfl⟩,sm,hD2,hR2⟩ (fun j σ H3 _ ⟨_,_,_,_,_,_,sm3,_⟩=>SqL.of (sm3 _ _ (hbs _ hun))) ?_ ?_
     ·rintro j x σ H3 hx ⟨Rs',f',Bf',hu',dn,⟨b',rfl⟩,sm3,hD3,hR3⟩
      rw [List.getElem?_map] at hx
      cases hv : (outN n ts u)[j]? with
      | none=>rw [hv] at hx; cases hx
      | some v =>
       rw [hv] at hx
       obtain rfl : V.int ((v : Nat) : Int) = x:=Option.some.inj hx
       have hvm : v∈outN n ts u:=List.mem_of_getElem? hv
       have hvn : v < n:=aB8 fi hun hvm
       have tuv : T ts u v:=(jG fi hun).mp hvm
       have tk : (outN n ts u).take (j + 1) = (outN n ts u).take j ++ [v]:=by rw [List.take_add_one,hv]; rfl
       have hun' : u∈Rs':=List.mem_of_getElem? hu'
       refine ⟨_,rfl,_,rfl,D,_,_,_,rfl,rfl,SqL.of hD3,bQ (jK hvn),rfl,_,rfl,?_⟩
       by_cases hvR : v∈Rs'
       ·rw [if_pos hvR]
        refine iteF ⟨Rs',f',Bf',hu',fun x hx=>?_,⟨_,rfl⟩,sm3,hD3,hR3⟩
        rw [tk] at hx
        rcases List.mem_append.mp hx with z | z
        ·exact dn x z
        ·simp at z; subst z; exact ⟨hvR,Bf'.bd u hu' _ hvR⟩
       ·rw [if_neg hvR]
        refine iteT ?_
        have hg2 : (rowV n Rs' f')[u]? = some (.int ((f' u : Nat) : Int)):=by rw [jK hun,if_pos hun']
        refine ⟨_,rfl,_,rfl,D,_,_,_,rfl,rfl,SqL.of hD3,bQ hg2,_,_,rfl,rfl,_,rfl,_,rfl,D,_,_,_,rfl,rfl,hD3,by rw [jJ]; exact iT hvn,?_⟩
        have e1 : (rowV n Rs' f').set v (.int (((f' u : Nat) : Int) + 1)) = rowV n (Rs' ++ [v]) (put f' v (f' u + 1)):=by
         rw [show ((f' u : Nat) : Int) + 1 = ((f' u + 1 : Nat) : Int) by omega,aA1 hvn]
        rw [e1]
        have hR4 : (upd H3 D (.lst (rowV n (Rs' ++ [v]) (put f' v (f' u + 1))))) R = some (.lst (NV Rs')):=by rw [aD nDR.symm]; exact hR3
        have hlen' : Rs'.length ≤ n:=dX Bf'.nd Bf'.lt
        refine ⟨_,rfl,.inl ⟨rfl,_,SqL.of hR4⟩,_,rfl,R,_,_,rfl,rfl,hR4,by rw [tP]; exact Nat.lt_of_lt_of_le (show Rs'.length < 33 by omega) (by decide),?_⟩
        have hi' : i < Rs'.length:=(List.getElem?_eq_some_iff.mp hu').1
        have nuv : u ≠ v:=fun z=>hvR (z ▸ hun')
        refine ⟨Rs' ++ [v],put f' v (f' u + 1),Bf'.add hu' hvn tuv hvR,by rw [List.getElem?_append_left hi']; exact hu',fun x hx=>?_,⟨_,rfl⟩,dL (dL sm3 hD) hR0,?_,?_⟩
        ·rw [dG nuv]
         rw [tk] at hx
         rcases List.mem_append.mp hx with z | z
         ·obtain ⟨q1,q2⟩:=dn x z
          exact ⟨List.mem_append_left _ q1,by rw [dG (fun (z : x = v)=>hvR (z ▸ q1))]; exact q2⟩
         ·simp at z; subst z
          exact ⟨by simp,by rw [fS]; exact Nat.le_refl _⟩
        ·rw [aD nDR,aB]
        ·rw [aB]; show _ = some (HO.lst (NV (Rs' ++ [v]))); rw [show NV (Rs' ++ [v]) = NV Rs' ++ [.int (v : Int)] by unfold NV; rw [List.map_append]; rfl]
     ·rintro σ H3 ⟨Rs',f',Bf',hu',dn,⟨b',rfl⟩,sm3,hD3,hR3⟩
      rw [tP,List.take_length] at dn
      have hi' : i < Rs'.length:=(List.getElem?_eq_some_iff.mp hu').1
      have hlen' : Rs'.length ≤ n:=dX Bf'.nd Bf'.lt
      refine ⟨_,rfl,_,_,rfl,rfl,⟨⟨i + 1,Rs',f',hi',Bf'.next hu' (fun v t=>dn v ((jG fi hun).mpr t)),⟨_,_,rfl⟩,sm3,hD3,hR3⟩,?_⟩⟩
      show n - ((i : Int) + 1).toNat < n - (i : Int).toNat
      omega
    ·rw [show decide ((i : Int) < ((Rs.length : Nat) : Int)) = false by rw [decide_eq_false_iff_not]; omega]
     have e : rowV n Rs f = NV ((List.range n).map (far ts st)):=by
      unfold rowV NV
      rw [List.map_map]
      refine List.map_congr_left fun x hx=>?_
      obtain ⟨q1,q2⟩:=Bf.done fi (by omega) (List.mem_range.mp hx)
      rw [if_pos q1,q2]; rfl
     rw [e] at hD2
     refine iteF ⟨_,rfl,k D H2 sm hD hD2⟩
   ·rintro σ H2 Q1 Q2 imp ⟨v,e1,v2,e2,p,ys,e3,e4,i1,i2,e5,e6,kk,e7,q⟩
    exact ⟨v,e1,v2,e2,p,ys,e3,e4,i1,i2,e5,e6,kk,e7,imp _ _ q⟩
end
end K12
namespace K12
open PySem L2 NetM
theorem aD1 : (["row"] : List Str).Nodup:=by decide +kernel
section
variable {P : Program} {w : World} {K : PySem.W.Frag} {mg : Str→Option Value} {base : Heap}
theorem aCl : aY ["distances"] ["distances"] (aI tR):=⟨rfl,rfl,rfl,by decide +kernel,rfl,by decide +kernel,by decide +kernel⟩
def qB : Sp:=fun vs H Q _=>∃ (l : Addr) (ds : List Addr) (n : Nat) (o : Nat→List V),vs = [.ref l]∧H l = some (.lst (ds.map V.ref))∧n ≤ 32∧Holds H ds n (fun j=>.lst (o j))∧(∀ j,j < n→∀ x∈o j,∃ i,x = .int i)∧∀ H',Same H H'→Q .non H'
theorem aA2 {f : Addr} {fd : FuncData} (F : Fun K "check_reached" "check_reached" tR f fd) (B : Bl mg) : FnOk P w K mg base CX0 1 f fd ["distances"] qB:=by
 refine F.ok aCl (fun vs H Q E h=>?_) (fun cdv A outer s H vs Q E hr h=>?_)
 ·obtain ⟨l,ds,n,o,rfl,_⟩:=h
  rfl
 ·obtain ⟨l,ds,n,o,rfl,hl,n2,hh,hx,k⟩:=h
  refine' ⟨_,aK (bN (cV (aQ (zI rfl) (by rfl) B.any PyProof.Rows.boot_any (aA ?c aE))) cK bE),?_⟩
  case c =>
   refine' cZ (g:=bG 0) (te:=tOp (rIn K false) (tC .non) (tVar 0)) (NB:=["row"]) (src:=[none]) (bZ (by kernel_rfl)) rfl (cF (pv 0)) ?g ?t ?e
   case g=>exact fun cl C s₃ H₃ fp=>aM (i:=0) aD1 rfl (Or.inl rfl) (Or.inr rfl)
   case t=>exact fun cl C s₃ H₃ fp=>dU
   case e=>exact fun cl C s₃ H₃ fp=>cN lG kD (pv 0) rfl
  refine ⟨_,rfl,l,rfl,⟨_,SqL.of hl⟩,fun D hD=>?_⟩
  have nl : l ≠ D:=aF hl hD
  refine dZ (xs:=ds.map V.ref) (fun i ys σ H2=>(∃ a,σ = [a])∧ys = (List.replicate i false).map V.bl∧H2 = upd H D (.lst ys)) ⟨⟨_,rfl⟩,rfl,rfl⟩ (fun i ys σ H2 _ ⟨_,_,e⟩=>by rw [e]; exact SqL.of (by rw [aD nl]; exact hl)) ?_ ?_
  ·rintro i x ys σ H2 Kt Kf hxi ⟨⟨a,rfl⟩,rfl,rfl⟩ kt kf
   obtain ⟨hi,rfl⟩:=oU hxi
   rw [hh.1] at hi
   have hd:=hh.2 i hi
   have nd : ds.getD i 0 ≠ D:=aF hd hD
   have q1 : (o i).all dN = true:=List.all_eq_true.mpr fun x hx'=>by obtain ⟨z,rfl⟩:=hx i hi x hx'; rfl
   have q2 : inV .non (o i) = false:=by
    unfold inV
    rw [List.any_eq_false]
    intro x hx'
    obtain ⟨z,rfl⟩:=hx i hi x hx'
    exact fun z=>by cases z
   refine ⟨_,rfl,_,_,rfl,.inl (SqL.of (by rw [aD nd]; exact hd)),rfl,q1,?_⟩
   refine kt _ _ _ aB ?_ ⟨⟨_,rfl⟩,?_,by rw [dR]⟩
   ·rw [List.length_map,List.length_replicate]
    exact Nat.lt_of_lt_of_le hi (Nat.le_trans n2 (by decide))
   ·rw [List.replicate_succ',List.map_append,q2]; rfl
  ·rintro ys σ H2 ⟨_,rfl,rfl⟩
   refine ⟨D,_,rfl,SqL.of aB,_,rfl,?_⟩
   have e : (List.replicate (ds.map V.ref).length false).any id = false:=by
    rw [List.any_eq_false]; intro x hx'; rw [(List.mem_replicate.mp hx').2]; decide
   rw [e]
   exact iteF (k _ (aG hD))
end
end K12
namespace K12
open PySem L2 NetM
theorem nb2 : (["one", "other"] : List Str).Nodup:=by decide +kernel
theorem aD2 : (["house", "many", "ties"] : List Str).Nodup:=by decide +kernel
theorem nbHS : (["house", "self"] : List Str).Nodup:=by decide +kernel
def iL (p Pt : Addr) (H H' : Hp) : Prop:=∀ b o,H b = some o→b ≠ p→b ≠ Pt→H' b = some o
theorem dI.mono {p Pt : Addr} {H H' : Hp} {l : Addr} {n : Nat} {zs : Zs} {C dx : Addr} {fs : List (Str × V)} (h : dI H l n zs) (e : iL p Pt H H') (hp : H p = some (.ins C dx fs)) (tb : Tab Pt H) : dI H' l n zs :=
 ⟨h.fine,e _ _ h.at_ (bO h.at_ hp (by intro z; cases z)) (tb.not h.at_ (by intro ps z; cases z)),fun z hz=>e _ _ (h.po z hz) (bO (h.po z hz) hp (by intro z; cases z)) (tb.not (h.po z hz) (by intro ps z; cases z))⟩
theorem Tab.mono {p Pt C dx : Addr} {fs : List (Str × V)} {H H' : Hp} (t : Tab Pt H) (e : ∀ b o,H b = some o→b ≠ p→H' b = some o) (hp : H p = some (.ins C dx fs)) : Tab Pt H':=by
 rcases t with z | ⟨c,z,y⟩
 ·exact .inl (e _ _ z (bO z hp (by intro q; cases q)))
 ·exact .inr ⟨c,e _ _ z (bO z hp (by intro q; cases q)),e _ _ y (bO y hp (by intro q; cases q))⟩
theorem Tab.full {Pt : Addr} {H : Hp} (t : Tab Pt H) : H Pt ≠ none:=by
 rcases t with z | ⟨c,z,y⟩ <;> rw [z] <;> intro q <;> cases q
theorem iL.free {p Pt r : Addr} {H H' : Hp} (s : iL p Pt H H') (hp : H' p ≠ none) (tb : Tab Pt H') (h : H' r = none) : H r = none:=by
 cases z : H r with
 | none=>rfl
 | some o =>
  by_cases e1 : r = p
  ·subst e1; exact absurd h hp
  ·by_cases e2 : r = Pt
   ·subst e2; exact absurd h tb.full
   ·rw [s r o z e1 e2] at h; cases h
theorem aD3 {σ : St} {H : Hp} {k : List V→Hp→Prop} (h : k [] H) : tNil σ H k:=h
theorem mJ {H : Hp} {p : Addr} {o : HO} (h : H p = some o) : H p ≠ none:=by rw [h]; intro z; cases z
section
variable {P : Program} {w : World} {K : PySem.W.Frag} {mg : Str→Option Value} {base : Heap}
theorem aDi : aY ["self", "many", "ties"] ["self", "many", "ties"] (aI rV):=⟨rfl,rfl,rfl,by decide +kernel,rfl,by decide +kernel,by decide +kernel⟩
def oW (C Pt : Addr) : Sp:=fun vs H Q E=>∃ (p dx : Addr) (n : Nat) (l : Addr) (zs : Zs),vs = [.ref p,.int n,.ref l]∧H p = some (.ins C dx [])∧dI H l n zs∧Tab Pt H ∧
  ∀ H',dP C H' (fun a=>H a = none) p n (zp zs)→Tab Pt H'→iL p Pt H H'→Q .non H'
theorem aCm {f C Pt : Addr} {fd : FuncData} (F : Fun K "__init__" "Net.__init__" rV f fd) (T : NT K mg C) (B : Bl mg) (CT : Cal P w K mg base CX0 6 "check_ties" ["many", "ties"] iV) (CB : Cal P w K mg base CX0 1 "check_balance" ["many", "ties"] iV)
  (HO' : Cal P w K mg base CX0 1 "houses_out" ["many", "ties", "house"] (oT Pt)) (DF : Cal P w K mg base CX0 1 "distances_from" ["out_lists", "start"] oV) (CR : Cal P w K mg base CX0 1 "check_reached" ["distances"] qB) :
  FnOk P w K mg base CX0 7 f fd ["self", "many", "ties"] (oW C Pt):=by
 refine F.ok aDi (fun vs H Q E h=>?_) (fun cdv A outer s H vs Q E hr h=>?_)
 ·obtain ⟨p,dx,n,l,zs,rfl,_⟩:=h
  rfl
 ·have hr1 : Room 1 _:=hr.mono (by decide)
  refine' ⟨_,aH (bR (aS CT hr aU (aA (pv 1) (aA (pv 2) aE))))
   (aH (bR (aS CB hr1 aU (aA (pv 1) (aA (pv 2) aE))))
   (aH (nY (pv 0) (pv 1) rfl)
   (aH (nY (pv 0) (aQ xG (by rfl) B.sorted PyProof.Rows.boot_sorted (aA ?c1 aE)) rfl)
   (aH (nY (pv 0) ?c2 rfl)
   (aH (nY (pv 0) ?c3 rfl)
   (aK (bR (aS CR hr1 aU (aA (nX (pv 0) rfl) aE))))))))),?_⟩
  case c1 =>
   refine' cZ (g:=gTup K 2 (cS (bG 0) (cS (bG 1) gNil))) (te:=tTup (bV (tVar 0) (bV (tVar 1) tNil))) (NB:=["one", "other"]) (src:=[none,none]) (bZ (by kernel_rfl)) rfl (cF (pv 2)) ?g ?t ?e
   case g=>exact fun cl C s₃ H₃ fp=>dE (n:=2) rfl (bD (aM (i:=0) nb2 rfl (Or.inl rfl) (Or.inr rfl)) (bD (aM (i:=1) nb2 rfl (Or.inl rfl) (Or.inr rfl)) cM))
   case t=>exact fun cl C s₃ H₃ fp=>dU
   case e=>exact fun cl C s₃ H₃ fp=>fK (aA (pv 0) (aA (pv 1) aE))
  case c2 =>
   refine' cZ (g:=bG 0) (te:=mC (oT Pt) [] E0 (bV (tVar 1) (bV (tVar 2) (bV (tVar 0) tNil)))) (NB:=["house", "many", "ties"]) (src:=[none,some 1,some 2]) (bZ (by kernel_rfl)) rfl (cB rfl B.range (aA (pv 1) aE)) ?g ?t ?e
   case g=>exact fun cl C s₃ H₃ fp=>aM (i:=0) aD2 rfl (Or.inl rfl) (Or.inr rfl)
   case t=>exact fun cl C s₃ H₃ fp=>dU
   case e=>exact fun cl C s₃ H₃ fp=>aS HO' hr1 aU (aA (pv 1) (aA (pv 2) (aA (pv 0) aE)))
  case c3 =>
   refine' cZ (g:=bG 0) (te:=mC oV [] E0 (bV (tFld K (tVar 1) "out_lists") (bV (tVar 0) tNil))) (NB:=["house", "self"]) (src:=[none,some 0]) (bZ (by kernel_rfl)) rfl (cB rfl B.range (aA (pv 1) aE)) ?g ?t ?e
   case g=>exact fun cl C s₃ H₃ fp=>aM (i:=0) nbHS rfl (Or.inl rfl) (Or.inr rfl)
   case t=>exact fun cl C s₃ H₃ fp=>dU
   case e=>exact fun cl C s₃ H₃ fp=>aS DF hr1 aU (aA (nX (pv 1) rfl) (aA (pv 0) aE))
  obtain ⟨p,dx,n,l,zs,rfl,hp,TT,tb,k⟩:=h
  have fi:=TT.fine
  have n1:=fi.n1
  have n2:=fi.n2
  have hlen : zs.length ≤ 256:=by have:=fi.len; rw [cL] at this; exact this
  refine ⟨_,rfl,_,rfl,n,l,zs,rfl,TT,fun H1 s1=>?_⟩
  refine ⟨_,rfl,_,rfl,n,l,zs,rfl,TT.same s1,fun H2 s2=>?_⟩
  have s12 : Same H H2:=s1.trans s2
  refine ⟨_,rfl,_,rfl,p,C,dx,[],rfl,s12 _ _ hp,T.cl,T.nH,(by show 0 < 1000; decide),?_⟩
  let G1 : Hp:=upd H2 p (.ins C dx (putF "house_count" (.int n) []))
  have d1 : iL p Pt H G1:=fun b o e h1 _=>by show upd _ _ _ _ = _; rw [aD h1]; exact s12 _ _ e
  have g1p : G1 p = some (.ins C dx (putF "house_count" (.int n) [])):=aB
  have TT1 : dI G1 l n zs:=TT.mono d1 hp tb
  have tb1 : Tab Pt G1:=tb.mono (fun b o e h1=>by show upd _ _ _ _ = _; rw [aD h1]; exact s12 _ _ e) hp
  refine ⟨_,rfl,l,rfl,⟨_,SqL.of TT1.at_⟩,fun D hD=>?_⟩
  refine aAY (fun y=>y) (fun σ=>∃ a b,σ = [a,b]) TT1.at_ TT1.po hD (by omega) ⟨_,_,rfl⟩ ?_ ?_
  ·rintro z σ H3 R Kf hz ⟨a,b,rfl⟩ ha kk
   refine ⟨_,_,rfl,SqT.of ha,rfl,_,_,rfl,_,_,rfl,rfl,?_⟩
   exact ⟨_,rfl,_,rfl,by show 2 ≤ sizeLine; decide,fun t ht=>kk _ _ ⟨_,_,rfl⟩ ht⟩
  ·intro zs2 H3 sm hD3 po3 ez
   rw [List.map_id'] at ez
   have hl2 : zs2.length = zs.length:=by rw [← cL,ez,cL]
   refine aD3 ?_
   refine aCc hD3 po3 (by omega) fun tl zs3 htl pm=>?_
   have e3p : H3 p = some (.ins C dx (putF "house_count" (.int n) [])):=sm _ _ g1p
   have nptl : p ≠ tl:=aF e3p htl
   refine ⟨_,rfl,p,C,dx,_,rfl,by rw [aD nptl]; exact e3p,T.cl,T.nT,by show 1 < 1000; decide,?_⟩
   let G2 : Hp:=upd (upd H3 tl (.lst (zr zs3))) p (.ins C dx (putF "tie_list" (.ref tl) (putF "house_count" (.int n) [])))
   have q2 : ∀ b o,H3 b = some o→b ≠ p→G2 b = some o:=fun b o e h1=>by
    show upd _ _ _ _ = _
    rw [aD h1,aD (aF e htl)]; exact e
   have d2 : iL p Pt H G2:=fun b o e h1 h2=>q2 _ _ (sm _ _ (d1 _ _ e h1 h2)) h1
   have g2p : G2 p = some (.ins C dx (putF "tie_list" (.ref tl) (putF "house_count" (.int n) []))):=aB
   have TT2 : dI G2 l n zs:=TT.mono d2 hp tb
   have tb2 : Tab Pt G2:=tb1.mono (fun b o e h1=>q2 _ _ (sm _ _ e) h1) g1p
   refine ⟨_,rfl,n,rfl,by omega,by omega,fun D2 hD2=>?_⟩
   refine eZ (n:=n) (lo:=0) (fun i ys σ H4=>(∃ a,σ = [a,some (.int n),some (.ref l)])∧∃ bs : List Addr,ys = bs.map V.ref∧(∀ b∈bs,H b = none)∧Holds H4 bs i (fun h=>.lst (NV (outN n (zp zs) h)))∧oR Pt G2 H4∧Tab Pt H4∧H4 D2 = some (.lst ys)∧∀ b∈bs,b ≠ D2)
    ⟨⟨_,rfl⟩,[],rfl,(fun _ h=>nomatch h),Holds.nil,oR.of (aG hD2),tb2.same (aG hD2),aB,(fun _ h=>nomatch h)⟩ ?_ ?_
   ·rintro i ys σ H4 Kt Kf hi ⟨⟨a,rfl⟩,bs,rfl,hbN,hb,sm4,tb4,hD4,hbD⟩ kt kf
    have TT4 : dI H4 l n zs:=TT2.mono (p:=p) (fun b o e _ h2=>sm4 _ _ e h2) g2p tb2
    have e4p:=sm4 _ _ g2p (tb2.not g2p (by intro ps z; cases z))
    refine ⟨_,rfl,_,rfl,_,rfl,n,l,i,zs,by rw [Int.zero_add]; rfl,hi,TT4,tb4,fun r H5 t5 st5 hr4 hr5=>?_⟩
    have hrN : H r = none:=iL.free (fun b o e h1 h2=>sm4 _ _ (d2 _ _ e h1 h2) h2) (mJ e4p) tb4 hr4
    have e5D : H5 D2 = some (.lst (bs.map V.ref)):=st5 _ _ hD4 (tb4.not hD4 (by intro ps z; cases z))
    have nrD : r ≠ D2:=by rintro rfl; rw [hD4] at hr4; cases hr4
    have keepD : ∀ b o ys',H5 b = some o→b ≠ D2→(upd H5 D2 ys') b = some o:=fun b o ys' e h=>by rw [aD h]; exact e
    refine kt _ _ _ e5D (by rw [List.length_map,hb.1]; exact Nat.lt_of_lt_of_le hi (Nat.le_trans n2 (by decide))) ⟨⟨_,rfl⟩,bs ++ [r],by rw [List.map_append]; rfl,?_,?_,?_,?_,aB,?_⟩
    ·intro b hb'
     rcases List.mem_append.mp hb' with z | z
     ·exact hbN b z
     ·rw [List.mem_singleton.mp z]; exact hrN
    ·refine Holds.snoc (hb.mono fun j hj e=>?_) (keepD _ _ _ hr5 nrD)
     refine keepD _ _ _ (st5 _ _ e (tb4.not e (by intro ps z; cases z))) (hbD _ ?_)
     rw [List.getD_eq_getElem?_getD,List.getElem?_eq_getElem (by rw [hb.1]; exact hj)]; exact List.getElem_mem _
    ·intro b o e h
     exact keepD _ _ _ (st5 _ _ (sm4 _ _ e h) h) (aF e hD2)
    ·rcases t5 with z | ⟨c,z,y⟩
     ·exact .inl (keepD _ _ _ z (bO z e5D (by intro q; cases q)))
     ·exact .inr ⟨c,keepD _ _ _ z (bO z e5D (by intro q; cases q)),keepD _ _ _ y (bO y e5D (by intro q; cases q))⟩
    ·intro b hb'
     rcases List.mem_append.mp hb' with z | z
     ·exact hbD b z
     ·rw [List.mem_singleton.mp z]; exact nrD
   ·rintro ys σ H4 ⟨_,bs,rfl,hbN,hb,sm4,tb4,hD4,hbD⟩
    have e4p : H4 p = some (.ins C dx (putF "tie_list" (.ref tl) (putF "house_count" (.int n) []))):=sm4 _ _ g2p (tb2.not g2p (by intro ps z; cases z))
    have hD2N : H D2 = none:=d2.free (mJ g2p) tb2 hD2
    refine ⟨_,rfl,p,C,dx,_,rfl,e4p,T.cl,T.nO,by have h1:=dJ "tie_list" (V.ref tl) (putF "house_count" (V.int n) []); have h2:=dJ "house_count" (V.int n) []; simp at h2; omega,?_⟩
    let G3 : Hp:=upd H4 p (.ins C dx (putF "out_lists" (.ref D2) (putF "tie_list" (.ref tl) (putF "house_count" (.int n) []))))
    have q3 : ∀ b o,H4 b = some o→b ≠ p→G3 b = some o:=fun b o e h1=>by show upd _ _ _ _ = _; rw [aD h1]; exact e
    have g3p : G3 p = some (.ins C dx (putF "out_lists" (.ref D2) (putF "tie_list" (.ref tl) (putF "house_count" (.int n) [])))):=aB
    have d3 : iL p Pt H G3:=fun b o e h1 h2=>q3 _ _ (sm4 _ _ (d2 _ _ e h1 h2) h2) h1
    have tb3 : Tab Pt G3:=tb4.mono q3 e4p
    have hb3 : Holds G3 bs n (fun h=>.lst (NV (outN n (zp zs) h))):=hb.mono fun j hj e=>q3 _ _ e (bO e e4p (by intro z; cases z))
    have g3D : G3 D2 = some (.lst (bs.map V.ref)):=q3 _ _ hD4 (bO hD4 e4p (by intro z; cases z))
    have O3 : bC G3 D2 n (zp zs):=⟨bs,g3D,hb3⟩
    refine ⟨_,rfl,n,rfl,by omega,by omega,fun D3 hD3'=>?_⟩
    refine eZ (n:=n) (lo:=0) (fun i ys σ H6=>(∃ a,σ = [a,some (.ref p)])∧∃ ds : List Addr,ys = ds.map V.ref∧(∀ b∈ds,H b = none)∧Holds H6 ds i (fun s=>.lst (NV ((List.range n).map (far (zp zs) s))))∧Same G3 H6∧H6 D3 = some (.lst ys)∧∀ b∈ds,b ≠ D3)
     ⟨⟨_,rfl⟩,[],rfl,(fun _ h=>nomatch h),Holds.nil,aG hD3',aB,(fun _ h=>nomatch h)⟩ ?_ ?_
    ·rintro i ys σ H6 Kt Kf hi ⟨⟨a,rfl⟩,ds,rfl,hdN,hd,sm6,hD6,hdD⟩ kt kf
     refine ⟨_,rfl,p,C,dx,_,_,rfl,sm6 _ _ g3p,T.cl,T.nO,by rw [bS,if_pos rfl],_,rfl,D2,n,i,zp zs,by rw [Int.zero_add]; rfl,fi,hi,O3.same sm6,fun r H7 st7 hr6 hr7=>?_⟩
     have e7D : H7 D3 = some (.lst (ds.map V.ref)):=st7 _ _ hD6
     have nrD : r ≠ D3:=by rintro rfl; rw [hD6] at hr6; cases hr6
     have hrN : H r = none:=iL.free (fun b o e h1 h2=>sm6 _ _ (d3 _ _ e h1 h2)) (mJ (sm6 _ _ g3p)) (tb3.same sm6) hr6
     have keepD : ∀ b o ys',H7 b = some o→b ≠ D3→(upd H7 D3 ys') b = some o:=fun b o ys' e h=>by rw [aD h]; exact e
     refine kt _ _ _ e7D (by rw [List.length_map,hd.1]; exact Nat.lt_of_lt_of_le hi (Nat.le_trans n2 (by decide))) ⟨⟨_,rfl⟩,ds ++ [r],by rw [List.map_append]; rfl,?_,?_,?_,aB,?_⟩
     ·intro b hb'
      rcases List.mem_append.mp hb' with z | z
      ·exact hdN b z
      ·rw [List.mem_singleton.mp z]; exact hrN
     ·refine Holds.snoc (hd.mono fun j hj e=>?_) (keepD _ _ _ hr7 nrD)
      refine keepD _ _ _ (st7 _ _ e) (hdD _ ?_)
      rw [List.getD_eq_getElem?_getD,List.getElem?_eq_getElem (by rw [hd.1]; exact hj)]; exact List.getElem_mem _
     ·intro b o e
      exact keepD _ _ _ (st7 _ _ (sm6 _ _ e)) (aF e hD3')
     ·intro b hb'
      rcases List.mem_append.mp hb' with z | z
      ·exact hdD b z
      ·rw [List.mem_singleton.mp z]; exact nrD
    ·rintro ys σ H6 ⟨_,ds,rfl,hdN,hd,sm6,hD6,hdD⟩
     have e6p:=sm6 _ _ g3p
     refine ⟨_,rfl,p,C,dx,_,rfl,e6p,T.cl,T.nD,by have h1:=dJ "tie_list" (V.ref tl) (putF "house_count" (V.int n) []); have h2:=dJ "house_count" (V.int n) []; have h3:=dJ "out_lists" (V.ref D2) (putF "tie_list" (V.ref tl) (putF "house_count" (V.int n) [])); simp at h2; omega,?_⟩
     have q4 : ∀ b o u,H6 b = some o→b ≠ p→(upd H6 p u) b = some o:=fun b o u e h1=>by rw [aD h1]; exact e
     refine ⟨_,rfl,p,C,dx,_,_,rfl,aB,T.cl,T.nD,by rw [bS,if_pos rfl],D3,ds,n,fun s=>NV ((List.range n).map (far (zp zs) s)),rfl,q4 _ _ _ hD6 (bO hD6 e6p (by intro z; cases z)),n2,hd.mono fun j hj e=>q4 _ _ _ e (bO e e6p (by intro z; cases z)),fun j hj x hx=>?_,fun H8 s8=>?_⟩
     ·obtain ⟨y,hy,rfl⟩:=List.mem_map.mp hx
      exact ⟨_,rfl⟩
     ·have up : ∀ b o,G3 b = some o→b ≠ p→H8 b = some o:=fun b o e h1=>s8 _ _ (q4 _ _ _ (sm6 _ _ e) h1)
      have hD3N : H D3 = none:=d3.free (mJ g3p) tb3 hD3'
      refine k H8 ⟨fi,dx,tl,D2,D3,s8 _ _ aB,hD2N,hD3N,⟨bs,up _ _ g3D (bO g3D g3p (by intro z; cases z)),hbN,hb3.mono fun j hj e=>up _ _ e (bO e g3p (by intro z; cases z))⟩,
       ⟨ds,s8 _ _ (q4 _ _ _ hD6 (bO hD6 e6p (by intro z; cases z))),hdN,hd.mono fun j hj e=>s8 _ _ (q4 _ _ _ e (bO e e6p (by intro z; cases z)))⟩⟩ ?_ fun b o e h1 h2=>up _ _ (d3 _ _ e h1 h2) h1
      exact tb3.mono up g3p
end
end K12
namespace K12
open PySem L2
open NetM
section
variable {P : Program} {w : World} {K : PySem.W.Frag} {mg : Str→Option Value} {base : Heap}
def nK (C : Addr) : Sp:=fun vs H Q _=>∃ (L : Addr→Prop) (p : Addr) (n : Nat) (ts : Ts) (i : Nat),vs = [.ref p,.int i]∧dP C H L p n ts∧i < n∧Q .non H
theorem aAj {f C : Addr} {fd : FuncData} (F : Fun K "check_house" "Net.check_house" tL f fd) (T : NT K mg C) (HH : Cal P w K mg base CX0 3 "is_house" ["many", "thing"] (mI K)) :
  FnOk P w K mg base CX0 4 f fd ["self", "thing"] (nK C):=by
 refine F.ok aCf (fun vs H Q E h=>?_) (fun cdv A outer s H vs Q E hr h=>?_)
 ·obtain ⟨L,p,n,ts,i,rfl,_⟩:=h
  rfl
 ·obtain ⟨L,p,n,ts,i,rfl,N,hi,k⟩:=h
  obtain ⟨dx,tl,ol,ds,h1,_⟩:=N.ob
  refine ⟨_,aK (bN (dS (cV (aS HH hr aU (aA (nX (pv 0) rfl) (aA (pv 1) aE))))) cK bE),?_⟩
  refine ⟨_,rfl,p,C,dx,_,_,rfl,h1,T.cl,T.nH,aCd _ _ _ _,_,rfl,_,some (i : Int),n,rfl,.int _,_,rfl,?_⟩
  rw [rG hi]
  exact iteF k
def tS (C : Addr) : Sp:=fun vs H Q _=>∃ (L : Addr→Prop) (p : Addr) (n : Nat) (ts : Ts) (i j : Nat),vs = [.ref p,.int i,.int j]∧dP C H L p n ts∧i < n∧j < n∧Q (.int (far ts i j : Nat)) H
theorem aCn {f C : Addr} {fd : FuncData} (F : Fun K "far" "Net.far" sFar f fd) (T : NT K mg C) (M : MCal P w K mg base CX0 4 C "check_house" ["self", "thing"] (nK C)) :
  FnOk P w K mg base CX0 5 f fd ["self", "one", "other"] (tS C):=by
 obtain ⟨fM,fdM,mM,bM,GM⟩:=M.ex
 refine F.ok jV (fun vs H Q E h=>?_) (fun cdv A outer s H vs Q E hr h=>?_)
 ·obtain ⟨L,p,n,ts,i,j,rfl,_⟩:=h
  rfl
 ·obtain ⟨L,p,n,ts,i,j,rfl,N,hi,hj,k⟩:=h
  obtain ⟨dx,tl,ol,ds,h1,_,_,_,R⟩:=N.ob
  refine ⟨_,aH (bR (pO (pv 0) T.cl mM GM hr bM .nil aU (aA (pv 1) aE)))
   (aH (bR (pO (pv 0) T.cl mM GM hr bM .nil aU (aA (pv 2) aE)))
   (aK (bB (aO aR (aO aR (nX (pv 0) rfl) (pv 1) (fun _ _=>rfl)) (pv 2) (fun _ _=>rfl))))),?_⟩
  refine ⟨_,rfl,p,dx,_,rfl,h1,nchk _ _ _ _,_,rfl,L,p,n,ts,i,rfl,N,hi,?_⟩
  refine ⟨_,rfl,p,dx,_,rfl,h1,nchk _ _ _ _,_,rfl,L,p,n,ts,j,rfl,N,hj,?_⟩
  obtain ⟨bs,b,r1,r2,r3,_⟩:=R.row hi
  have hg : (NV ((List.range n).map (far ts i)))[j]? = some (.int (far ts i j : Nat)):=by
   rw [List.getElem?_map,List.getElem?_map,List.getElem?_range hj]; rfl
  exact ⟨_,rfl,p,C,dx,_,_,rfl,h1,T.cl,T.nD,aCe _ _ _ _,_,rfl,ds,_,_,_,rfl,rfl,SqL.of r1,bQ r2,_,rfl,b,_,_,_,rfl,rfl,SqL.of r3,bQ hg,k⟩
end
end K12
namespace K61
open PySem L2
def top (i : Nat) : Stmt:=PySem.Challenge.pw_neverwait_k62_straight_judged.main.body.getD i (.Pass ⟨0,0,0,0⟩)
abbrev sPot : Stmt:=top 29
abbrev xM : Stmt:=top 30
abbrev xN : Stmt:=top 31
structure Bl (mg : Str→Option Value) : Prop where
 isi : mg "isinstance" = none
 int : mg "int" = none
 bool : mg "bool" = none
 lst : mg "list" = none
 tup : mg "tuple" = none
 dict : mg "dict" = none
 len : mg "len" = none
 range : mg "range" = none
 enum : mg "enumerate" = none
 all : mg "all" = none
 abs : mg "abs" = none
 max : mg "max" = none
 min : mg "min" = none
 repr : mg "repr" = none
def aN (H : Hp) (p : Addr) : Prop:=∃ a b : Int,H p = some (.lst [.int a,.int b])∧0 ≤ a∧0 ≤ b∧b < 2147483647
theorem aN.same {H H' : Hp} {p : Addr} (h : aN H p) (s : Same H H') : aN H' p:=let ⟨a,b,e,r⟩:=h; ⟨a,b,s _ _ e,r⟩
theorem aN.upd {H : Hp} {p : Addr} {a b : Int} (h1 : 0 ≤ a) (h2 : 0 ≤ b) (h3 : b < 2147483647) : aN (upd H p (.lst [.int a,.int b])) p:=⟨a,b,aB,h1,h2,h3⟩
section
variable {P : Program} {w : World} {K : PySem.W.Frag} {mg : Str→Option Value} {base : Heap}
theorem rX : aY ["_law_script", "_law_k", "_law_cell", "_law_mixed"] ["_law_script", "_law_k"] (aI sPot):=⟨rfl,rfl,rfl,by decide +kernel,rfl,by decide +kernel,by decide +kernel⟩
def xO (K : PySem.W.Frag) : Sp:=fun vs H Q _=>∃ (a : Addr) (ns : List Int) (k : Nat),vs = [.ref a,.int k]∧SqL K H a (ns.map V.int)∧k < 64∧∀ (r : Addr) (H' : Hp),Same H H'→H r = none→aN H' r→Q (.ref r) H'
theorem aAk {x : Int} (h0 : 0 ≤ x) (h1 : x < 2 ^ 63) : x.natAbs < 2 ^ 64:=by omega
theorem aDj {f : Addr} {fd : FuncData} (F : Fun K "_law_pot" "_law_pot" sPot f fd) (B : Bl mg) : FnOk P w K mg base CX0 1 f fd ["_law_script", "_law_k"] (xO K):=by
 refine F.ok rX (fun vs H Q E h=>?_) (fun cdv A outer s H vs Q E hr h=>?_)
 ·obtain ⟨a,ns,k,rfl,_⟩:=h
  rfl
 ·obtain ⟨a,ns,k,rfl,hS,hk,q⟩:=h
  refine ⟨_,aH (aV (i:=2) rX.nd rfl (Or.inl rfl) aJ)
   (aH (bN (aZ iG (pv 1) (aQ aT (by rfl) B.len PySem.boot_len (aA (pv 0) aE)) (aX _)) (aK (aV (i:=2) rX.nd rfl (Or.inl rfl) (aO aR (pv 0) (pv 1) (fun _ _=>rfl)))) bE)
   (aH (aV (i:=3) rX.nd rfl (Or.inl rfl) (bA eJ (bA yI (bA bX (bA bX (bA eJ (aQ aAG (by rfl) B.abs PyProof.Rows.boot_abs (aA (pv 2) aE)) aJ) (bA jC aJ (pv 1))) aJ) aJ) aJ))
   (aK (bB (cG (aA (aQ (qO rfl) (by rfl) B.max PyProof.Rows.boot_max (aA aJ (aA (bA jB (pv 2) (bA yI aJ aJ)) aE))) (aA (pv 3) aE))))))),?_⟩
  refine ⟨_,rfl,_,rfl,a,ns.map V.int,rfl,.inl hS,_,_,rfl,rfl,_,rfl,?_⟩
  have fin : ∀ c : Int,0 ≤ (if c < 0 then -c else c):=fun c=>by split <;> omega
  refine ite2 (fun e=>?_) (fun e=>?_)
  ·have hlt : k < ns.length:=by
    have : (k : Int) < ((ns.map V.int).length : Int):=by simpa using e
    rw [List.length_map] at this; omega
   refine ⟨_,rfl,_,rfl,a,_,_,_,rfl,rfl,hS,bQ (v:=.int ns[k]) (by rw [List.getElem?_map,List.getElem?_eq_getElem hlt]; rfl),?_⟩
   have m0 : 0 ≤ (if ns[k] < 0 then -ns[k] else ns[k]) % 2147483587:=Int.emod_nonneg _ (by decide)
   have m1 : (if ns[k] < 0 then -ns[k] else ns[k]) % 2147483587 < 2147483587:=Int.emod_lt_of_pos _ (by decide)
   refine ⟨_,rfl,_,rfl,_,_,rfl,rfl,(by show (0 : Int) < 2147483587; decide),_,rfl,_,_,rfl,rfl,.inl ⟨by decide,by decide⟩,_,_,rfl,rfl,_,_,rfl,rfl,_,_,rfl,rfl,⟨by decide,by decide,aAk (by omega) (by omega)⟩,_,_,rfl,rfl,(by show (0 : Int) < 2147483629; decide),?_⟩
   refine ⟨_,rfl,_,_,rfl,rfl,⟨by decide,by decide,by decide⟩,_,_,rfl,rfl,0,_,rfl,_,rfl,by show 2 ≤ sizeLine; decide,fun r hr'=>?_⟩
   refine q r _ (aG hr') hr' ⟨_,_,aB,?_,Int.emod_nonneg _ (by decide),Int.lt_trans (Int.emod_lt_of_pos _ (by decide)) (by decide)⟩
   split <;> omega
  ·have m0 : 0 ≤ (if (0 : Int) < 0 then -0 else (0 : Int)) % 2147483587:=by decide
   have m1 : (if (0 : Int) < 0 then -0 else (0 : Int)) % 2147483587 < 2147483587:=by decide
   refine ⟨_,rfl,_,rfl,_,_,rfl,rfl,(by show (0 : Int) < 2147483587; decide),_,rfl,_,_,rfl,rfl,.inl ⟨by decide,by decide⟩,_,_,rfl,rfl,_,_,rfl,rfl,_,_,rfl,rfl,⟨by decide,by decide,aAk (by omega) (by omega)⟩,_,_,rfl,rfl,(by show (0 : Int) < 2147483629; decide),?_⟩
   refine ⟨_,rfl,_,_,rfl,rfl,⟨by decide,by decide,by decide⟩,_,_,rfl,rfl,0,_,rfl,_,rfl,by show 2 ≤ sizeLine; decide,fun r hr'=>?_⟩
   refine q r _ (aG hr') hr' ⟨_,_,aB,?_,Int.emod_nonneg _ (by decide),Int.lt_trans (Int.emod_lt_of_pos _ (by decide)) (by decide)⟩
   split <;> omega
theorem aAl : aY ["_law_pot_here", "_law_many", "_law_digit"] ["_law_pot_here", "_law_many"] (aI xM):=⟨rfl,rfl,rfl,by decide +kernel,rfl,by decide +kernel,by decide +kernel⟩
def eW : Sp:=fun vs H Q _=>∃ (p : Addr) (m : Int),vs = [.ref p,.int m]∧0 < m∧m < 1000000∧aN H p∧∀ (d a b : Int),0 ≤ d→d < m→0 ≤ a→0 ≤ b→b < 2147483647→Q (.int d) (upd H p (.lst [.int a,.int b]))
theorem aCo {f : Addr} {fd : FuncData} (F : Fun K "_law_take" "_law_take" xM f fd) : FnOk P w K mg base CX0 1 f fd ["_law_pot_here", "_law_many"] eW:=by
 refine F.ok aAl (fun vs H Q E h=>?_) (fun cdv A outer s H vs Q E hr h=>?_)
 ·obtain ⟨p,m,rfl,_⟩:=h
  rfl
 ·obtain ⟨p,m,rfl,m0,m1,⟨a,b,hp,a0,b0,b1⟩,q⟩:=h
  refine ⟨_,aH (bN (aZ nU (aO aR (pv 0) aJ (fun _ _=>rfl)) aJ (aX _))
    (aH (aV (i:=2) aAl.nd rfl (Or.inl rfl) (bA eJ (aO aR (pv 0) aJ (fun _ _=>rfl)) (pv 1)))
    (aH (fH (bA pN (aO aR (pv 0) aJ (fun _ _=>rfl)) (pv 1)) (jA (pv 0) aJ fQ))
    (aK (bB (pv 2))))) bE)
   (aH (fH (bA eJ (bA bX (bA jC (aO aR (pv 0) aJ (fun _ _=>rfl)) aJ) aJ) aJ) (jA (pv 0) aJ fQ))
   (aK (bB (bA eJ (bA pN (bA eJ (bA jC (aO aR (pv 0) aJ (fun _ _=>rfl)) (aO aR (pv 0) aJ (fun _ _=>rfl))) aJ) aJ) (pv 1))))),?_⟩
  have g0 : atI [V.int a,V.int b] 0 = some (.int a):=bQ (j:=0) rfl
  have g1 : atI [V.int a,V.int b] 1 = some (.int b):=bQ (j:=1) rfl
  refine ⟨_,rfl,p,_,_,_,rfl,rfl,SqL.of hp,g0,_,_,rfl,rfl,_,rfl,?_⟩
  refine ite2 (fun e=>?_) (fun e=>?_)
  ·refine ⟨_,rfl,p,_,_,_,rfl,rfl,SqL.of hp,g0,_,rfl,_,_,rfl,rfl,m0,?_⟩
   refine ⟨_,rfl,p,_,_,_,rfl,rfl,SqL.of hp,g0,_,rfl,_,_,rfl,rfl,⟨m0,by omega⟩,?_⟩
   refine ⟨_,rfl,p,_,0,0,rfl,rfl,hp,iT (j:=0) (by show 0 < 2; decide),?_⟩
   refine ⟨_,rfl,?_⟩
   exact q _ _ _ (Int.emod_nonneg _ (by omega)) (Int.emod_lt_of_pos _ m0) (Int.ediv_nonneg a0 (by omega)) b0 b1
  ·refine ⟨_,rfl,p,_,_,_,rfl,rfl,SqL.of hp,g1,_,_,rfl,rfl,.inl ⟨by omega,by omega⟩,_,_,rfl,rfl,_,_,rfl,rfl,(by show (0 : Int) < 2147483647; decide),?_⟩
   refine ⟨_,rfl,p,_,1,1,rfl,rfl,hp,iT (j:=1) (by show 1 < 2; decide),?_⟩
   have c0 : 0 ≤ (b * 39373 + 20011) % 2147483647:=Int.emod_nonneg _ (by decide)
   have c1 : (b * 39373 + 20011) % 2147483647 < 2147483647:=Int.emod_lt_of_pos _ (by decide)
   refine ⟨_,rfl,p,_,_,_,rfl,rfl,SqL.of aB,bQ (j:=1) rfl,_,rfl,p,_,_,_,rfl,rfl,SqL.of aB,bQ (j:=1) rfl,_,_,rfl,rfl,.inl ⟨by omega,by omega⟩,_,_,rfl,rfl,(by show (0 : Int) < 2147483563; decide),_,_,rfl,rfl,⟨by decide,by decide⟩,_,rfl,_,_,rfl,rfl,m0,?_⟩
   exact q _ _ _ (Int.emod_nonneg _ (by omega)) (Int.emod_lt_of_pos _ m0) a0 c0 c1
theorem tT : aY ["_law_pot_here", "_law_some", "_law_found", "_law_one"] ["_law_pot_here", "_law_some"] (aI xN):=⟨rfl,rfl,rfl,by decide +kernel,rfl,by decide +kernel,by decide +kernel⟩
def oX (K : PySem.W.Frag) : Sp:=fun vs H Q _=>∃ (p l : Addr) (xs : List V),vs = [.ref p,.ref l]∧aN H p∧H l = some (.lst xs)∧l ≠ p∧xs.length < 4096∧∀ (r : Addr) (ys : List V) (H' : Hp),ys.Perm xs→aL p H H'→aN H' p→H r = none→H' r = some (.lst ys)→Q (.ref r) H'
theorem aCp {f : Addr} {fd : FuncData} (F : Fun K "_law_shuffled" "_law_shuffled" xN f fd) (B : Bl mg) (T : Cal P w K mg base CX0 1 "_law_take" ["_law_pot_here", "_law_many"] eW) : FnOk P w K mg base CX0 2 f fd ["_law_pot_here", "_law_some"] (oX K):=by
 refine F.ok tT (fun vs H Q E h=>?_) (fun cdv A outer s H vs Q E hr h=>?_)
 ·obtain ⟨p,l,xs,rfl,_⟩:=h
  rfl
 ·obtain ⟨p,l,xs,rfl,hp,hl,hlp,hz,q⟩:=h
  refine ⟨_,aH (aV (i:=2) tT.nd rfl (Or.inl rfl) (cG aE))
   (aH (bW PassesOwn.never rfl (cF (pv 1)) (aM (i:=3) tT.nd rfl (Or.inl rfl))
    (aK (bR (eA PySem.F.plainAttrs_list PySem.F.slot_list_insert PySem.F.type_list_insert zT (pv 2) (aA (aS T hr aU (aA (pv 0) (aA (bA bX (aQ aT (by rfl) B.len PySem.boot_len (aA (pv 2) aE)) aJ) aE))) (aA (pv 3) aE))))))
   (aK (bB (pv 2)))),?_⟩
  refine ⟨by show 0 ≤ sizeLine; decide,fun D hD=>?_⟩
  have nl : l ≠ D:=aF hl hD
  have np : p ≠ D:=by obtain ⟨a,b,e,_⟩:=hp; exact aF e hD
  refine ⟨_,rfl,l,rfl,⟨_,SqL.of (by rw [aD nl]; exact hl)⟩,fP (K:=K) (a:=l) (xs:=xs) (fun i σ H2=>(∃ v,σ = [some (.ref p),some (.ref l),some (.ref D),v])∧aL p H H2∧aN H2 p∧∃ ys,H2 D = some (.lst ys)∧ys.Perm (xs.take i)) ⟨⟨_,rfl⟩,aL.of (aG hD),hp.same (aG hD),[],aB,by simp⟩ (fun i σ H2 _ ⟨_,sm,_⟩=>SqL.of (sm _ _ hl hlp)) ?_ ?_⟩
  ·rintro i x σ H2 hx ⟨⟨v,rfl⟩,sm,p2,ys,hD2,pm⟩
   have hi:=(List.getElem?_eq_some_iff.mp hx).1
   have hly : ys.length = i:=by rw [pm.length_eq,List.length_take]; omega
   refine ⟨_,rfl,.inl ⟨rfl,_,SqL.of hD2⟩,_,rfl,_,rfl,D,ys,rfl,.inl (SqL.of hD2),_,_,rfl,rfl,p,_,rfl,by omega,by omega,p2,fun d a b d0 d1 a0 b0 b1=>?_⟩
   refine ⟨_,rfl,D,ys,d,d.toNat,x,rfl,rfl,by omega,by rw [aD np.symm]; exact hD2,by omega,by omega,?_⟩
   refine ⟨⟨_,rfl⟩,fun b' o e h=>?_,⟨a,b,by rw [aD np,aB],a0,b0,b1⟩,_,aB,?_⟩
   ·rw [aD (aF e hD),aD h]; exact sm _ _ e h
   ·have e1 : xs.take (i + 1) = xs.take i ++ [x]:=by rw [List.take_add_one,hx]; rfl
    rw [e1]
    have e2 : (ys.take d.toNat ++ [x] ++ ys.drop d.toNat).Perm (ys ++ [x]):=by
     have h1 : (ys.take d.toNat ++ [x] ++ ys.drop d.toNat).Perm (ys.take d.toNat ++ (ys.drop d.toNat ++ [x])):=by
      rw [List.append_assoc]
      exact List.Perm.append_left _ List.perm_append_comm
     rw [← List.append_assoc,List.take_append_drop] at h1
     exact h1
    exact e2.trans (pm.append_right [x])
  ·rintro σ H2 ⟨⟨v,rfl⟩,sm,p2,ys,hD2,pm⟩
   rw [List.take_length] at pm
   exact ⟨_,rfl,q D ys H2 pm sm p2 hD hD2⟩
end
end K61
namespace K61
open PySem L2
abbrev NV (js : List Nat) : List V:=js.map fun (j : Nat)=>V.int j
def inn (g : Nat→List Nat) (n x : Nat) : Nat:=(List.range n).countP fun o=>decide (x∈g o)
def addP (g : Nat→List Nat) (p : Nat × Nat) : Nat→List Nat:=fun h=>if h = p.1 then g h ++ [p.2] else g h
theorem kH {g : Nat→List Nat} {a b : Nat} : addP g (a,b) a = g a ++ [b]:=by unfold addP; rw [if_pos rfl]
theorem gW {g : Nat→List Nat} {p : Nat × Nat} {h : Nat} (e : h ≠ p.1) : addP g p h = g h:=by unfold addP; rw [if_neg e]
theorem tU {g : Nat→List Nat} {p : Nat × Nat} {x : Nat} : (addP g p x).length = (g x).length + (if p.1 = x then 1 else 0):=by
 unfold addP
 by_cases e : x = p.1
 ·rw [if_pos e,if_pos e.symm,List.length_append]; rfl
 ·rw [if_neg e,if_neg (fun z=>e z.symm)]; omega
theorem wB {g : Nat→List Nat} {a b x : Nat} (hb : b ∉ g a) : ∀ n,inn (addP g (a,b)) n x = inn g n x + (if a < n∧b = x then 1 else 0)
 | 0=>by simp [inn]
 | n + 1=>by
  have ih:=wB (x:=x) hb n
  unfold inn at ih ⊢
  rw [List.range_succ,List.countP_append,List.countP_append,ih]
  have e1 : ∀ g : Nat→List Nat,List.countP (fun o=>decide (x∈g o)) [n] = if x∈g n then 1 else 0:=by
   intro g; rw [List.countP_singleton]; simp
  rw [e1,e1]
  by_cases ha : a = n
  ·subst ha
   rw [kH]
   by_cases hx : b = x
   ·subst hx
    have i1 : b∈g a ++ [b]:=List.mem_append.mpr (.inr (List.mem_singleton.mpr rfl))
    have i2 : ¬ (a < a∧b = b):=fun z=>absurd z.1 (Nat.lt_irrefl _)
    have i3 : a < a + 1∧b = b:=⟨Nat.lt_succ_self _,rfl⟩
    rw [if_neg hb,if_pos i1,if_neg i2,if_pos i3]
   ·have h1 : (x∈g a ++ [b])↔x∈g a:=by
     rw [List.mem_append,List.mem_singleton]
     exact ⟨fun h=>h.elim id (fun z=>absurd z.symm hx),.inl⟩
    simp only [h1]
    have i2 : ¬ (a < a∧b = x):=fun z=>hx z.2
    have i3 : ¬ (a < a + 1∧b = x):=fun z=>hx z.2
    simp only [if_neg i2,if_neg i3]
    omega
  ·rw [gW (fun z=>ha z.symm)]
   have : (a < n∧b = x)↔(a < n + 1∧b = x):=by omega
   simp only [this]
   omega
structure Good (n : Nat) (g : Nat→List Nat) : Prop where
 nd : ∀ h,h < n→(g h).Nodup
 lt : ∀ h,h < n→∀ o∈g h,o < n∧o ≠ h
 le : ∀ h,h < n→(g h).length ≤ 8
 bal : ∀ h,h < n→(g h).length = inn g n h
theorem aBz : ∀ (ps : List (Nat × Nat)) (g : Nat→List Nat) (n : Nat),(ps.map (·.1)).Nodup→(∀ p∈ps,p.1 < n∧p.2 < n∧p.2 ≠ p.1∧p.2 ∉ g p.1∧(g p.1).length < 8) →
  (∀ h,h < n→(g h).Nodup)→(∀ h,h < n→∀ o∈g h,o < n∧o ≠ h)→(∀ h,h < n→(g h).length ≤ 8) →
  (∀ h,h < n→(ps.foldl addP g h).Nodup)∧(∀ h,h < n→∀ o∈ps.foldl addP g h,o < n∧o ≠ h)∧(∀ h,h < n→(ps.foldl addP g h).length ≤ 8) ∧
  (∀ h,(ps.foldl addP g h).length = (g h).length + (ps.map (·.1)).count h)∧(∀ h,inn (ps.foldl addP g) n h = inn g n h + (ps.map (·.2)).count h)∧(∀ h,h ∉ ps.map (·.1)→ps.foldl addP g h = g h)
 | [],g,n,_,_,a,b,c=>⟨a,b,c,fun h=>by simp,fun h=>by simp,fun h _=>rfl⟩
 | (x,y) :: ps,g,n,hn,hp,a,b,c=>by
  obtain ⟨h1,h2,h3,h4,h5⟩:=hp (x,y) List.mem_cons_self
  dsimp only at h1 h2 h3 h4 h5
  have hx : x ∉ ps.map (·.1):=(List.nodup_cons.mp hn).1
  have nx : ∀ p∈ps,p.1 ≠ x:=fun p hp z=>hx (z ▸ List.mem_map_of_mem hp)
  obtain ⟨r1,r2,r3,r4,r5,r6⟩:=aBz ps (addP g (x,y)) n (List.nodup_cons.mp hn).2
   (fun p q=>by
    rw [gW (nx p q)]
    exact hp p (List.mem_cons_of_mem _ q))
   (fun h hh=>by
    by_cases e : h = x
    ·subst e; rw [kH]
     exact List.nodup_append.mpr ⟨a _ hh,(List.nodup_cons.mpr ⟨(fun z=>nomatch z),List.nodup_nil⟩),fun u hu v hv z=>h4 (by rw [List.mem_singleton] at hv; rw [← hv,← z]; exact hu)⟩
    ·rw [gW e]; exact a h hh)
   (fun h hh o ho=>by
    by_cases e : h = x
    ·subst e; rw [kH] at ho
     rcases List.mem_append.mp ho with q | q
     ·exact b _ hh o q
     ·rw [List.mem_singleton.mp q]; exact ⟨h2,h3⟩
    ·rw [gW e] at ho; exact b h hh o ho)
   (fun h hh=>by
    by_cases e : h = x
    ·subst e; rw [kH,List.length_append]; exact h5
    ·rw [gW e]; exact c h hh)
  refine ⟨r1,r2,r3,fun h=>?_,fun h=>?_,fun h hh=>?_⟩
  ·rw [List.foldl_cons,r4,tU,List.map_cons,List.count_cons]
   simp only [beq_iff_eq]
   omega
  ·rw [List.foldl_cons,r5,wB h4,List.map_cons,List.count_cons]
   simp only [beq_iff_eq]
   have : (x < n∧y = h)↔y = h:=⟨fun z=>z.2,fun z=>⟨h1,z⟩⟩
   simp only [this]
   omega
  ·rw [List.foldl_cons,r6 h (fun z=>hh (List.mem_cons_of_mem _ z)),gW (fun z=>hh (by rw [z]; exact List.mem_cons_self))]
def rot (row : List Nat) : List Nat:=row.getLast?.toList ++ row.dropLast
theorem dM {row : List Nat} : (rot row).Perm row:=by
 rcases List.eq_nil_or_concat row with e | ⟨l,x,e⟩
 ·subst e; exact .refl _
 ·subst e
  rw [List.concat_eq_append]
  unfold rot
  rw [List.getLast?_concat,List.dropLast_concat]
  exact List.perm_append_comm
def prs (row : List Nat) : List (Nat × Nat):=List.zip (rot row) row
theorem kI {row : List Nat} : (prs row).map (·.1) = rot row:=by
 unfold prs
 rw [← List.unzip_fst,List.unzip_zip_left (by rw [dM.length_eq]; exact Nat.le_refl _)]
theorem wC {row : List Nat} : (prs row).map (·.2) = row:=by
 unfold prs
 rw [← List.unzip_snd,List.unzip_zip_right (by rw [dM.length_eq]; exact Nat.le_refl _)]
theorem qC {row : List Nat} : (prs row).length = row.length:=by unfold prs; rw [List.length_zip,dM.length_eq]; exact Nat.min_self _
theorem aAm {row : List Nat} {k : Nat} (h : k < row.length) : atI (NV row) ((k : Int) - 1) = some (.int ((rot row).getD k 0 : Nat)):=by
 rcases List.eq_nil_or_concat row with e | ⟨l,x,e⟩
 ·subst e; exact absurd h (by simp)
 ·subst e
  rw [List.concat_eq_append] at h ⊢
  have er : rot (l ++ [x]) = x :: l:=by unfold rot; rw [List.getLast?_concat,List.dropLast_concat]; rfl
  rw [er]
  cases k with
  | zero =>
   have e2 : NV (l ++ [x]) = NV l ++ [.int x]:=by unfold NV; rw [List.map_append]; rfl
   rw [e2]
   exact gO _ _
  | succ k =>
   have hk : k < l.length:=by rw [List.length_append] at h; simp at h; omega
   have e2 : (((k + 1 : Nat) : Int) - 1) = (k : Int):=by omega
   rw [e2]
   refine bQ ?_
   rw [List.getElem?_map,List.getElem?_append_left hk,List.getD_cons_succ,List.getD_eq_getElem?_getD,List.getElem?_eq_getElem hk]
   rfl
theorem oY {row : List Nat} {k : Nat} (h : k < row.length) : (prs row)[k]? = some ((rot row).getD k 0,row.getD k 0):=by
 unfold prs
 rw [List.getElem?_zip_eq_some]
 have h2 : k < (rot row).length:=by rw [dM.length_eq]; exact h
 dsimp only
 constructor
 ·rw [List.getD_eq_getElem?_getD,List.getElem?_eq_getElem h2]; rfl
 ·rw [List.getD_eq_getElem?_getD,List.getElem?_eq_getElem h]; rfl
theorem aDk {row : List Nat} (hn : row.Nodup) (h2 : 2 ≤ row.length) : ∀ p∈prs row,p.2 ≠ p.1:=by
 intro p hp e
 obtain ⟨k,hk⟩:=List.getElem?_of_mem hp
 have hk0 : k < row.length:=by rw [← qC]; exact (List.getElem?_eq_some_iff.mp hk).1
 rw [oY hk0] at hk
 have hp':=Option.some.inj hk
 subst hp'
 dsimp only at e
 rcases List.eq_nil_or_concat row with z | ⟨l,x,z⟩
 ·subst z; exact absurd h2 (by decide)
 ·subst z
  rw [List.concat_eq_append] at *
  have er : rot (l ++ [x]) = x :: l:=by unfold rot; rw [List.getLast?_concat,List.dropLast_concat]; rfl
  rw [er] at e
  obtain ⟨n1,n2,n3⟩:=List.nodup_append.mp hn
  rw [List.length_append] at h2 hk0
  have hl : 1 ≤ l.length:=by simp at h2; omega
  cases k with
  | zero =>
   rw [List.getD_cons_zero,List.getD_eq_getElem?_getD,List.getElem?_append_left (by omega),List.getElem?_eq_getElem (by omega)] at e
   exact n3 _ (List.getElem_mem (h:=(by omega : 0 < l.length))) x (List.mem_singleton.mpr rfl) e
  | succ k =>
   have hk1 : k < l.length:=by simp at hk0; omega
   rw [List.getD_cons_succ,List.getD_eq_getElem?_getD,List.getD_eq_getElem?_getD,List.getElem?_eq_getElem hk1] at e
   by_cases hk2 : k + 1 < l.length
   ·rw [List.getElem?_append_left hk2,List.getElem?_eq_getElem hk2] at e
    have:=(List.nodup_iff_pairwise_ne.mp n1 |> fun h=>(List.pairwise_iff_getElem.mp h) k (k + 1) hk1 hk2 (Nat.lt_succ_self _)) (show l[k + 1] = l[k] from e).symm
    exact this.elim
   ·have e3 : k + 1 = l.length:=by omega
    rw [e3,List.getElem?_append_right (Nat.le_refl _),Nat.sub_self] at e
    exact n3 _ (List.getElem_mem (h:=hk1)) x (List.mem_singleton.mpr rfl) (show x = l[k] from e).symm
def eR (g : Nat→List Nat) (row : List Nat) : Bool:=(prs row).all fun p=>decide (p.2 ∉ g p.1) && decide ((g p.1).length < 8)
def dB (g : Nat→List Nat) (row : List Nat) : Nat→List Nat:=if eR g row = true then (prs row).foldl addP g else g
theorem lT {g : Nat→List Nat} {row : List Nat} {n : Nat} (G : Good n g) (hn : row.Nodup) (h2 : 2 ≤ row.length) (hl : ∀ x∈row,x < n) :
  Good n (dB g row)∧(∀ h,h ∉ row→dB g row h = g h)∧∀ h,(dB g row h).length ≤ (g h).length + 1:=by
 unfold dB
 by_cases hc : eR g row = true
 ·rw [if_pos hc]
  have hc':=List.all_eq_true.mp hc
  have nr : (rot row).Nodup:=dM.nodup_iff.mpr hn
  obtain ⟨r1,r2,r3,r4,r5,r6⟩:=aBz (prs row) g n (by rw [kI]; exact nr) (fun p hp=>by
   have:=hc' p hp
   rw [Bool.and_eq_true,decide_eq_true_iff,decide_eq_true_iff] at this
   refine ⟨hl _ (dM.mem_iff.mp (by rw [← kI]; exact List.mem_map_of_mem hp)),hl _ (by rw [← wC (row:=row)]; exact List.mem_map_of_mem hp),aDk hn h2 p hp,this.1,this.2⟩) G.nd G.lt G.le
  refine ⟨⟨r1,r2,r3,fun h hh=>?_⟩,fun h hh=>?_,fun h=>?_⟩
  ·rw [r4,r5,kI,wC,dM.count_eq,G.bal h hh]
  ·refine r6 h (fun z=>hh ?_)
   rw [kI] at z
   exact dM.mem_iff.mp z
  ·rw [r4,kI]
   have:=List.nodup_iff_count.mp nr h
   omega
 ·rw [if_neg hc]
  exact ⟨G,fun h _=>rfl,fun h=>by omega⟩
end K61
namespace K61
open PySem L2
theorem oU {as : List Addr} {i : Nat} {x : V} (h : (as.map V.ref)[i]? = some x) : i < as.length∧x = .ref (as.getD i 0):=by
 rw [List.getElem?_map] at h
 cases e : as[i]? with
 | none=>rw [e] at h; cases h
 | some a =>
  rw [e] at h
  refine ⟨(List.getElem?_eq_some_iff.mp e).1,?_⟩
  rw [List.getD_eq_getElem?_getD,e]
  exact (Option.some.inj h).symm
def aW (as : List Addr) (n : Nat) : List (Key × V):=(List.range n).map fun (h : Nat)=>(Sum.inl (h : Int),V.ref (as.getD h 0))
theorem kU {as : List Addr} : ∀ {n h : Nat},h < n→valV (aW as n) (.inl (h : Int)) = some (.ref (as.getD h 0)):=by
 have no : ∀ n m : Nat,n ≤ m→valV (aW as n) (.inl (m : Int)) = none:=by
  intro n
  induction n with
  | zero=>intro m _; rfl
  | succ n ih =>
   intro m hm
   unfold aW at ih ⊢
   rw [List.range_succ,List.map_append,List.map_cons,List.map_nil,lP _ _ _ _ (ih n (Nat.le_refl _)),if_neg,ih m (by omega)]
   intro z; have:=Sum.inl.inj z; omega
 intro n
 induction n with
 | zero=>intro h hh; omega
 | succ n ih =>
  intro h hh
  have e : aW as (n + 1) = aW as n ++ [(.inl (n : Int),.ref (as.getD n 0))]:=by unfold aW; rw [List.range_succ,List.map_append]; rfl
  rw [e,lP _ _ _ _ (no n n (Nat.le_refl _))]
  by_cases z : h = n
  ·rw [if_pos (by rw [z]),z]
  ·rw [if_neg (fun y=>z (by have:=Sum.inl.inj y; omega)),ih (by omega)]
structure bC (H : Hp) (O : Addr) (as : List Addr) (n : Nat) (g : Nat→List Nat) : Prop where
 dict : H O = some (.dK (aW as n))
 rows : Holds H as n (fun h=>.lst (NV (g h)))
 inj : ∀ i j,i < n→j < n→as.getD i 0 = as.getD j 0→i = j
theorem bC.same {H H' : Hp} {O : Addr} {as : List Addr} {n : Nat} {g : Nat→List Nat} (h : bC H O as n g) (s : Same H H') : bC H' O as n g:=⟨s _ _ h.dict,h.rows.mono fun j _ e=>s _ _ e,h.inj⟩
def Off (as : List Addr) (n : Nat) (p : Addr) : Prop:=∀ h,h < n→p ≠ as.getD h 0
theorem bC.sameE {H H' : Hp} {O p : Addr} {as : List Addr} {n : Nat} {g : Nat→List Nat} (h : bC H O as n g) (s : aL p H H') (hp : aN H p) (f : Off as n p) : bC H' O as n g:=by
 obtain ⟨a,b,e,_⟩:=hp
 exact ⟨s _ _ h.dict (bO h.dict e (by intro z; cases z)),h.rows.mono fun j hj x=>s _ _ x (f j hj).symm,h.inj⟩
def fD (as : List Addr) (n : Nat) (H H' : Hp) : Prop:=∀ b o,H b = some o→Off as n b→H' b = some o
theorem fD.of {as : List Addr} {n : Nat} {H H' : Hp} (s : Same H H') : fD as n H H':=fun b o e _=>s b o e
theorem fD.trans {as : List Addr} {n : Nat} {H H1 H2 : Hp} (a : fD as n H H1) (b : fD as n H1 H2) : fD as n H H2:=fun c o e f=>b c o (a c o e f) f
theorem bC.off {H : Hp} {O b : Addr} {as : List Addr} {n : Nat} {g : Nat→List Nat} (h : bC H O as n g) {o : HO} (e : H b = some o) (no : ∀ xs,o ≠ .lst xs) : Off as n b:=fun j hj=>bO e (h.rows.2 j hj) (no _)
theorem bC.offN {H : Hp} {O b : Addr} {as : List Addr} {n : Nat} {g : Nat→List Nat} (h : bC H O as n g) (e : H b = none) : Off as n b:=fun j hj=>(aF (h.rows.2 j hj) e).symm
theorem bC.get {H : Hp} {O : Addr} {as : List Addr} {n : Nat} {g : Nat→List Nat} (h : bC H O as n g) {x : Nat} (hx : x < n) : DGet H O (.int x) (some (.ref (as.getD x 0))):=by
 have:=DGet.k (k:=.inl (x : Int)) h.dict
 rw [kU hx] at this
 exact this
theorem bC.app {H : Hp} {O : Addr} {as : List Addr} {n : Nat} {g : Nat→List Nat} (h : bC H O as n g) {x y : Nat} (hx : x < n) :
  bC (upd H (as.getD x 0) (.lst (NV (g x) ++ [.int (y : Nat)]))) O as n (addP g (x,y))∧fD as n H (upd H (as.getD x 0) (.lst (NV (g x) ++ [.int (y : Nat)]))):=by
 refine ⟨⟨?_,⟨h.rows.1,fun j hj=>?_⟩,h.inj⟩,fun b o e f=>by rw [aD (f x hx)]; exact e⟩
 ·rw [aD (bO h.dict (h.rows.2 x hx) (by intro z; cases z))]; exact h.dict
 ·by_cases e : j = x
  ·subst e
   rw [aB]
   show _ = some (HO.lst (NV (addP g (j,y) j)))
   rw [kH]
   unfold NV
   rw [List.map_append]
   rfl
  ·rw [aD (fun z=>e (h.inj j x hj hx z))]
   show _ = some (HO.lst (NV (addP g (x,y) j)))
   rw [gW (p:=(x,y)) e]; exact h.rows.2 j hj
theorem mK {x : Nat} : ∀ {js : List Nat},inV (.int x) (NV js) = decide (x∈js)
 | []=>by simp [inV,NV]
 | j :: js=>by
  have ih:=mK (x:=x) (js:=js)
  unfold inV NV at ih ⊢
  rw [List.map_cons,List.any_cons,ih]
  have e : eqV (.int (j : Int)) (.int (x : Int)) = decide (x = j):=by
   show ((j : Int) == (x : Int)) = _
   by_cases z : x = j
   ·subst z; simp
   ·rw [decide_eq_false z,beq_eq_false_iff_ne]; omega
  rw [e]
  by_cases z : x = j
  ·subst z; simp
  ·simp [z]
theorem nL {js : List Nat} : (NV js).all dN = true:=by
 rw [List.all_eq_true]
 intro v hv
 obtain ⟨j,_,rfl⟩:=List.mem_map.mp hv
 rfl
theorem oZ {js : List Nat} {k : Nat} (h : k < js.length) : atI (NV js) (k : Int) = some (.int (js.getD k 0 : Nat)):=by
 refine bQ ?_
 rw [List.getElem?_map,List.getElem?_eq_getElem h,List.getD_eq_getElem?_getD,List.getElem?_eq_getElem h]
 rfl
abbrev rY : Stmt:=top 32
theorem nbKR : (["_law_k", "_law_row"] : List Str).Nodup:=by decide +kernel
theorem aBA : (["_law_house", "_law_other", "_law_outs"] : List Str).Nodup:=by decide +kernel
section
variable {P : Program} {w : World} {K : PySem.W.Frag} {mg : Str→Option Value} {base : Heap}
theorem pA : aY ["_law_outs", "_law_row", "_law_pairs", "_law_house", "_law_other"] ["_law_outs", "_law_row"] (aI rY):=⟨rfl,rfl,rfl,by decide +kernel,rfl,by decide +kernel,by decide +kernel⟩
def tV : Sp:=fun vs H Q _=>∃ (O l : Addr) (as : List Addr) (n : Nat) (g : Nat→List Nat) (row : List Nat),vs = [.ref O,.ref l]∧bC H O as n g∧H l = some (.lst (NV row))∧Off as n l∧(∀ x∈row,x < n)∧row.length ≤ 32∧(∀ h,h < n→(g h).length ≤ 8) ∧
 ∀ H',bC H' O as n (dB g row)→fD as n H H'→Q .non H'
theorem tW : ∀ (ps : List (Nat × Nat)) (g : Nat→List Nat) (h : Nat),(ps.foldl addP g h).length ≤ (g h).length + ps.length
 | [],_,_=>by simp
 | p :: ps,g,h=>by
  have:=tW ps (addP g p) h
  rw [tU] at this
  rw [List.foldl_cons,List.length_cons]
  split at this <;> omega
theorem aAn {row : List Nat} {n k : Nat} (hl : ∀ x∈row,x < n) (h : k < row.length) : (rot row).getD k 0 < n∧row.getD k 0 < n:=by
 have h2 : k < (rot row).length:=by rw [dM.length_eq]; exact h
 constructor
 ·rw [List.getD_eq_getElem?_getD,List.getElem?_eq_getElem h2]; exact hl _ (dM.mem_iff.mp (List.getElem_mem h2))
 ·rw [List.getD_eq_getElem?_getD,List.getElem?_eq_getElem h]; exact hl _ (List.getElem_mem h)
def okP (g : Nat→List Nat) (p : Nat × Nat) : Bool:=decide (p.2 ∉ g p.1) && decide ((g p.1).length < 8)
theorem aCq {f : Addr} {fd : FuncData} (F : Fun K "_law_joined" "_law_joined" rY f fd) (B : Bl mg) : FnOk P w K mg base CX0 1 f fd ["_law_outs", "_law_row"] tV:=by
 refine F.ok pA (fun vs H Q E h=>?_) (fun cdv A outer s H vs Q E hr h=>?_)
 ·obtain ⟨O,l,as,n,g,row,rfl,_⟩:=h
  rfl
 ·obtain ⟨O,l,as,n,g,row,rfl,hO,hl,ol,rl,rz,gz,q⟩:=h
  have hu : (A.deeper (PyProof.Rows.envOfC "_law_joined" (aI rY) s.heap.objs.size f cdv)).units + 1 < cLine:=by have:=hr.un; omega
  refine' ⟨_,aH (eB (i:=2) (g:=bG 0) (te:=tTup (bV (tOp (rIxL K) (tVar 1) (tOp (rI0 fun i j=>.int (i - j)) (tVar 0) (tC (.int 1)))) (bV (tOp (rIxL K) (tVar 1) (tVar 0)) tNil))) (NB:=["_law_k", "_law_row"]) (src:=[none,some 1]) (bZ (by kernel_rfl)) rfl
    (cB rfl B.range (aA (aQ aT (by rfl) B.len PySem.boot_len (aA (pv 1) aE)) aE)) ?g ?t ?e pA.nd rfl rfl rfl)
   (aK (bN (cV (aQ (zY rfl) (by rfl) B.all PyProof.Rows.boot_all (aA ?c2 aE)))
    (aK (bW PassesOwn.never rfl (cF (pv 2)) (dE (n:=2) rfl (bD (aM (i:=3) pA.nd rfl (Or.inl rfl)) (bD (aM (i:=4) pA.nd rfl (Or.inl rfl)) cM)))
     (aK (bR (eA PySem.F.plainAttrs_list PySem.F.slot_list_append PySem.F.type_list_append dD (dA hu (pv 0) (pv 3) (fun _ _=>rfl)) (aA (pv 4) aE))))))
    bE)),?_⟩
  case g=>exact fun cl C s₃ H₃ fp=>aM (i:=0) nbKR rfl (Or.inl rfl) (Or.inr rfl)
  case t=>exact fun cl C s₃ H₃ fp=>dU
  case e=>exact fun cl C s₃ H₃ fp=>fK (aA (aO aR (pv 1) (bA jB (pv 0) aJ) (fun _ _=>rfl)) (aA (aO aR (pv 1) (pv 0) (fun _ _=>rfl)) aE))
  case c2 =>
   refine' cZ (g:=gTup K 2 (cS (bG 0) (cS (bG 1) gNil))) (te:=aBo (tOp (rIn K true) (tVar 1) (oH (tVar 2) (tVar 0))) (tOp (rI0 fun i j=>.bl (decide (i < j))) (tCB (fun xs H Q=>∃ p ys,xs = [V.ref p]∧(SqL K H p ys∨SqT K H p ys)∧Q (.int ys.length) H) (bV (oH (tVar 2) (tVar 0)) tNil)) (tC (.int 8)))) (NB:=["_law_house", "_law_other", "_law_outs"]) (src:=[none,none,some 0]) (bZ (by kernel_rfl)) rfl
    (cF (pv 2)) ?g ?t ?e
   case g=>exact fun cl C s₃ H₃ fp=>dE (n:=2) rfl (bD (aM (i:=0) aBA rfl (Or.inl rfl) (Or.inr rfl)) (bD (aM (i:=1) aBA rfl (Or.inl rfl) (Or.inr rfl)) cM))
   case t=>exact fun cl C s₃ H₃ fp=>dU
   case e=>exact fun cl C s₃ H₃ fp=>eI (cN sO (pv 1) (dA hu (pv 2) (pv 0) (fun _ _=>rfl)) (by rfl)) (eT (cN iG (aQ aT (by rfl) B.len PySem.boot_len (aA (dA hu (pv 2) (pv 0) (fun _ _=>rfl)) aE)) aJ (aX _)))
  refine ⟨_,rfl,l,NV row,rfl,.inl (SqL.of hl),row.length,by rw [List.length_map],by omega,by omega,fun D hD=>?_⟩
  refine eZ (n:=row.length) (lo:=0) (fun i ys σ H2=>(∃ k,σ = [k,some (.ref l)])∧∃ ts,ys = ts.map V.ref∧Holds H2 ts i (fun j=>.tup [.int ((rot row).getD j 0 : Nat),.int (row.getD j 0 : Nat)])∧Same H H2∧H2 D = some (.lst ys))
   ⟨⟨_,rfl⟩,[],rfl,Holds.nil,aG hD,aB⟩ ?_ ?_
  ·rintro i ys σ H2 Kt Kf hi ⟨⟨a,rfl⟩,ts,rfl,hh,sm,hD2⟩ kt kf
   have hl2:=sm _ _ hl
   refine ⟨_,rfl,_,rfl,_,_,rfl,rfl,l,NV row,_,_,rfl,rfl,SqL.of hl2,by rw [Int.zero_add]; exact aAm hi,_,rfl,_,rfl,l,NV row,_,_,rfl,rfl,SqL.of hl2,by rw [Int.zero_add]; exact oZ hi,by show 2 ≤ sizeLine; decide,fun t ht=>?_⟩
   have nDt : D ≠ t:=aF hD2 ht
   refine kt _ _ _ (by rw [aD nDt]; exact hD2) (by rw [List.length_map,hh.1]; exact Nat.lt_of_lt_of_le hi (Nat.le_trans rz (by decide))) ⟨⟨_,rfl⟩,ts ++ [t],by rw [List.map_append]; rfl,?_,?_,aB⟩
   ·refine Holds.snoc (hh.mono fun j hj e=>?_) (by rw [aD nDt.symm,aB])
    rw [aD (bO e hD2 (by intro z; cases z)),aD (aF e ht)]; exact e
   ·intro b o e
    rw [aD (aF e hD),aD (aF (sm _ _ e) ht)]; exact sm _ _ e
  ·rintro ys σ H2 ⟨_,ts,rfl,hh,sm,hD2⟩
   have hO2:=hO.same sm
   have od : Off as n D:=hO.offN hD
   have ot : ∀ j,j < row.length→Off as n (ts.getD j 0):=fun j hj=>hO2.off (hh.2 j hj) (by intro xs z; cases z)
   refine ⟨_,rfl,D,rfl,⟨_,SqL.of hD2⟩,fun D2 hD2'=>?_⟩
   refine dZ (xs:=ts.map V.ref) (fun i ys σ H3=>(∃ a b,σ = [a,b,some (.ref O)])∧ys = (((prs row).take i).map (okP g)).map V.bl∧H3 = upd H2 D2 (.lst ys))
    ⟨⟨_,_,rfl⟩,rfl,rfl⟩ (fun i ys σ H3 _ ⟨_,_,e⟩=>by rw [e]; exact SqL.of (by rw [aD (aF hD2 hD2')]; exact hD2)) ?_ ?_
   ·rintro i x ys σ H3 Kt Kf hx ⟨⟨a,b,rfl⟩,hys,rfl⟩ kt kf
    obtain ⟨hi,rfl⟩:=oU hx
    rw [hh.1] at hi
    have nt:=aF (hh.2 i hi) hD2'
    have hO3:=hO2.same (aG (o:=.lst ys) hD2')
    obtain ⟨lt1,lt2⟩:=aAn rl hi
    refine ⟨_,_,rfl,SqT.of (by rw [aD nt]; exact hh.2 i hi),rfl,_,_,rfl,_,_,rfl,rfl,?_⟩
    refine ⟨_,rfl,_,rfl,_,rfl,O,_,rfl,hO3.get lt1,_,_,rfl,.inl (SqL.of (hO3.rows.2 _ lt1)),rfl,nL,_,rfl,?_⟩
    have hz : ys.length < sizeLine:=by
     rw [hys,List.length_map,List.length_map,List.length_take]
     exact Nat.lt_of_lt_of_le (Nat.lt_of_le_of_lt (Nat.min_le_left _ _) hi) (Nat.le_trans rz (by decide))
    have step : ∀ c : Bool,okP g ((rot row).getD i 0,row.getD i 0) = c→ys ++ [.bl c] = (((prs row).take (i + 1)).map (okP g)).map V.bl:=by
     intro c e
     rw [List.take_add_one,oY hi,hys,← e]
     simp
    have fin : ∀ c : Bool,okP g ((rot row).getD i 0,row.getD i 0) = c→Kt (.bl c) [some (.int ((rot row).getD i 0 : Nat)),some (.int (row.getD i 0 : Nat)),some (.ref O)] (upd H2 D2 (.lst ys)):=fun c e =>
     kt _ _ _ aB hz ⟨⟨_,_,rfl⟩,step c e,dR⟩
    have iv : (!inV (.int (row.getD i 0 : Nat)) (NV (g ((rot row).getD i 0)))) = decide (row.getD i 0 ∉ g ((rot row).getD i 0)):=by rw [mK]; simp
    refine ite2 (fun e=>?_) (fun e=>?_)
    ·have e' : (!inV (.int (row.getD i 0 : Nat)) (NV (g ((rot row).getD i 0)))) = true:=e
     rw [iv] at e'
     refine ⟨_,rfl,_,rfl,O,_,rfl,hO3.get lt1,_,_,rfl,.inl (SqL.of (hO3.rows.2 _ lt1)),_,_,rfl,rfl,fin _ ?_⟩
     unfold okP
     dsimp only
     rw [e',Bool.true_and]
     show _ = decide (((NV (g ((rot row).getD i 0))).length : Int) < 8)
     rw [List.length_map]
     exact decide_eq_decide.mpr (by omega)
    ·have e' : ¬ (!inV (.int (row.getD i 0 : Nat)) (NV (g ((rot row).getD i 0)))) = true:=e
     rw [iv] at e'
     refine fin _ ?_
     unfold okP
     dsimp only
     rw [Bool.eq_false_iff.mpr e',Bool.false_and]
   ·rintro ys σ H3 ⟨_,hys,rfl⟩
    rw [List.length_map,hh.1,← qC,List.take_length] at hys
    have hO3:=hO2.same (aG (o:=.lst ys) hD2')
    refine ⟨D2,_,rfl,SqL.of (by rw [aB,hys]),_,rfl,?_⟩
    have hc : ((prs row).map (okP g)).all id = eR g row:=by
     rw [List.all_map]; rfl
    refine ite2 (fun e=>?_) (fun e=>?_)
    ·have cj : eR g row = true:=by rw [← hc]; exact e
     have s3 : Same H (upd H2 D2 (.lst ys)):=sm.trans (aG hD2')
     refine ⟨_,rfl,D,rfl,⟨_,SqL.of (aG hD2' _ _ hD2)⟩,fP (K:=K) (a:=D) (xs:=ts.map V.ref) (fun i σ H4=>(∃ u v,σ = [some (.ref O),some (.ref l),some (.ref D),u,v])∧bC H4 O as n (((prs row).take i).foldl addP g)∧fD as n (upd H2 D2 (.lst ys)) H4) ⟨⟨_,_,rfl⟩,hO3,fD.of (Same.refl _)⟩ (fun i σ H4 _ ⟨_,_,so⟩=>SqL.of (so _ _ (aG hD2' _ _ hD2) od)) ?_ ?_⟩
     ·rintro i x σ H4 hx ⟨⟨u,v,rfl⟩,o4,so⟩
      obtain ⟨hi,rfl⟩:=oU hx
      rw [hh.1] at hi
      obtain ⟨lt1,lt2⟩:=aAn rl hi
      refine ⟨_,_,rfl,SqT.of (so _ _ (aG hD2' _ _ (hh.2 i hi)) (ot i hi)),rfl,_,_,rfl,_,_,rfl,rfl,?_⟩
      refine ⟨_,rfl,_,rfl,O,_,rfl,o4.get lt1,.inl ⟨rfl,_,SqL.of (o4.rows.2 _ lt1)⟩,_,rfl,_,_,_,rfl,rfl,o4.rows.2 _ lt1,?_,?_⟩
      ·rw [List.length_map]
       have h1:=tW ((prs row).take i) g ((rot row).getD i 0)
       have h2:=gz _ lt1
       have h3 : ((prs row).take i).length ≤ 32:=by rw [List.length_take]; exact Nat.le_trans (Nat.min_le_left _ _) (by omega)
       exact Nat.lt_of_lt_of_le (show _ < 41 by omega) (by decide)
      ·obtain ⟨p1,p2⟩:=o4.app (y:=row.getD i 0) lt1
       refine ⟨⟨_,_,rfl⟩,?_,so.trans p2⟩
       rw [List.take_add_one,oY hi]
       rw [Option.toList_some,List.foldl_append]
       exact p1
     ·rintro σ H4 ⟨_,o4,so⟩
      rw [List.length_map,hh.1,← qC,List.take_length] at o4
      refine q H4 ?_ ((fD.of s3).trans so)
      unfold dB
      rw [if_pos cj]
      exact o4
    ·have cj : ¬ eR g row = true:=by rw [← hc]; exact e
     refine q _ ?_ (fD.of (sm.trans (aG hD2')))
     unfold dB
     rw [if_neg cj]
     exact hO3
end
end K61
namespace K61
open PySem L2
def iW : List (Int × Int)→TA
 | []=>tNil
 | p :: ps=>bV (tTup (bV (tC (.int p.1)) (bV (tC (.int p.2)) tNil))) (iW ps)
theorem aAo : ∀ (ps : List (Int × Int)) (σ : St) (H : Hp) (Q : List V→Hp→Prop),(∀ ts H',Same H H'→Holds H' ts ps.length (fun j=>.tup [.int (ps.getD j (0,0)).1,.int (ps.getD j (0,0)).2])→Q (ts.map V.ref) H')→iW ps σ H Q
 | [],σ,H,Q,q=>q [] H (Same.refl _) Holds.nil
 | p :: ps,σ,H,Q,q=>by
  refine ⟨by show 2 ≤ sizeLine; decide,fun t ht=>aAo ps σ _ _ fun ts H' sm hh=>?_⟩
  refine q (t :: ts) H' ((aG ht).trans sm) ⟨by rw [List.length_cons,hh.1,List.length_cons],fun j hj=>?_⟩
  cases j with
  | zero=>exact sm _ _ aB
  | succ j=>exact hh.2 j (by rw [List.length_cons] at hj; omega)
def wTab : List (Int × Int):=[(1,2),(2,2),(3,2),(4,2),(1,3),(2,3),(1,4),(2,4),(1,5)]
def iM : List (Nat × Nat):=[(1,2),(2,2),(3,2),(4,2),(1,3),(2,3),(1,4),(2,4),(1,5)]
def wRow (b h j : Nat) : List Nat:=((List.range b).filter fun o=>decide (o ≠ h / b ^ j % b)).map fun o=>h + o * b ^ j - h / b ^ j % b * b ^ j
def jW (f b h : Nat) : List Nat:=(List.range f).flatMap (wRow b h)
def aBB (n : Nat) (g : Nat→List Nat) : Bool:=(List.range n).all fun h=>decide (g h).Nodup && ((g h).all fun o=>decide (o < n∧o ≠ h)) && decide ((g h).length ≤ 8) && decide ((g h).length = inn g n h)
theorem aCr {n : Nat} {g : Nat→List Nat} (e : aBB n g = true) : Good n g:=by
 have all : ∀ h,h < n→(((g h).Nodup∧(∀ o∈g h,o < n∧o ≠ h))∧(g h).length ≤ 8)∧(g h).length = inn g n h:=by
  intro h hh
  have:=List.all_eq_true.mp e h (List.mem_range.mpr hh)
  rw [Bool.and_eq_true,Bool.and_eq_true,Bool.and_eq_true,decide_eq_true_iff,decide_eq_true_iff,decide_eq_true_iff,List.all_eq_true] at this
  exact ⟨⟨⟨this.1.1.1,fun o ho=>of_decide_eq_true (this.1.1.2 o ho)⟩,this.1.2⟩,this.2⟩
 exact ⟨fun h hh=>(all h hh).1.1.1,fun h hh=>(all h hh).1.1.2,fun h hh=>(all h hh).1.2,fun h hh=>(all h hh).2⟩
theorem aBC : ∀ p∈iM,Good (p.2 ^ p.1) (jW p.1 p.2)∧2 ≤ p.2 ^ p.1∧p.2 ^ p.1 ≤ 32∧1 ≤ p.1∧p.1 ≤ 4∧2 ≤ p.2∧p.2 ≤ 5:=by
 have e : (iM.all fun p=>aBB (p.2 ^ p.1) (jW p.1 p.2) && decide (2 ≤ p.2 ^ p.1∧p.2 ^ p.1 ≤ 32∧1 ≤ p.1∧p.1 ≤ 4∧2 ≤ p.2∧p.2 ≤ 5)) = true:=by decide +kernel
 intro p hp
 have:=List.all_eq_true.mp e p hp
 rw [Bool.and_eq_true,decide_eq_true_iff] at this
 exact ⟨aCr this.1,this.2⟩
def pws (b k : Nat) : List Nat:=(List.range (k + 1)).map fun j=>b ^ j
theorem aA3 {b k : Nat} : pws b (k + 1) = pws b k ++ [b ^ (k + 1)]:=by unfold pws; rw [List.range_succ,List.map_append]; rfl
theorem tX {b k : Nat} : atI (NV (pws b k)) (-1) = some (.int (b ^ k : Nat)):=by
 have e : NV (pws b k) = NV ((List.range k).map fun j=>b ^ j) ++ [.int (b ^ k : Nat)]:=by unfold pws NV; rw [List.range_succ,List.map_append,List.map_append]; rfl
 rw [e]; exact gO _ _
theorem aCs {b k : Nat} : cutV (NV (pws b k)) none (some (-1)) = NV ((List.range k).map fun j=>b ^ j):=by
 have e : NV (pws b k) = NV ((List.range k).map fun j=>b ^ j) ++ [.int (b ^ k : Nat)]:=by unfold pws NV; rw [List.range_succ,List.map_append,List.map_append]; rfl
 have hl : (NV (pws b k)).length = k + 1:=by rw [e]; simp
 unfold cutV
 have h1 : HT.sIx (k + 1) 0 none = 0:=rfl
 have h2 : HT.sIx (k + 1) (k + 1) (some (-1)) = k:=by
  unfold HT.sIx
  simp
  try omega
 rw [hl,h1,h2,List.drop_zero,Nat.sub_zero,e,List.take_append_of_le_length (by simp)]
 rw [List.take_of_length_le (by simp)]
theorem aAp {b f j : Nat} (hb : 2 ≤ b) (h : j ≤ f) (h32 : b ^ f ≤ 32) : b ^ j ≤ 32∧1 ≤ b ^ j:=⟨Nat.le_trans (Nat.pow_le_pow_right (by omega) h) h32,Nat.one_le_pow _ _ (by omega)⟩
theorem wInt {b h o p : Nat} : (((h + o * p - h / p % b * p : Nat)) : Int) = (h : Int) + ((o : Int) - ((h : Int) / (p : Int) % (b : Int))) * (p : Int):=by
 have h1 : h / p % b * p ≤ h:=Nat.le_trans (Nat.mul_le_mul_right _ (Nat.mod_le _ _)) (Nat.div_mul_le_self _ _)
 rw [Int.ofNat_sub (by omega),Int.sub_mul,Int.natCast_add,Int.natCast_mul,Int.natCast_mul,Int.natCast_emod,Int.natCast_ediv]
 omega
theorem vF {as : List Addr} {t : Addr} {n : Nat} (h : as.length = n) : aW (as ++ [t]) (n + 1) = aW as n ++ [(.inl (n : Int),.ref t)]:=by
 unfold aW
 rw [List.range_succ,List.map_append,List.map_cons,List.map_nil,bL h,if_pos rfl]
 congr 1
 refine List.map_congr_left fun i hi=>?_
 rw [bL h,if_neg (by have:=List.mem_range.mp hi; omega)]
theorem rH {as : List Addr} {n m : Nat} (h : n ≤ m) : valV (aW as n) (.inl (m : Int)) = none:=by
 cases e : valV (aW as n) (.inl (m : Int)) with
 | none=>rfl
 | some v =>
  have:=aB1 e
  unfold aW at this
  rw [List.map_map] at this
  obtain ⟨i,hi,z⟩:=List.mem_map.mp this
  have:=List.mem_range.mp hi
  have:=Sum.inl.inj z
  omega
def setG (g : Nat→List Nat) (x : Nat) (ys : List Nat) : Nat→List Nat:=fun h=>if h = x then ys else g h
theorem fZ {g : Nat→List Nat} {x : Nat} {ys : List Nat} : setG g x ys x = ys:=by unfold setG; rw [if_pos rfl]
theorem gX {g : Nat→List Nat} {x h : Nat} {ys : List Nat} (e : h ≠ x) : setG g x ys h = g h:=by unfold setG; rw [if_neg e]
theorem bC.put {H : Hp} {O : Addr} {as : List Addr} {n : Nat} {g : Nat→List Nat} (h : bC H O as n g) {x : Nat} {ys : List Nat} (hx : x < n) : bC (upd H (as.getD x 0) (.lst (NV ys))) O as n (setG g x ys):=by
 refine ⟨?_,⟨h.rows.1,fun j hj=>?_⟩,h.inj⟩
 ·rw [aD (bO h.dict (h.rows.2 x hx) (by intro z; cases z))]; exact h.dict
 ·by_cases e : j = x
  ·subst e
   rw [aB]
   show _ = some (HO.lst (NV (setG g j ys j)))
   rw [fZ]
  ·rw [aD (fun z=>e (h.inj j x hj hx z))]
   show _ = some (HO.lst (NV (setG g x ys j)))
   rw [gX e]; exact h.rows.2 j hj
theorem bC.cong {H : Hp} {O : Addr} {as : List Addr} {n : Nat} {g g' : Nat→List Nat} (h : bC H O as n g) (e : ∀ x,x < n→g' x = g x) : bC H O as n g':=by
 refine ⟨h.dict,⟨h.rows.1,fun j hj=>?_⟩,h.inj⟩
 show _ = some (HO.lst (NV (g' j)))
 rw [e j hj]; exact h.rows.2 j hj
theorem bC.push {H : Hp} {O t : Addr} {as : List Addr} {n : Nat} {g : Nat→List Nat} {ys : List Nat} (h : bC H O as n g) (ht : H t = some (.lst (NV ys))) (off : Off as n t) :
  bC (upd H O (.dK (putK (aW as n) (.inl (n : Int)) (.ref t)))) O (as ++ [t]) (n + 1) (setG g n ys):=by
 have tO : t ≠ O:=bO ht h.dict (by intro z; cases z)
 have eO : ∀ j,j < n→as.getD j 0 ≠ O:=fun j hj=>bO (h.rows.2 j hj) h.dict (by intro z; cases z)
 refine ⟨by rw [aB,jE _ (rH (Nat.le_refl _)),vF h.rows.1],⟨by rw [List.length_append,h.rows.1]; rfl,fun j hj=>?_⟩,fun i j hi hj e=>?_⟩
 ·rw [bL h.rows.1]
  show _ = some (HO.lst (NV (setG g n ys j)))
  by_cases e : j = n
  ·rw [if_pos e,e,fZ,aD tO]; exact ht
  ·rw [if_neg e,gX e,aD (eO j (by omega))]; exact h.rows.2 j (by omega)
 ·rw [bL h.rows.1,bL h.rows.1] at e
  by_cases ei : i = n <;> by_cases ej : j = n
  ·omega
  ·rw [if_pos ei,if_neg ej] at e; exact absurd e (off j (by omega))
  ·rw [if_neg ei,if_pos ej] at e; exact absurd e.symm (off i (by omega))
  ·rw [if_neg ei,if_neg ej] at e; exact h.inj i j (by omega) (by omega) e
theorem bY {p c : Addr} {H H2 : Hp} {o : HO} (s : aL p H H2) (h : H c = none) : aL p H (upd H2 c o):=fun b u e n=>by rw [aD (aF e h)]; exact s b u e n
end K61
namespace K61
open PySem L2
inductive Rc (g : Nat→List Nat) : Nat→Nat→Prop where
 | refl (a : Nat) : Rc g a a
 | step {a b c : Nat} (h : Rc g a b) (t : c∈g b) : Rc g a c
theorem Rc.trans {g : Nat→List Nat} {a b : Nat} (h : Rc g a b) : ∀ {c : Nat},Rc g b c→Rc g a c:=by
 intro c k
 induction k with
 | refl=>exact h
 | step _ t ih=>exact .step ih t
theorem Rc.mono {g g' : Nat→List Nat} (m : ∀ a,∀ o∈g a,o∈g' a) {a b : Nat} (h : Rc g a b) : Rc g' a b:=by
 induction h with
 | refl=>exact .refl _
 | step _ t ih=>exact .step ih (m _ _ t)
theorem Rc.one {g : Nat→List Nat} {a b : Nat} (h : b∈g a) : Rc g a b:=.step (.refl _) h
def Con (n : Nat) (g : Nat→List Nat) : Prop:=∀ a b,a < n→b < n→Rc g a b
theorem Con.mono {n : Nat} {g g' : Nat→List Nat} (h : Con n g) (m : ∀ a,a < n→∀ o∈g a,o∈g' a) (lt : ∀ a,a < n→∀ o∈g a,o < n) : Con n g':=by
 intro a b ha hb
 have h1 : ∀ {c : Nat},Rc g a c→Rc g' a c∧c < n:=by
  intro c k
  induction k with
  | refl=>exact ⟨.refl _,ha⟩
  | step _ t ih=>exact ⟨.step ih.1 (m _ ih.2 _ t),lt _ ih.2 _ t⟩
 exact (h1 (h a b ha hb)).1
theorem nM {o h : Nat} : ∀ (ps : List (Nat × Nat)) (g : Nat→List Nat),o∈ps.foldl addP g h↔o∈g h∨(h,o)∈ps
 | [],g=>by simp
 | p :: ps,g=>by
  rw [List.foldl_cons,nM ps,List.mem_cons]
  have : o∈addP g p h↔o∈g h∨(h,o) = p:=by
   unfold addP
   by_cases e : h = p.1
   ·rw [if_pos e,List.mem_append,List.mem_singleton]
    constructor
    ·rintro (z | z)
     ·exact .inl z
     ·exact .inr (by rw [e,z])
    ·rintro (z | z)
     ·exact .inl z
     ·exact .inr (by rw [← z])
   ·rw [if_neg e]
    constructor
    ·exact .inl
    ·rintro (z | z)
     ·exact z
     ·exact absurd (by rw [← z]) e
  rw [this,or_assoc]
theorem rJ {g : Nat→List Nat} {row : List Nat} : ∀ a,∀ o∈g a,o∈dB g row a:=by
 intro a o ho
 unfold dB
 split
 ·exact (nM _ _).mpr (.inl ho)
 ·exact ho
theorem nN {g : Nat→List Nat} {row : List Nat} (hc : eR g row = true) {h o : Nat} (hp : (h,o)∈prs row) : o∈dB g row h:=by
 unfold dB
 rw [if_pos hc]
 exact (nM _ _).mpr (.inr hp)
theorem aA4 {row : List Nat} {k : Nat} (h : k < row.length) : (rot row).getD k 0 = row.getD (if k = 0 then row.length - 1 else k - 1) 0:=by
 have:=aAm h
 rcases Nat.eq_zero_or_pos k with e | e
 ·subst e
  have hl : atI (NV row) ((0 : Nat) - 1 : Int) = some (.int (row.getD (row.length - 1) 0 : Nat)):=by
   rcases List.eq_nil_or_concat row with z | ⟨l,x,z⟩
   ·subst z; exact absurd h (by simp)
   ·subst z
    rw [List.concat_eq_append]
    have : NV (l ++ [x]) = NV l ++ [.int (x : Nat)]:=by unfold NV; rw [List.map_append]; rfl
    rw [this]
    have e1 : ((0 : Nat) - 1 : Int) = -1:=rfl
    rw [e1,gO]
    have : (l ++ [x]).getD ((l ++ [x]).length - 1) 0 = x:=by
     rw [List.length_append,List.length_singleton,Nat.add_sub_cancel,List.getD_eq_getElem?_getD,List.getElem?_append_right (Nat.le_refl _)]
     simp
    rw [this]
  rw [hl] at this
  have z:=V.int.inj (Option.some.inj this)
  rw [if_pos rfl]; omega
 ·have e1 : ((k : Nat) : Int) - 1 = ((k - 1 : Nat) : Int):=by omega
  rw [e1] at this
  have h2 : atI (NV row) ((k - 1 : Nat) : Int) = some (.int (row.getD (k - 1) 0 : Nat)):=by
   refine bQ ?_
   rw [List.getElem?_map,List.getD_eq_getElem?_getD,List.getElem?_eq_getElem (by omega)]; rfl
  rw [h2] at this
  have z:=V.int.inj (Option.some.inj this)
  rw [if_neg (by omega)]; omega
theorem aA5 {n : Nat} {row : List Nat} (hn : row.Nodup) (h2 : 2 ≤ row.length) (pm : row.Perm (List.range n)) : Con n (dB (fun _=>[]) row):=by
 have hc : eR (fun _=>[]) row = true:=by
  unfold eR
  rw [List.all_eq_true]
  intro p _
  simp
 have edge : ∀ k,k < row.length→row.getD k 0∈dB (fun _=>[]) row (row.getD (if k = 0 then row.length - 1 else k - 1) 0):=fun k hk=>by
  refine nN hc ?_
  rw [← aA4 hk]
  exact List.mem_of_getElem? (oY hk)
 have up : ∀ d i,i + d < row.length→Rc (dB (fun _=>[]) row) (row.getD i 0) (row.getD (i + d) 0):=by
  intro d
  induction d with
  | zero=>intro i _; exact .refl _
  | succ d ih =>
   intro i hi
   refine .step (ih i (by omega)) ?_
   have:=edge (i + (d + 1)) hi
   rw [if_neg (by omega)] at this
   exact this
 intro a b ha hb
 obtain ⟨i,hi,rfl⟩ : ∃ i,i < row.length∧row.getD i 0 = a:=by
  obtain ⟨i,hi,e⟩:=List.mem_iff_getElem.mp (pm.mem_iff.mpr (List.mem_range.mpr ha))
  exact ⟨i,hi,by rw [List.getD_eq_getElem?_getD,List.getElem?_eq_getElem hi]; exact e⟩
 obtain ⟨j,hj,rfl⟩ : ∃ i,i < row.length∧row.getD i 0 = b:=by
  obtain ⟨i,hi,e⟩:=List.mem_iff_getElem.mp (pm.mem_iff.mpr (List.mem_range.mpr hb))
  exact ⟨i,hi,by rw [List.getD_eq_getElem?_getD,List.getElem?_eq_getElem hi]; exact e⟩
 have h1:=up (row.length - 1 - i) i (by omega)
 rw [show i + (row.length - 1 - i) = row.length - 1 by omega] at h1
 have h3:=up j 0 (by omega)
 rw [Nat.zero_add] at h3
 have e0:=edge 0 (by omega)
 rw [if_pos rfl] at e0
 exact (Rc.step h1 e0).trans h3
def Upto (names : List Nat) (k : Nat) (g : Nat→List Nat) : Prop:=∀ a∈names.take k,∀ b∈names.take k,Rc g a b
theorem aA6 {names : List Nat} {g : Nat→List Nat} : Upto names 1 g:=by
 intro a ha b hb
 cases names with
 | nil=>cases ha
 | cons x xs =>
  rw [List.take_succ_cons,List.take_zero,List.mem_singleton] at ha hb
  rw [ha,hb]; exact .refl _
theorem aA7 {g : Nat→List Nat} {n v : Nat} (h : inn g n v = 0) {s : Nat} (hs : s < n) : v ∉ g s:=by
 unfold inn at h
 rw [List.countP_eq_zero] at h
 intro z
 exact h s (List.mem_range.mpr hs) (decide_eq_true z)
theorem aAq {names : List Nat} {n i s : Nat} {g : Nat→List Nat} (G : Good n g) (nlt : ∀ x∈names,x < n) (hi : i + 1 < names.length) (U : Upto names (i + 1) g) (hs : s∈names.take (i + 1)) (hv : g (names.getD (i + 1) 0) = []) (hl : (g s).length < 8) : Upto names (i + 2) (dB g [names.getD (i + 1) 0,s]):=by
 have hvm : names.getD (i + 1) 0∈names:=by rw [List.getD_eq_getElem?_getD,List.getElem?_eq_getElem hi]; exact List.getElem_mem _
 have hsn : s < n:=nlt s (List.mem_of_mem_take hs)
 have vn : names.getD (i + 1) 0 ∉ g s:=aA7 (by rw [← G.bal _ (nlt _ hvm),hv]; rfl) hsn
 have hp : prs [names.getD (i + 1) 0,s] = [(s,names.getD (i + 1) 0),(names.getD (i + 1) 0,s)]:=rfl
 have hc : eR g [names.getD (i + 1) 0,s] = true:=by
  unfold eR
  rw [hp]
  simp only [List.all_cons,List.all_nil,Bool.and_true,Bool.and_eq_true,decide_eq_true_eq]
  refine ⟨⟨vn,hl⟩,?_,?_⟩
  ·rw [hv]; simp
  ·rw [hv]; decide
 have e1 : names.getD (i + 1) 0∈dB g [names.getD (i + 1) 0,s] s:=nN hc (by rw [hp]; simp)
 have e2 : s∈dB g [names.getD (i + 1) 0,s] (names.getD (i + 1) 0):=nN hc (by rw [hp]; simp)
 have tk : names.take (i + 2) = names.take (i + 1) ++ [names.getD (i + 1) 0]:=by
  rw [List.take_add_one,List.getElem?_eq_getElem hi,List.getD_eq_getElem?_getD,List.getElem?_eq_getElem hi]; rfl
 have old : ∀ a∈names.take (i + 1),∀ b∈names.take (i + 1),Rc (dB g [names.getD (i + 1) 0,s]) a b:=fun a ha b hb=>(U a ha b hb).mono rJ
 intro a ha b hb
 rw [tk] at ha hb
 rcases List.mem_append.mp ha with ha | ha
 ·rcases List.mem_append.mp hb with hb | hb
  ·exact old a ha b hb
  ·rw [List.mem_singleton.mp hb]; exact .step (old a ha s hs) e1
 ·rw [List.mem_singleton.mp ha]
  rcases List.mem_append.mp hb with hb | hb
  ·exact (Rc.one e2).trans (old s hs b hb)
  ·rw [List.mem_singleton.mp hb]; exact .refl _
theorem aA8 {names : List Nat} {n : Nat} {g : Nat→List Nat} (pm : names.Perm (List.range n)) (U : Upto names n g) : Con n g:=by
 have e : names.take n = names:=List.take_of_length_le (by rw [pm.length_eq,List.length_range]; exact Nat.le_refl _)
 intro a b ha hb
 refine U a ?_ b ?_ <;> rw [e] <;> exact pm.mem_iff.mpr (List.mem_range.mpr (by assumption))
def grow (n : Nat) (g : Nat→List Nat) (S : List Nat) : List Nat:=(List.range n).filter fun x=>S.contains x || S.any fun y=>(g y).contains x
def xP (n : Nat) (g : Nat→List Nat) : Nat→List Nat
 | 0=>[0]
 | k + 1=>grow n g (xP n g k)
theorem qD {n : Nat} {g : Nat→List Nat} : ∀ k,∀ x∈xP n g k,Rc g 0 x
 | 0,x,h=>by rw [List.mem_singleton.mp h]; exact .refl _
 | k + 1,x,h=>by
  have:=(List.mem_filter.mp h).2
  rw [Bool.or_eq_true] at this
  rcases this with z | z
  ·exact qD k x (List.contains_iff_mem.mp z)
  ·obtain ⟨y,hy,e⟩:=List.any_eq_true.mp z
   exact .step (qD k y hy) (List.contains_iff_mem.mp e)
def symB (n : Nat) (g : Nat→List Nat) : Bool:=(List.range n).all fun h=>(g h).all fun o=>decide (o < n) && (g o).contains h
def conB (n : Nat) (g : Nat→List Nat) : Bool:=symB n g && (List.range n).all fun x=>(xP n g 4).contains x
theorem aCt {n : Nat} {g : Nat→List Nat} (s : symB n g = true) {a b : Nat} (ha : a < n) (h : Rc g a b) : b < n∧Rc g b a:=by
 induction h with
 | refl=>exact ⟨ha,.refl _⟩
 | step _ t ih =>
  have:=List.all_eq_true.mp (List.all_eq_true.mp s _ (List.mem_range.mpr ih.1)) _ t
  rw [Bool.and_eq_true,decide_eq_true_eq] at this
  exact ⟨this.1,(Rc.one (List.contains_iff_mem.mp this.2)).trans ih.2⟩
theorem aDl {n : Nat} {g : Nat→List Nat} (h0 : 0 < n) (h : conB n g = true) : Con n g:=by
 unfold conB at h
 rw [Bool.and_eq_true] at h
 have h1 : ∀ x,x < n→Rc g 0 x:=fun x hx=>qD 4 x (List.contains_iff_mem.mp (List.all_eq_true.mp h.2 x (List.mem_range.mpr hx)))
 exact fun a b ha hb=>(aCt h.1 h0 (h1 a ha)).2.trans (h1 b hb)
theorem wCon : ∀ p∈iM,Con (p.2 ^ p.1) (jW p.1 p.2):=by
 have e : (iM.all fun p=>conB (p.2 ^ p.1) (jW p.1 p.2)) = true:=by decide +kernel
 intro p hp
 exact aDl (Nat.lt_of_lt_of_le (by decide) (aBC p hp).2.1) (List.all_eq_true.mp e p hp)
end K61
namespace K61
open PySem L2
theorem aDm {es l : List Expr} {k : Nat} {pos : Pos} {env : Env} : starEach (.Tuple es k pos :: l) env = (false,eval (.Tuple es k pos) env) :: starEach l env:=by rfl
def tc1 : Expr→Option (Int × Int)
 | .Tuple [.Constant (.int a) _ _,.Constant (.int b) _ _] _ _=>some (a,b)
 | _=>none
def tcs : List Expr→Option (List (Int × Int))
 | []=>some []
 | e :: es=>match tc1 e,tcs es with
  | some p,some ps=>some (p :: ps)
  | _,_=>none
theorem aDn {e : Expr} {a b : Int} (h : tc1 e = some (a,b)) : ∃ j p k q x r,e = .Tuple [.Constant (.int a) j p,.Constant (.int b) k q] x r:=by
 unfold tc1 at h
 split at h
 ·cases h; exact ⟨_,_,_,_,_,_,rfl⟩
 ·cases h
theorem aAr {X : Cx} : ∀ {es : List Expr} {ps : List (Int × Int)},tcs es = some ps→PA X es (iW ps)
 | [],ps,h=>by
  cases h; exact aE
 | e :: es,ps,h=>by
  unfold tcs at h
  split at h
  ·rename_i p ps' h1 h2
   cases h
   obtain ⟨a,b⟩:=p
   obtain ⟨j,p,k,q,x,r,rfl⟩:=aDn h1
   exact aA (fK (aA aJ (aA aJ aE))) (aAr h2) aDm
  ·cases h
theorem aAs {X : Cx} {es : List Expr} {t : TA} {i : Expr} {ti : TE} {p pos : Pos} (h : PA X es t) (hi : PE X i ti) (hs : pR i) : PE X (.Subscript (.List es p) i pos) (tOp (rIxL X.K) (tLst t) ti):=aO aR (cG h) hi hs
theorem aDo {X : Cx} {es : List Expr} {ps : List (Int × Int)} {i : Expr} {ti : TE} {p pos : Pos} (h : tcs es = some ps) (hi : PE X i ti) (hs : pR i) : PE X (.Subscript (.List es p) i pos) (tOp (rIxL X.K) (tLst (iW ps)) ti):=aO aR (cG (aAr h)) hi hs
theorem aCu : ∀ j,j < 9→wTab.getD j (0,0) = (((iM.getD j (0,0)).1 : Int),((iM.getD j (0,0)).2 : Int))∧iM.getD j (0,0)∈iM:=by decide +kernel
theorem aAt {ps : List (Int × Int)} {r : R2} {tb : TE} {g : TG} {u : TS} {D : Ends} {σ : St} {H : Hp}
  (h : ∀ ts H1,Same H H1→Holds H1 ts ps.length (fun j=>.tup [.int (ps.getD j (0,0)).1,.int (ps.getD j (0,0)).2])→((ts.map V.ref).length ≤ sizeLine∧∀ L,H1 L = none→tb σ (upd H1 L (.lst (ts.map V.ref))) fun y H2=>r (.ref L) y H2 fun x H3=>g x σ H3 fun σ' H'=>u D σ' H')) :
  tSeq (tAsg (tOp r (tLst (iW ps)) tb) g) u D σ H:=by
 unfold tSeq tAsg tOp tLst
 exact aAo ps _ _ _ h
theorem tY {b h j : Nat} : (wRow b h j).length ≤ b:=by
 unfold wRow
 rw [List.length_map]
 have:=List.length_filter_le (fun o=>decide (o ≠ h / b ^ j % b)) (List.range b)
 rw [List.length_range] at this
 exact this
theorem rK {b h : Nat} : ∀ j,((List.range j).flatMap (wRow b h)).length ≤ j * b
 | 0=>by simp
 | j + 1=>by
  have ih:=rK (b:=b) (h:=h) j
  have h1:=tY (b:=b) (h:=h) (j:=j)
  rw [List.range_succ,List.flatMap_append,List.length_append,Nat.succ_mul]
  have e : (List.flatMap (wRow b h) [j]).length = (wRow b h j).length:=by simp
  omega
abbrev pB : Stmt:=top 33
theorem nbW : (["_law_other", "_law_house", "_law_digit", "_law_power"] : List Str).Nodup:=by decide +kernel
section
variable {P : Program} {w : World} {K : PySem.W.Frag} {mg : Str→Option Value} {base : Heap}
theorem fE : aY ["_law_pot_here", "_law_figures", "_law_base", "_law_powers", "_law_k", "_law_outs", "_law_house", "_law_power", "_law_digit"] ["_law_pot_here"] (aI pB):=⟨rfl,rfl,rfl,by decide +kernel,rfl,by decide +kernel,by decide +kernel⟩
def lU (H H' : Hp) (O : Addr) (as : List Addr) (n : Nat) (g : Nat→List Nat) : Prop:=Good n g∧2 ≤ n∧n ≤ 32∧bC H' O as n g∧H O = none∧(∀ h,h < n→H (as.getD h 0) = none)∧Con n g
def mL : Sp:=fun vs H Q _=>∃ (p : Addr),vs = [.ref p]∧aN H p∧∀ (O : Addr) (as : List Addr) (n : Nat) (g : Nat→List Nat) (H' : Hp),lU H H' O as n g→aL p H H'→aN H' p→Q (.ref O) H'
theorem aA9 {f : Addr} {fd : FuncData} (F : Fun K "_law_words" "_law_words" pB f fd) (B : Bl mg) (T : Cal P w K mg base CX0 1 "_law_take" ["_law_pot_here", "_law_many"] eW) : FnOk P w K mg base CX0 2 f fd ["_law_pot_here"] mL:=by
 refine F.ok fE (fun vs H Q E h=>?_) (fun cdv A outer s H vs Q E hr h=>?_)
 ·obtain ⟨p,rfl,_⟩:=h
  rfl
 ·obtain ⟨p,rfl,hp,q⟩:=h
  have hu : (A.deeper (PyProof.Rows.envOfC "_law_words" (aI pB) s.heap.objs.size f cdv)).units + 1 < cLine:=by have:=hr.un; omega
  refine' ⟨_,aH (t:=tAsg (tOp (rIxL K) (tLst (iW wTab)) (mC eW [] E0 (bV (tVar 0) (bV (tC (.int 9)) tNil)))) (gTup K 2 (cS (bG 1) (cS (bG 2) gNil)))) ?a ?b,?_⟩
  case a =>
   refine' fH ?x ?g ?z1 ?z2 ?z3
   case x =>
    refine' aDo ?y1 ?y2 ?y3
    case y1=>kernel_rfl
    case y2=>exact aS T hr aU (aA (pv 0) (aA aJ aE))
    case y3=>exact fun _ _=>rfl
   case g=>exact dE (n:=2) rfl (bD (aM (i:=1) fE.nd rfl (Or.inl rfl)) (bD (aM (i:=2) fE.nd rfl (Or.inl rfl)) cM))
   case z1=>rfl
   case z2=>rfl
   case z3=>rfl
  case b =>
   refine' (aH (aV (i:=3) fE.nd rfl (Or.inl rfl) (cG (aA aJ aE)))
   (aH (bW PassesOwn.never rfl (cB rfl B.range (aA (pv 1) aE)) (aM (i:=4) fE.nd rfl (Or.inl rfl))
    (aK (bR (eA PySem.F.plainAttrs_list PySem.F.slot_list_append PySem.F.type_list_append dD (pv 3) (aA (bA jC (aO aR (pv 3) (dH cX aJ) (fun _ _=>rfl)) (pv 2)) aE)))))
   (aH (aV (i:=5) fE.nd rfl (Or.inl rfl) nC)
   (aH (bW PassesOwn.never rfl (cB rfl B.range (aA (aO aR (pv 3) (dH cX aJ) (fun _ _=>rfl)) aE)) (aM (i:=6) fE.nd rfl (Or.inr rfl))
    (aH (kE hu (pv 5) (pv 6) (cG aE) rfl)
    (aK (bW PassesOwn.never rfl (cF (mZ pS (pv 3) pP (pQ (dH cX aJ)))) (aM (i:=7) fE.nd rfl (Or.inr rfl))
     (aH (aV (i:=8) fE.nd rfl (Or.inr rfl) (bA eJ (bA pN (pv 6) (pv 7)) (pv 2)))
     (aK (bR (eA PySem.F.plainAttrs_list PySem.F.slot_list_extend PySem.F.type_list_extend qU (dA hu (pv 5) (pv 6) (fun _ _=>rfl)) (aA ?c aE)))))))))
   (aK (bB (pv 5)))))))
   case c =>
    refine' cZ (g:=bG 0) (tt:=iH (tOp rNe (tVar 0) (tVar 2))) (te:=tOp (rI0 fun i j=>.int (i + j)) (tVar 1) (tOp (rI CMul fun i j=>.int (i * j)) (tOp (rI0 fun i j=>.int (i - j)) (tVar 0) (tVar 2)) (tVar 3))) (NB:=["_law_other", "_law_house", "_law_digit", "_law_power"]) (src:=[none,some 6,some 8,some 7]) (bZ (by kernel_rfl)) rfl
     (cB rfl B.range (aA (pv 2) aE)) ?g ?t ?e
    case g=>exact fun cl C s₃ H₃ fp=>aM (i:=0) nbW rfl (Or.inl rfl) (Or.inr rfl)
    case t=>exact fun cl C s₃ H₃ fp=>eN (aZ hU (pv 0) (pv 2) (aX _))
    case e=>exact fun cl C s₃ H₃ fp=>bA bX (pv 1) (bA jC (bA jB (pv 0) (pv 2)) (pv 3))
  refine aAt fun ts H1 sm1 hts=>⟨by rw [List.length_map,hts.1]; show 9 ≤ sizeLine; decide,fun L hL=>?_⟩
  have s1 : Same H (upd H1 L (.lst (ts.map V.ref))):=sm1.trans (aG hL)
  refine ⟨_,rfl,p,9,rfl,by decide,by decide,hp.same s1,fun d a b d0 d1 a0 b0 b1=>?_⟩
  have hH1 : H L = none:=sm1.free hL
  have npL : p ≠ L:=by obtain ⟨_,_,e,_⟩:=hp; exact aF e hH1
  have hd : d.toNat < ts.length:=by rw [hts.1]; show d.toNat < 9; omega
  obtain ⟨w1,w2⟩:=aCu d.toNat (by omega)
  obtain ⟨gG,g1,g2,g3,g4,g5,g6⟩:=aBC _ w2
  have gC:=wCon _ w2
  generalize hfb : iM.getD d.toNat (0,0) = fb at *
  obtain ⟨fg,bs⟩:=fb
  dsimp only at w1 gG gC g1 g2 g3 g4 g5 g6
  have ht:=hts.2 d.toNat (by show d.toNat < 9; omega)
  dsimp only at ht
  rw [w1] at ht
  dsimp only at ht
  have npt : ts.getD d.toNat 0 ≠ p:=by
   obtain ⟨x,y,e,_⟩:=hp
   exact bO ht (sm1 _ _ e) (by intro z; cases z)
  refine ⟨L,ts.map V.ref,d,.ref (ts.getD d.toNat 0),rfl,rfl,SqL.of (by rw [aD npL.symm,aB]),?_,?_⟩
  ·have:=bQ (xs:=ts.map V.ref) (j:=d.toNat) (v:=.ref (ts.getD d.toNat 0)) (by rw [List.getElem?_map,List.getElem?_eq_getElem hd,List.getD_eq_getElem?_getD,List.getElem?_eq_getElem hd]; rfl)
   rw [Int.toNat_of_nonneg d0] at this
   exact this
  refine ⟨_,_,rfl,SqT.of (by rw [aD npt,aD (aF ht hL)]; exact ht),rfl,_,_,rfl,_,_,rfl,rfl,?_⟩
  refine ⟨by show 1 ≤ sizeLine; decide,fun Pw hPw=>?_⟩
  have se0 : aL p H (upd (upd (upd H1 L (.lst (ts.map V.ref))) p (.lst [.int a,.int b])) Pw (.lst [.int 1])):=by
   intro c o e n
   have e1 : (upd (upd H1 L (.lst (ts.map V.ref))) p (.lst [.int a,.int b])) c = some o:=by rw [aD n]; exact s1 _ _ e
   rw [aD (aF e1 hPw)]; exact e1
  have npP : p ≠ Pw:=aF aB hPw
  have po0 : aN (upd (upd (upd H1 L (.lst (ts.map V.ref))) p (.lst [.int a,.int b])) Pw (.lst [.int 1])) p:=⟨a,b,by rw [aD npP,aB],a0,b0,b1⟩
  have hPH : H Pw = none:=by
   cases z : H Pw with
   | none=>rfl
   | some o =>
    have e1 : (upd (upd H1 L (.lst (ts.map V.ref))) p (.lst [.int a,.int b])) Pw = some o:=by rw [aD npP.symm]; exact s1 _ _ z
    rw [e1] at hPw; cases hPw
  refine ⟨_,rfl,fg,rfl,by omega,by omega,cW (n:=fg) (lo:=0) (fun i σ H2=>(∃ v,σ = [some (.ref p),some (.int fg),some (.int bs),some (.ref Pw),v,none,none,none,none])∧aL p H H2∧aN H2 p∧H2 Pw = some (.lst (NV (pws bs i)))) ⟨⟨_,rfl⟩,se0,po0,aB⟩ ?_ ?_⟩
  ·rintro i σ H2 hi ⟨⟨v,rfl⟩,se,po,hw⟩
   obtain ⟨pl,pg⟩:=aAp (j:=i) g5 (by omega) g2
   refine ⟨_,rfl,.inl ⟨rfl,_,SqL.of hw⟩,_,rfl,_,rfl,Pw,_,_,_,rfl,rfl,SqL.of hw,tX,_,rfl,_,_,rfl,rfl,.inl ⟨by omega,by omega⟩,Pw,_,_,rfl,rfl,hw,?_,?_⟩
   ·rw [List.length_map]; unfold pws; rw [List.length_map,List.length_range]; exact Nat.lt_of_lt_of_le (show i + 1 < 6 by omega) (by decide)
   ·refine ⟨⟨_,rfl⟩,bY se hPH,?_,?_⟩
    ·obtain ⟨x,y,e,r⟩:=po
     exact ⟨x,y,by rw [aD npP]; exact e,r⟩
    ·rw [aB,aA3]
     unfold NV
     rw [List.map_append,Nat.pow_succ,List.map_cons,List.map_nil,Int.natCast_mul]
  ·rintro σ H2 ⟨⟨kk,rfl⟩,se,po,hw⟩ O hO
   have hOH : H O = none:=se.free (by obtain ⟨x,y,e,_⟩:=po; rw [e]; intro z; cases z) hO
   have npO : p ≠ O:=by obtain ⟨x,y,e,_⟩:=po; exact aF e hO
   have nPO : Pw ≠ O:=aF hw hO
   obtain ⟨N,hN⟩ : ∃ N,N = bs ^ fg:=⟨_,rfl⟩
   have hlast : atI (NV (pws bs fg)) (-1) = some (.int (N : Nat)):=by rw [hN]; exact tX
   have g2':=g2
   rw [← hN] at g1 g2 gG gC
   refine ⟨_,rfl,_,rfl,Pw,_,_,_,rfl,rfl,SqL.of (by rw [aD nPO]; exact hw),hlast,N,rfl,by omega,by omega,cW (n:=N) (lo:=0) (fun i σ H3=>(∃ v6 v7 v8,σ = [some (.ref p),some (.int fg),some (.int bs),some (.ref Pw),kk,some (.ref O),v6,v7,v8])∧∃ as,bC H3 O as i (jW fg bs)∧aL p H H3∧aN H3 p∧H3 Pw = some (.lst (NV (pws bs fg)))∧(∀ h,h < i→H (as.getD h 0) = none)∧Off as i Pw)
    ⟨⟨_,_,_,rfl⟩,[],⟨show upd H2 O (.dK []) O = some (.dK (aW [] 0)) from aB,Holds.nil,fun i j hi=>absurd hi (by omega)⟩,bY se hOH,po.same (aG hO),by rw [aD nPO]; exact hw,fun h hh=>absurd hh (by omega),fun h hh=>absurd hh (by omega)⟩ ?_ ?_⟩
   ·rintro i σ H3 hi ⟨⟨v6,v7,v8,rfl⟩,as,ho,se3,po3,hw3,fr,ofw⟩
    have e0 : (0 : Int) + (i : Int) = i:=Int.zero_add _
    rw [e0]
    refine ⟨by show 0 ≤ sizeLine; decide,fun t ht=>?_⟩
    have htH : H t = none:=se3.free (by obtain ⟨x,y,e,_⟩:=po3; rw [e]; intro z; cases z) ht
    have oft : Off as i t:=ho.offN ht
    have ho4:=ho.same (aG (o:=.lst []) ht)
    have ho5:=ho4.push (ys:=[]) aB oft
    have npt2 : p ≠ t:=by obtain ⟨x,y,e,_⟩:=po3; exact aF e ht
    have nPt : Pw ≠ t:=aF hw3 ht
    have po5 : aN (upd (upd H3 t (.lst [])) O (.dK (putK (aW as i) (.inl (i : Int)) (.ref t)))) p:=by
     obtain ⟨x,y,e,r⟩:=po3
     exact ⟨x,y,by rw [aD npO,aD npt2]; exact e,r⟩
    refine ⟨_,rfl,_,rfl,O,_,rfl,DPut.k (k:=.inl (i : Int)) ho4.dict (by unfold aW; rw [List.length_map,List.length_range]; exact Nat.lt_of_lt_of_le (show i < 32 by omega) (by decide)),?_⟩
    have hw5 : (upd (upd H3 t (.lst [])) O (.dK (putK (aW as i) (.inl (i : Int)) (.ref t)))) Pw = some (.lst (NV (pws bs fg))):=by rw [aD nPO,aD nPt]; exact hw3
    refine ⟨_,rfl,_,rfl,_,rfl,Pw,_,rfl,SqL.of hw5,fun S hS=>?_⟩
    rw [aCs]
    have fr' : ∀ h,h < i + 1→H ((as ++ [t]).getD h 0) = none:=fun h hh=>by
     rw [bL ho.rows.1]
     by_cases e : h = i
     ·rw [if_pos e]; exact htH
     ·rw [if_neg e]; exact fr h (by omega)
    have ofw' : Off (as ++ [t]) (i + 1) Pw:=fun h hh=>by
     rw [bL ho.rows.1]
     by_cases e : h = i
     ·rw [if_pos e]; exact nPt
     ·rw [if_neg e]; exact ofw h (by omega)
    have ofp' : Off (as ++ [t]) (i + 1) p:=fun h hh z=>by
     have:=fr' h hh
     rw [← z] at this
     obtain ⟨x,y,e,_⟩:=hp
     rw [e] at this; cases this
    have se5 : aL p H (upd (upd H3 t (.lst [])) O (.dK (putK (aW as i) (.inl (i : Int)) (.ref t)))):=bY (bY se3 htH) hOH
    have hSH : H S = none:=se5.free (by obtain ⟨x,y,e,_⟩:=po5; rw [e]; intro z; cases z) hS
    have ofS : Off (as ++ [t]) (i + 1) S:=ho5.offN hS
    refine ⟨S,rfl,⟨_,SqL.of aB⟩,fP (K:=K) (a:=S) (xs:=NV ((List.range fg).map fun j=>bs ^ j)) (fun j σ H4=>(∃ v7 v8,σ = [some (.ref p),some (.int fg),some (.int bs),some (.ref Pw),kk,some (.ref O),some (.int (i : Int)),v7,v8])∧bC H4 O (as ++ [t]) (i + 1) (setG (jW fg bs) i ((List.range j).flatMap (wRow bs i)))∧aL p H H4∧aN H4 p∧H4 Pw = some (.lst (NV (pws bs fg)))∧H4 S = some (.lst (NV ((List.range fg).map fun j=>bs ^ j))))
     ⟨⟨_,_,rfl⟩,ho5.same (aG hS),bY se5 hSH,po5.same (aG hS),aG hS _ _ hw5,aB⟩ (fun j σ H4 _ ⟨_,_,_,_,_,z⟩=>SqL.of z) ?_ ?_⟩
    ·rintro j x σ H4 hx ⟨⟨v7,v8,rfl⟩,o4,se4,po4,hw4,hS4⟩
     rw [List.getElem?_map] at hx
     have hj : j < fg:=by
      cases z : ((List.range fg).map fun j=>bs ^ j)[j]? with
      | none=>rw [z] at hx; cases hx
      | some y=>have:=(List.getElem?_eq_some_iff.mp z).1; rw [List.length_map,List.length_range] at this; exact this
     have hxe : x = .int ((bs ^ j : Nat) : Int):=by
      rw [List.getElem?_map,List.getElem?_range hj] at hx
      exact (Option.some.inj hx).symm
     subst hxe
     obtain ⟨pl,pg⟩:=aAp (j:=j) g5 (by omega) g2'
     obtain ⟨pw,hpw⟩ : ∃ pw,pw = bs ^ j:=⟨_,rfl⟩
     rw [← hpw] at pl pg ⊢
     have hdg : ((i : Int) / (pw : Int)) % (bs : Int) = ((i / pw % bs : Nat) : Int):=by rw [Int.natCast_emod,Int.natCast_ediv]
     refine ⟨_,rfl,_,rfl,_,_,rfl,rfl,⟨by omega,by omega⟩,_,rfl,_,_,rfl,rfl,by omega,?_⟩
     change bG 8 (V.int ((i : Int) / (pw : Int) % (bs : Int))) _ H4 _
     rw [hdg]
     have hlt : i < i + 1:=Nat.lt_succ_self _
     refine ⟨_,rfl,_,rfl,O,_,rfl,o4.get hlt,.inl ⟨rfl,_,SqL.of (o4.rows.2 _ hlt)⟩,_,rfl,bs,rfl,by omega,by omega,fun D hD=>?_⟩
     refine eZ (n:=bs) (lo:=0) (fun k ys σ H5=>(∃ o,σ = [o,some (.int (i : Int)),some (.int ((i / pw % bs : Nat) : Int)),some (.int (pw : Int))])∧ys = NV (((List.range k).filter fun o=>decide (o ≠ i / pw % bs)).map fun o=>i + o * pw - i / pw % bs * pw)∧H5 = upd H4 D (.lst ys)) ⟨⟨_,rfl⟩,rfl,rfl⟩ ?_ ?_
     ·rintro k ys σ H5 Kt Kf hk ⟨⟨o,rfl⟩,hys,rfl⟩ kt kf
      have e2 : (0 : Int) + (k : Int) = k:=Int.zero_add _
      rw [e2]
      refine ⟨_,rfl,_,rfl,rfl,_,rfl,?_⟩
      have dgl : i / pw % bs < bs:=Nat.mod_lt _ (by omega)
      have hz : ys.length < sizeLine:=by
       rw [hys,List.length_map,List.length_map]
       have:=List.length_filter_le (fun o=>decide (o ≠ i / pw % bs)) (List.range k)
       rw [List.length_range] at this
       exact Nat.lt_of_lt_of_le (show _ < 6 by omega) (by decide)
      refine ite2 (fun e=>?_) (fun e=>?_)
      ·have hne : k ≠ i / pw % bs:=by
        intro z
        rw [← z] at e
        simp at e
       refine ⟨_,rfl,_,rfl,_,rfl,_,_,rfl,rfl,_,rfl,_,_,rfl,rfl,.inl ⟨by omega,by omega⟩,_,_,rfl,rfl,?_⟩
       refine kt _ _ _ aB hz ⟨⟨_,rfl⟩,?_,dR⟩
       rw [List.range_succ,List.filter_append,hys]
       have e4 : [k].filter (fun o=>decide (o ≠ i / pw % bs)) = [k]:=by rw [List.filter_cons,if_pos (by simpa using hne)]; rfl
       rw [e4,List.map_append]
       unfold NV
       rw [List.map_append,List.map_cons,List.map_nil,List.map_cons,List.map_nil,wInt,Int.natCast_emod,Int.natCast_ediv]
      ·have heq : k = i / pw % bs:=by
        by_cases z : k = i / pw % bs
        ·exact z
        ·exfalso
         apply e
         have : ¬ (V.int (k : Int) = V.int ((i / pw % bs : Nat) : Int)):=fun y=>z (by have:=V.int.inj y; omega)
         simp only [decide_eq_false this]
         rfl
       refine kf _ _ ⟨⟨_,rfl⟩,?_,rfl⟩
       rw [List.range_succ,List.filter_append,hys]
       have e4 : [k].filter (fun o=>decide (o ≠ i / pw % bs)) = []:=by rw [List.filter_cons,if_neg (by simpa using heq)]; rfl
       rw [e4,List.append_nil]
     ·rintro ys σ H5 ⟨_,hys,rfl⟩
      have hys' : ys = NV (wRow bs i j):=by rw [hys]; unfold wRow; rw [hpw]
      have ofD : Off (as ++ [t]) (i + 1) D:=o4.offN hD
      have o5:=o4.same (aG (o:=.lst ys) hD)
      refine ⟨_,D,_,_,rfl,rfl,o5.rows.2 _ hlt,aB,?_,?_⟩
      ·rw [List.length_map,fZ,hys',List.length_map]
       have h1:=rK (b:=bs) (h:=i) j
       have h2:=tY (b:=bs) (h:=i) (j:=j)
       have h3 : j * bs ≤ 4 * 5:=Nat.mul_le_mul (by omega) g6
       exact Nat.le_trans (show _ ≤ 25 by omega) (by decide)
      ·have e6 : NV (setG (jW fg bs) i ((List.range j).flatMap (wRow bs i)) i) ++ ys = NV ((List.range (j + 1)).flatMap (wRow bs i)):=by
        rw [fZ,hys',List.range_succ,List.flatMap_append]
        unfold NV
        rw [List.map_append]
        simp
       rw [e6]
       have hDH : H D = none:=se4.free (by obtain ⟨x,y,e,_⟩:=po4; rw [e]; intro z; cases z) hD
       have nSD : S ≠ D:=aF hS4 hD
       have nPD : Pw ≠ D:=aF hw4 hD
       have npD : p ≠ D:=by obtain ⟨x,y,e,_⟩:=po4; exact aF e hD
       refine ⟨⟨_,_,rfl⟩,(o5.put hlt).cong fun x hx=>?_,bY (bY se4 hDH) (fr' i hlt),?_,?_,?_⟩
       ·by_cases e : x = i
        ·rw [e,fZ,fZ]
        ·rw [gX e,gX e,gX e]
       ·obtain ⟨x,y,e,r⟩:=po4
        exact ⟨x,y,by rw [aD (ofp' i hlt),aD npD]; exact e,r⟩
       ·rw [aD (ofw' i hlt),aD nPD]; exact hw4
       ·rw [aD (ofS i hlt),aD nSD]; exact hS4
    ·rintro σ H4 ⟨⟨v7,v8,rfl⟩,o4,se4,po4,hw4,_⟩
     rw [List.length_map,List.length_map,List.length_range] at o4
     refine ⟨⟨_,_,_,rfl⟩,as ++ [t],o4.cong fun x hx=>?_,se4,po4,hw4,fr',ofw'⟩
     by_cases e : x = i
     ·rw [e,fZ]; rfl
     ·rw [gX e]
   ·rintro σ H3 ⟨⟨v6,v7,v8,rfl⟩,as,ho,se3,po3,hw3,fr,_⟩
    exact ⟨_,rfl,q O as N (jW fg bs) H3 ⟨gG,g1,g2,ho,hOH,fr,gC⟩ se3 po3⟩
end
end K61
namespace K61
open PySem L2
abbrev sNet : Stmt:=top 34
theorem nbH1 : (["_law_house"] : List Str).Nodup:=by decide +kernel
theorem nbHO : (["_law_house", "_law_outs"] : List Str).Nodup:=by decide +kernel
def natV : V→Nat
 | .int i=>i.toNat
 | _=>0
theorem qE {ys : List V} {xs : List Nat} (h : ys.Perm (NV xs)) : ∃ zs : List Nat,ys = NV zs∧zs.Perm xs:=by
 refine ⟨ys.map natV,?_,?_⟩
 ·unfold NV
  rw [List.map_map]
  have : ∀ v∈ys,((fun (j : Nat)=>V.int j) ∘ natV) v = v:=by
   intro v hv
   obtain ⟨j,_,rfl⟩:=List.mem_map.mp (h.mem_iff.mp hv)
   show V.int (((j : Int).toNat : Nat) : Int) = _
   rw [Int.toNat_natCast]
  conv=>lhs; rw [← List.map_id ys]
  exact List.map_congr_left fun v hv=>(this v hv).symm
 ·have:=h.map natV
  unfold NV at this
  rw [List.map_map] at this
  have e : xs.map (natV ∘ fun (j : Nat)=>V.int j) = xs:=by
   conv=>rhs; rw [← List.map_id xs]
   exact List.map_congr_left fun j _=>Int.toNat_natCast j
  rw [e] at this
  exact this
theorem lU.up {H G H' : Hp} {p O : Addr} {as : List Addr} {n : Nat} {g : Nat→List Nat} (h : lU G H' O as n g) (s : aL p H G) (hp : G p ≠ none) : lU H H' O as n g :=
 ⟨h.1,h.2.1,h.2.2.1,h.2.2.2.1,s.free hp h.2.2.2.2.1,fun x hx=>s.free hp (h.2.2.2.2.2.1 x hx),h.2.2.2.2.2.2⟩
theorem aN.some {H : Hp} {p : Addr} (h : aN H p) : H p ≠ none:=by obtain ⟨a,b,e,_⟩:=h; rw [e]; intro z; cases z
theorem kW {as : List Addr} : ∀ n,gR [] (aW as n) = aW as n
 | 0=>rfl
 | n + 1=>by
  have e : aW as (n + 1) = aW as n ++ [(.inl (n : Int),.ref (as.getD n 0))]:=by unfold aW; rw [List.range_succ,List.map_append]; rfl
  have ih:=kW (as:=as) n
  rw [e]
  unfold gR at ih ⊢
  rw [List.foldl_append,ih]
  exact jE _ (rH (Nat.le_refl _))
theorem aAu {n : Nat} : Good n (fun _=>[]):=⟨fun _ _=>List.nodup_nil,fun _ _ o ho=>(nomatch ho),fun _ _=>by simp,fun h _=>by
 unfold inn
 symm
 rw [List.length_nil,List.countP_eq_zero]
 intro o _
 simp⟩
theorem aD4 {c : Prop} [Decidable c] {A : Prop} {C : Hp→Prop} {H0 : Hp} (G : Hp→Prop) (hC : ∀ Hc,G Hc→C Hc) (h1 : c→(∀ Hc,G Hc→C Hc)→A) (h2 : ¬ c→G H0) : if c then A else C H0:=by
 by_cases h : c
 ·rw [if_pos h]; exact h1 h hC
 ·rw [if_neg h]; exact hC _ (h2 h)
theorem tZ {js : List Nat} {k : Nat} : cutV (NV js) none (some (k : Int)) = NV (js.take k):=by
 have h1 : HT.sIx (NV js).length 0 none = 0:=rfl
 have h2 : HT.sIx (NV js).length (NV js).length (some (k : Int)) = min k js.length:=by
  unfold HT.sIx
  simp
  try omega
 unfold cutV
 rw [h1,h2,List.drop_zero,Nat.sub_zero]
 unfold NV
 rw [List.map_take,List.take_eq_take_iff]
 simp
 try omega
theorem jM {js : List Nat} {k : Nat} (h : k < js.length) : js.getD k 0∈js:=by rw [List.getD_eq_getElem?_getD,List.getElem?_eq_getElem h]; exact List.getElem_mem h
theorem mN {js : List Nat} {k : Nat} (h : k < js.length) : js.getD k 0 = js[k]:=by rw [List.getD_eq_getElem?_getD,List.getElem?_eq_getElem h]; rfl
theorem xQ {js : List Nat} (nn : js.Nodup) {x y : Nat} (hx : x < js.length) (hy : y < js.length) (e : js.getD x 0 = js.getD y 0) : x = y:=by
 rw [mN hx,mN hy] at e
 have:=List.pairwise_iff_getElem.mp (List.nodup_iff_pairwise_ne.mp nn)
 rcases Nat.lt_trichotomy x y with z | z | z
 ·exact absurd e (this x y hx hy z)
 ·exact z
 ·exact absurd e.symm (this y x hy hx z)
theorem lC {js : List Nat} {k a : Nat} (h : a∈js.take k) : ∃ x,x < k∧x < js.length∧js.getD x 0 = a:=by
 obtain ⟨x,hx,e⟩:=List.mem_take_iff_getElem.mp h
 exact ⟨x,by omega,by omega,by rw [mN (by omega)]; exact e⟩
section
variable {P : Program} {w : World} {K : PySem.W.Frag} {mg : Str→Option Value} {base : Heap}
theorem iN : aY ["_law_pot_here", "_law_way", "_law_many", "_law_names", "_law_outs", "_law_k", "_law_some", "_law_turn", "_law_wide"] ["_law_pot_here"] (aI sNet):=⟨rfl,rfl,rfl,by decide +kernel,rfl,by decide +kernel,by decide +kernel⟩
theorem aDp {f : Addr} {fd : FuncData} (F : Fun K "_law_net" "_law_net" sNet f fd) (B : Bl mg) (T : Cal P w K mg base CX0 1 "_law_take" ["_law_pot_here", "_law_many"] eW) (SH : Cal P w K mg base CX0 2 "_law_shuffled" ["_law_pot_here", "_law_some"] (oX K))
  (J : Cal P w K mg base CX0 1 "_law_joined" ["_law_outs", "_law_row"] tV) (W : Cal P w K mg base CX0 2 "_law_words" ["_law_pot_here"] mL) : FnOk P w K mg base CX0 3 f fd ["_law_pot_here"] mL:=by
 refine F.ok iN (fun vs H Q E h=>?_) (fun cdv A outer s H vs Q E hr h=>?_)
 ·obtain ⟨p,rfl,_⟩:=h
  rfl
 ·obtain ⟨p,rfl,hp,q⟩:=h
  have hu : (A.deeper (PyProof.Rows.envOfC "_law_net" (aI sNet) s.heap.objs.size f cdv)).units + 1 < cLine:=by have:=hr.un; omega
  have hr1 : Room 1 (A.deeper (PyProof.Rows.envOfC "_law_net" (aI sNet) s.heap.objs.size f cdv)):=hr.mono (by decide)
  refine' ⟨_,aH (aV (i:=1) iN.nd rfl (Or.inl rfl) (aS T hr1 aU (aA (pv 0) (aA aJ aE))))
   (aH (bN (aZ cT (pv 1) aJ (aX _)) (aK (bB (aS W hr aU (aA (pv 0) aE)))) bE)
   (aH (aV (i:=2) iN.nd rfl (Or.inl rfl) (bA bX aJ (aS T hr1 aU (aA (pv 0) (aA aJ aE)))))
   (aH (aV (i:=3) iN.nd rfl (Or.inl rfl) (aS SH hr aU (aA (pv 0) (aA (bT (wY rfl) (by rfl) B.lst PyProof.Rows.boot_list (aA (bT uU (by rfl) B.range PyProof.Rows.boot_range (aA (pv 2) aE)) aE)) aE))))
   (aH (aV (i:=4) iN.nd rfl (Or.inr rfl) (bT (oN rfl) (by rfl) B.dict PyProof.Rows.boot_dict (aA ?c1 aE)))
   (aH (bN (aZ cT (pv 1) aJ (aX _)) (aK (bR (aS J hr1 aU (aA (pv 4) (aA (pv 3) aE))))) bE)
   (aH (bW PassesOwn.never rfl (lD rfl B.range (aA aJ (aA (bA jC (pv 2) (bT jR (by rfl) B.int PyProof.Rows.boot_int (aA (cN nU (pv 1) aJ (aX _)) aE))) aE))) (aM (i:=5) iN.nd rfl (Or.inl rfl))
    (aH (eB (i:=6) (g:=bG 0) (tt:=iH (tOp (rI0 fun i j=>.bl (decide (i < j))) (tCB (fun xs H Q=>∃ p ys,xs = [V.ref p]∧(SqL K H p ys∨SqT K H p ys)∧Q (.int ys.length) H) (bV (oH (tVar 1) (tVar 0)) tNil)) (tC (.int 8)))) (te:=tVar 0) (NB:=["_law_house", "_law_outs"]) (src:=[none,some 4]) (bZ (by kernel_rfl)) rfl (cF (mZ pS (pv 3) pP (pQ (pv 5)))) ?g2 ?t2 ?e2 iN.nd rfl rfl rfl)
    (aK (bR (aS J hr1 aU (aA (pv 4) (aA (cG (aA (aO aR (pv 3) (pv 5) (fun _ _=>rfl)) (aA (aO aR (pv 6) (aS T hr1 aU (aA (pv 0) (aA (aQ aT (by rfl) B.len PySem.boot_len (aA (pv 6) aE)) aE))) (fun _ _=>rfl)) aE))) aE)))))))
   (aH (bW PassesOwn.never rfl (cB rfl B.range (aA (aS T hr1 aU (aA (pv 0) (aA aJ aE))) aE)) (aM (i:=7) iN.nd rfl (Or.inl rfl))
    (aH (aV (i:=8) iN.nd rfl (Or.inl rfl) (bA bX aJ (bA jC (aS T hr1 aU (aA (pv 0) (aA aJ aE))) (bT jR (by rfl) B.int PyProof.Rows.boot_int (aA (cN cT (pv 1) aJ (aX _)) aE)))))
    (aK (bR (aS J hr1 aU (aA (pv 4) (aA (mZ pS (aS SH hr aU (aA (pv 0) (aA (pv 3) aE))) pP (pQ (pv 8))) aE)))))))
   (aK (bB (pv 4)))))))))),?_⟩
  case c1 =>
   refine' cZ (g:=bG 0) (te:=tTup (bV (tVar 0) (bV (tLst tNil) tNil))) (NB:=["_law_house"]) (src:=[none]) (bZ (by kernel_rfl)) rfl
    (cB rfl B.range (aA (pv 2) aE)) ?g ?t ?e
   case g=>exact fun cl C s₃ H₃ fp=>aM (i:=0) nbH1 rfl (Or.inl rfl) (Or.inr rfl)
   case t=>exact fun cl C s₃ H₃ fp=>dU
   case e=>exact fun cl C s₃ H₃ fp=>fK (aA (pv 0) (aA (cG aE) aE))
  case g2=>exact fun cl C s₃ H₃ fp=>aM (i:=0) nbHO rfl (Or.inl rfl) (Or.inr rfl)
  case t2=>exact fun cl C s₃ H₃ fp=>eN (aZ iG (aQ aT (by rfl) B.len PySem.boot_len (aA (dA hu (pv 1) (pv 0) (fun _ _=>rfl)) aE)) aJ (aX _))
  case e2=>exact fun cl C s₃ H₃ fp=>pv 0
  refine ⟨_,rfl,p,4,rfl,by decide,by decide,hp,fun way a b y0 y1 a0 b0 b1=>?_⟩
  have po1 : aN (upd H p (.lst [.int a,.int b])) p:=aN.upd a0 b0 b1
  have se1 : aL p H (upd H p (.lst [.int a,.int b])):=aL.upd
  refine ⟨_,rfl,rfl,_,rfl,?_⟩
  refine ite2 (fun e=>?_) (fun e=>?_)
  ·exact ⟨_,rfl,p,rfl,po1,fun O as n g H' nn se po=>q O as n g H' (nn.up se1 po1.some) (se1.trans se) po⟩
  ·refine ⟨_,rfl,p,19,rfl,by decide,by decide,po1,fun mm a2 b2 m0 m1 c0 c1 c2=>⟨_,_,rfl,rfl,?_⟩⟩
   rw [dR]
   have po2 : aN (upd H p (.lst [.int a2,.int b2])) p:=aN.upd c0 c1 c2
   have se2 : aL p H (upd H p (.lst [.int a2,.int b2])):=aL.upd
   obtain ⟨n,hn⟩ : ∃ n : Nat,(n : Int) = 2 + mm:=⟨(2 + mm).toNat,by omega⟩
   change bG 2 (V.int (2 + mm)) _ _ _
   rw [← hn]
   refine ⟨_,rfl,_,rfl,n,rfl,fun R hR=>⟨R,n,rfl,aB,by omega,fun L hL=>?_⟩⟩
   have s12 : Same (upd H p (.lst [.int a2,.int b2])) (upd (upd (upd H p (.lst [.int a2,.int b2])) R (.rng 0 n)) L (.lst ((List.range n).map fun (i : Nat)=>V.int i))):=(aG hR).trans (aG hL)
   have npL : p ≠ L:=by obtain ⟨_,_,e,_⟩:=po2; exact aF ((aG hR) _ _ e) hL
   refine ⟨p,L,_,rfl,po2.same s12,aB,npL.symm,by rw [List.length_map,List.length_range]; omega,fun nm ys H3 pm se3 po3 hn3 hy3=>?_⟩
   obtain ⟨names,rfl,pn⟩:=qE (xs:=List.range n) pm
   have nl : names.length = n:=by rw [pn.length_eq,List.length_range]
   have nn : names.Nodup:=pn.nodup_iff.mpr List.nodup_range
   have nlt : ∀ x∈names,x < n:=fun x hx=>List.mem_range.mp (pn.mem_iff.mp hx)
   have seH : aL p H H3:=se2.trans ((aL.of s12).trans se3)
   refine ⟨_,rfl,n,rfl,by omega,by omega,fun D hD=>?_⟩
   refine eZ (n:=n) (lo:=0) (fun i ys σ H4=>(∃ k,σ = [k])∧∃ ts as,ys = ts.map V.ref∧Holds H4 ts i (fun j=>.tup [.int (j : Int),.ref (as.getD j 0)])∧Holds H4 as i (fun _=>.lst [])∧(∀ x y,x < i→y < i→as.getD x 0 = as.getD y 0→x = y)∧(∀ h,h < i→H3 (as.getD h 0) = none∧as.getD h 0 ≠ D)∧Same H3 H4∧H4 D = some (.lst ys))
    ⟨⟨_,rfl⟩,[],[],rfl,Holds.nil,Holds.nil,fun x y hx=>absurd hx (by omega),fun h hh=>absurd hh (by omega),aG hD,aB⟩ ?_ ?_
   ·rintro i ys σ H4 Kt Kf hi ⟨⟨k,rfl⟩,ts,as,rfl,hts,has,inj,fr,sm,hD4⟩ kt kf
    refine ⟨_,rfl,by show 0 ≤ sizeLine; decide,fun l hl=>⟨by show 2 ≤ sizeLine; decide,fun t ht=>?_⟩⟩
    have nDl : D ≠ l:=aF hD4 hl
    have nlt' : l ≠ t:=aF aB ht
    have nDt : D ≠ t:=aF (show (upd H4 l (.lst [])) D = _ by rw [aD nDl]; exact hD4) ht
    have keep : ∀ b o,H4 b = some o→b ≠ D→(upd (upd (upd H4 l (.lst [])) t (.tup [.int (0 + (i : Int)),.ref l])) D (.lst (ts.map V.ref ++ [.ref t]))) b = some o:=fun b o e n=>by
     have e1 : (upd H4 l (.lst [])) b = some o:=by rw [aD (aF e hl)]; exact e
     rw [aD n,aD (aF e1 ht)]; exact e1
    have lNew : (upd (upd (upd H4 l (.lst [])) t (.tup [.int (0 + (i : Int)),.ref l])) D (.lst (ts.map V.ref ++ [.ref t]))) l = some (.lst []):=by rw [aD nDl.symm,aD nlt',aB]
    refine kt _ _ _ (by rw [aD nDt,aD nDl]; exact hD4) (by rw [List.length_map,hts.1]; exact Nat.lt_of_lt_of_le hi (Nat.le_trans (show n ≤ 32 by omega) (by decide))) ⟨⟨_,rfl⟩,ts ++ [t],as ++ [l],by rw [List.map_append]; rfl,?_,?_,?_,?_,?_,aB⟩
    ·refine ⟨by rw [List.length_append,hts.1]; rfl,fun j hj=>?_⟩
     rw [bL hts.1]
     show _ = some (HO.tup [.int (j : Int),.ref ((as ++ [l]).getD j 0)])
     rw [bL has.1]
     by_cases e : j = i
     ·rw [if_pos e,if_pos e,aD nDt.symm,aB,e,Int.zero_add]
     ·rw [if_neg e,if_neg e]
      have:=hts.2 j (by omega)
      exact keep _ _ this (bO this hD4 (by intro z; cases z))
    ·refine Holds.snoc (has.mono fun j hj e=>keep _ _ e (fr j hj).2) lNew
    ·intro x y hx hy e
     rw [bL has.1,bL has.1] at e
     by_cases ex : x = i <;> by_cases ey : y = i
     ·omega
     ·rw [if_pos ex,if_neg ey] at e
      have:=has.2 y (by omega)
      rw [← e,hl] at this; cases this
     ·rw [if_neg ex,if_pos ey] at e
      have:=has.2 x (by omega)
      rw [e,hl] at this; cases this
     ·rw [if_neg ex,if_neg ey] at e; exact inj x y (by omega) (by omega) e
    ·intro h hh
     rw [bL has.1]
     by_cases e : h = i
     ·rw [if_pos e]; exact ⟨sm.free hl,nDl.symm⟩
     ·rw [if_neg e]; exact fr h (by omega)
    ·intro b' o e
     exact keep _ _ (sm _ _ e) (aF e hD)
   ·rintro ys σ H4 ⟨_,ts,as,rfl,hts,has,inj,fr,sm,hD4⟩
    refine ⟨D,ts,aW as n,rfl,hD4,by unfold aW; rw [hts.1,List.length_map,List.length_range],fun i hi=>?_,?_,fun O hO=>?_⟩
    ·have hi' : i < n:=by unfold aW at hi; rw [List.length_map,List.length_range] at hi; exact hi
     refine ⟨.inl (i : Int),.ref (as.getD i 0),?_,hts.2 i hi'⟩
     unfold aW
     rw [List.getElem?_map,List.getElem?_range hi']
     rfl
    ·unfold aW; rw [List.length_map,List.length_range]; omega
    rw [kW]
    have hO3 : H3 O = none:=sm.free hO
    have oA : bC (upd H4 O (.dK (aW as n))) O as n (fun _=>[]):=⟨aB,has.mono fun j _ e=>aG hO _ _ e,inj⟩
    have frH : ∀ h,h < n→H (as.getD h 0) = none:=fun h hh=>seH.free po3.some (fr h hh).1
    have offp : Off as n p:=fun h hh z=>by have:=frH h hh; rw [← z] at this; exact hp.some this
    have offn : Off as n nm:=fun h hh=>aF hy3 (fr h hh).1
    have hnH : H nm = none:=se2.free po2.some (s12.free hn3)
    have npn : nm ≠ p:=by rintro rfl; exact hp.some hnH
    let I : (Nat→List Nat)→Hp→Prop:=fun g Hc=>bC Hc O as n g∧Good n g∧aL p H Hc∧aN Hc p∧Hc nm = some (.lst (NV names))
    have stepJ : ∀ g row Hc H',I g Hc→row.Nodup→2 ≤ row.length→(∀ x∈row,x < n)→bC H' O as n (dB g row)→fD as n Hc H'→I (dB g row) H':=by
     rintro g row Hc H' ⟨o1,o2,o3,o4,o5⟩ r1 r2 r3 oj so
     refine ⟨oj,(lT o2 r1 r2 r3).1,fun b' o e hne=>so _ _ (o3 _ _ e hne) (fun h hh=>aF e (frH h hh)),?_,so _ _ o5 offn⟩
     obtain ⟨x,y,e,r⟩:=o4
     exact ⟨x,y,so _ _ e offp,r⟩
    have stepP : ∀ g Hc H',I g Hc→aL p Hc H'→aN H' p→I g H':=by
     rintro g Hc H' ⟨o1,o2,o3,o4,o5⟩ se po
     exact ⟨o1.sameE se o4 offp,o2,o3.trans se,po,se _ _ o5 npn⟩
    have stepN : ∀ g Hc H',I g Hc→Same Hc H'→I g H':=fun g Hc H' i s=>stepP g Hc H' i (aL.of s) (i.2.2.2.1.same s)
    have sA : aL p H (upd H4 O (.dK (aW as n))):=seH.trans ((aL.of sm).trans (aL.of (aG hO)))
    have I0 : I (fun _=>[]) (upd H4 O (.dK (aW as n))):=⟨oA,aAu,sA,(po3.same sm).same (aG hO),aG hO _ _ (sm _ _ hy3)⟩
    have hOH : H O = none:=seH.free po3.some hO3
    refine ⟨_,rfl,rfl,_,rfl,?_⟩
    refine aD4 (fun Hc=>∃ g,I g Hc∧(way ≠ 0→g = fun _=>[])∧(way = 0→Con n g)) ?_ (fun e kc=>?_) (fun e=>⟨_,I0,fun _=>rfl,fun z=>absurd (by rw [z]; rfl) e⟩)
    ·rintro Hc ⟨g,Ig,gz,gC⟩
     refine ⟨_,rfl,_,rfl,_,_,rfl,rfl,.inr ⟨_,rfl,_,_,rfl,rfl,.inl ⟨by omega,by omega⟩,_,_,rfl,⟨by decide,by decide,?_,?_⟩,cW (lo:=1) (fun i σ H5=>(∃ v5 v6,σ = [some (.ref p),some (.int way),some (.int n),some (.ref nm),some (.ref O),v5,v6,none,none])∧∃ g,I g H5∧(way ≠ 0→(∀ j,i + 1 ≤ j→j < n→g (names.getD j 0) = [])∧(g (names.getD i 0)).length ≤ 1)∧(way = 0→Con n g)∧(way ≠ 0→Upto names (i + 1) g)) ⟨⟨_,_,rfl⟩,g,Ig,fun z=>?_,gC,fun _=>aA6⟩ ?_ ?_⟩⟩
     ·split <;> omega
     ·split <;> omega
     ·rw [gz z]
      exact ⟨fun _ _ _=>rfl,by simp⟩
     ·rintro i σ H5 hi ⟨⟨v5,v6,rfl⟩,g1,I1,gw,_,gU⟩
      have hwi : way ≠ 0∧i + 1 < n:=by
       by_cases z : 0 < way
       ·refine ⟨by omega,?_⟩
        simp [z] at hi; omega
       ·simp [z] at hi
      obtain ⟨gw1,gw2⟩:=gw hwi.1
      have e1 : (1 : Int) + (i : Int) = ((i + 1 : Nat) : Int):=by omega
      rw [e1]
      refine ⟨_,rfl,_,rfl,_,rfl,nm,_,rfl,SqL.of I1.2.2.2.2,fun S hS=>?_⟩
      rw [tZ]
      have I2:=stepN _ _ _ I1 (aG (o:=.lst (NV (names.take (i + 1)))) hS)
      have hSs : (upd H5 S (.lst (NV (names.take (i + 1))))) S = some (.lst (NV (names.take (i + 1)))):=aB
      revert I2 hSs
      generalize upd H5 S (.lst (NV (names.take (i + 1)))) = HS
      intro I2 hSs
      refine ⟨S,rfl,⟨_,SqL.of hSs⟩,fun D hD=>?_⟩
      refine dZ (K:=K) (a:=S) (xs:=NV (names.take (i + 1))) (fun j ys σ H6=>(∃ v,σ = [v,some (.ref O)])∧ys = NV (((names.take (i + 1)).take j).filter fun h=>decide ((g1 h).length < 8))∧H6 = upd HS D (.lst ys)) ⟨⟨_,rfl⟩,by rw [List.take_zero]; rfl,rfl⟩ ?_ ?_ ?_
      ·rintro j ys σ H6 _ ⟨_,_,rfl⟩
       exact SqL.of (by rw [aD (aF hSs hD)]; exact hSs)
      ·rintro j x ys σ H6 Kt Kf hx ⟨⟨v,rfl⟩,hys,rfl⟩ kt kf
       rw [List.getElem?_map] at hx
       obtain ⟨h,hh,rfl⟩:=Option.map_eq_some_iff.mp hx
       have hm : h∈names:=List.mem_of_mem_take (List.mem_of_getElem? hh)
       have hlt:=nlt h hm
       have I3:=stepN _ _ _ I2 (aG (o:=.lst ys) hD)
       have tk : (names.take (i+1)).take (j+1) = (names.take (i+1)).take j ++ [h]:=by rw [List.take_add_one,hh]; rfl
       refine ⟨_,rfl,_,rfl,O,_,rfl,I3.1.get hlt,as.getD h 0,NV (g1 h),rfl,.inl (SqL.of (I3.1.rows.2 h hlt)),_,_,rfl,rfl,_,rfl,?_⟩
       refine ite2 (fun e=>?_) (fun e=>?_)
       ·have e' : (g1 h).length < 8:=by simp at e; omega
        refine ⟨_,rfl,kt _ _ _ aB ?_ ⟨⟨_,rfl⟩,?_,?_⟩⟩
        ·rw [hys,List.length_map]
         exact Nat.lt_of_le_of_lt (Nat.le_trans (List.length_filter_le _ _) (List.length_take_le _ _)) (Nat.lt_of_lt_of_le (show j < 33 by have:=(List.getElem?_eq_some_iff.mp hh).1; rw [List.length_take,nl] at this; omega) (by decide))
        ·rw [tk,List.filter_append,List.filter_cons_of_pos (by simpa using e'),List.filter_nil,hys]
         unfold NV
         rw [List.map_append]; rfl
        ·rw [dR]
       ·have e' : ¬ (g1 h).length < 8:=by simp at e; omega
        refine kf _ _ ⟨⟨_,rfl⟩,?_,rfl⟩
        rw [tk,List.filter_append,List.filter_cons_of_neg (by simpa using e'),List.filter_nil,List.append_nil,hys]
      ·rintro ys σ H6 ⟨_,hys,rfl⟩
       have tl : (NV (names.take (i + 1))).length = (names.take (i + 1)).length:=List.length_map _
       rw [tl,List.take_length] at hys
       subst hys
       obtain ⟨fl,hfl⟩ : ∃ fl,fl = (names.take (i + 1)).filter fun h=>decide ((g1 h).length < 8):=⟨_,rfl⟩
       rw [← hfl]
       have I4:=stepN _ _ _ I2 (aG (o:=.lst (NV fl)) hD)
       have fl0 : 0 < fl.length:=by
        refine List.length_pos_of_mem (a:=names.getD i 0) ?_
        rw [hfl]
        refine List.mem_filter.mpr ⟨?_,decide_eq_true (by omega)⟩
        rw [mN (show i < names.length by omega)]
        exact List.mem_take_iff_getElem.mpr ⟨i,by omega,rfl⟩
       have fl1 : fl.length ≤ 32:=by
        rw [hfl]
        refine Nat.le_trans (List.length_filter_le _ _) ?_
        rw [List.length_take]; omega
       have fm : ∀ x∈fl,x∈names.take (i + 1):=fun x hx=>by rw [hfl] at hx; exact (List.mem_filter.mp hx).1
       refine ⟨_,rfl,_,rfl,_,rfl,nm,_,_,_,rfl,rfl,SqL.of I4.2.2.2.2,oZ (by omega),?_⟩
       refine ⟨_,rfl,_,rfl,_,rfl,D,_,rfl,.inl (SqL.of aB),p,_,rfl,by rw [List.length_map]; omega,by rw [List.length_map]; omega,I4.2.2.2.1,fun d a3 b3 d0 d1 k0 k1 k2=>?_⟩
       rw [List.length_map] at d1
       have I5:=stepP _ _ _ I4 aL.upd (aN.upd k0 k1 k2)
       have nDp : D ≠ p:=by rintro rfl; exact I2.2.2.2.1.some hD
       obtain ⟨dn,rfl⟩ : ∃ dn : Nat,(dn : Int) = d:=⟨d.toNat,by omega⟩
       refine ⟨D,_,_,_,rfl,rfl,SqL.of (by rw [aD nDp]; exact aB),oZ (by omega),by show 2 ≤ sizeLine; decide,fun L hL=>?_⟩
       have I6:=stepN _ _ _ I5 (aG (o:=.lst [.int (names.getD (i + 1) 0 : Nat),.int (fl.getD dn 0 : Nat)]) hL)
       have m1 : names.getD (i + 1) 0∈names:=jM (by omega)
       have m2 : fl.getD dn 0∈names.take (i + 1):=fm _ (jM (by omega))
       have m12 : names.getD (i + 1) 0 ≠ fl.getD dn 0:=by
        intro z
        rw [← z] at m2
        obtain ⟨x,hx,hx2,e⟩:=lC m2
        have:=xQ nn hx2 (by omega) e
        omega
       have rn : [names.getD (i + 1) 0,fl.getD dn 0].Nodup:=List.nodup_cons.mpr ⟨by simpa using m12,List.nodup_cons.mpr ⟨by simp,List.nodup_nil⟩⟩
       have rt : ∀ x∈[names.getD (i + 1) 0,fl.getD dn 0],x < n:=by
        intro x hx
        rcases List.mem_cons.mp hx with rfl | hx
        ·exact nlt _ m1
        ·rw [List.mem_singleton.mp hx]; exact nlt _ (List.mem_of_mem_take m2)
       refine ⟨O,L,as,n,_,[names.getD (i + 1) 0,fl.getD dn 0],rfl,I6.1,aB,I5.1.offN hL,rt,by show 2 ≤ 32; decide,I6.2.1.le,fun H' oj so=>⟨⟨_,_,rfl⟩,_,stepJ _ _ _ _ I6 rn (by show 2 ≤ 2; decide) rt oj so,fun _=>⟨fun j hj1 hj2=>?_,?_⟩,fun z=>absurd z hwi.1,fun _=>aAq I6.2.1 nlt (by omega) (gU hwi.1) m2 (gw1 (i + 1) (Nat.le_refl _) hwi.2) ?_⟩⟩
       ·rw [(lT I6.2.1 rn (by show 2 ≤ 2; decide) rt).2.1 _ (fun z=>?_)]
        ·exact gw1 j (by omega) hj2
        ·rcases List.mem_cons.mp z with z | z
         ·have:=xQ nn (show j < names.length by omega) (show i + 1 < names.length by omega) z
          omega
         ·rw [← List.mem_singleton.mp z] at m2
          obtain ⟨x,hx,hx2,e⟩:=lC m2
          have:=xQ nn hx2 (by omega) e
          omega
       ·have:=(lT I6.2.1 rn (by show 2 ≤ 2; decide) rt).2.2 (names.getD (i + 1) 0)
        rw [gw1 (i + 1) (by omega) (by omega)] at this
        exact this
       ·have hm2 : ∀ x∈fl,(g1 x).length < 8:=fun x hx=>by rw [hfl] at hx; exact of_decide_eq_true (List.mem_filter.mp hx).2
        exact hm2 _ (jM (by omega))
     ·rintro σ H5 ⟨⟨v5,v6,rfl⟩,g1,I1,_,gC0,gU⟩
      have gC1 : Con n g1:=by
       by_cases z : way = 0
       ·exact gC0 z
       ·have u:=gU z
        have z' : 0 < way:=by omega
        simp [z'] at u
        rw [show n - 1 + 1 = n by omega] at u
        exact aA8 pn u
      refine ⟨_,rfl,p,8,rfl,by decide,by decide,I1.2.2.2.1,fun d a3 b3 d0 d1 k0 k1 k2=>⟨d,rfl,by omega,by omega,cW (n:=d.toNat) (lo:=0) (fun i σ H6=>(∃ v7 v8,σ = [some (.ref p),some (.int way),some (.int n),some (.ref nm),some (.ref O),v5,v6,v7,v8])∧∃ g,I g H6∧Con n g) ⟨⟨_,_,rfl⟩,g1,stepP _ _ _ I1 aL.upd (aN.upd k0 k1 k2),gC1⟩ ?_ ?_⟩⟩
      ·rintro i σ H6 hi ⟨⟨v7,v8,rfl⟩,g2,I2,gC2⟩
       refine ⟨_,rfl,p,4,rfl,by decide,by decide,I2.2.2.2.1,fun d2 a4 b4 e0 e1 l0 l1 l2=>⟨_,rfl,rfl,.inr ⟨_,rfl,_,_,rfl,rfl,.inl ⟨by omega,by omega⟩,_,_,rfl,rfl,?_⟩⟩⟩
       have I3:=stepP _ _ _ I2 (aL.upd (o:=.lst [.int a4,.int b4])) (aN.upd l0 l1 l2)
       obtain ⟨wd,hwd⟩ : ∃ wd : Nat,(wd : Int) = 2 + d2 * (if decide (V.int way = V.int 0) = true then 1 else 0):=⟨(2 + d2 * (if decide (V.int way = V.int 0) = true then 1 else 0)).toNat,by split <;> omega⟩
       have wd2 : 2 ≤ wd:=by split at hwd <;> omega
       change bG 8 (V.int (2 + d2 * (if decide (V.int way = V.int 0) = true then 1 else 0))) _ _ _
       rw [← hwd]
       refine ⟨_,rfl,_,rfl,_,rfl,p,nm,NV names,rfl,I3.2.2.2.1,I3.2.2.2.2,npn,by rw [List.length_map]; omega,fun r ys H7 pm se po hr' hy=>?_⟩
       obtain ⟨zs,rfl,pz⟩:=qE pm
       have I4:=stepP _ _ _ I3 se po
       refine ⟨_,rfl,_,rfl,r,_,rfl,SqL.of hy,fun S hS=>?_⟩
       rw [tZ]
       have I5:=stepN _ _ _ I4 (aG (o:=.lst (NV (zs.take wd))) hS)
       have zn : (zs.take wd).Nodup:=(pz.nodup_iff.mpr nn).sublist (List.take_sublist _ _)
       have zl : (zs.take wd).length = min wd n:=by rw [List.length_take,pz.length_eq,nl]
       have zt : ∀ x∈zs.take wd,x < n:=fun x hx=>nlt x (pz.mem_iff.mp (List.mem_of_mem_take hx))
       exact ⟨O,S,as,n,_,zs.take wd,rfl,I5.1,aB,I4.1.offN hS,zt,by omega,I5.2.1.le,fun H' oj so=>⟨⟨_,_,rfl⟩,_,stepJ _ _ _ _ I5 zn (by omega) zt oj so,fun a b ha hb=>(gC2 a b ha hb).mono rJ⟩⟩
      ·rintro σ H6 ⟨⟨v7,v8,rfl⟩,g2,I2,gC2⟩
       exact ⟨_,rfl,q O as n g2 H6 ⟨I2.2.1,by omega,by omega,I2.1,hOH,frH,gC2⟩ I2.2.2.1 I2.2.2.2.1⟩
    ·have w0 : way = 0:=by
      have:=of_decide_eq_true e
      exact V.int.inj this
     exact ⟨_,rfl,_,rfl,O,nm,as,n,_,names,rfl,oA,I0.2.2.2.2,offn,nlt,by omega,fun h hh=>by simp,fun H' oj so=>kc H' ⟨_,stepJ _ _ _ _ I0 nn (by omega) nlt oj so,fun z=>absurd w0 z,fun _=>aA5 nn (by omega) pn⟩⟩
end
end K61
namespace K61
open PySem L2
abbrev sGR : Stmt:=top 35
def grS (n : Nat) (g : Nat→List Nat) (h k : Nat) : List Nat:=((List.range k).map fun s=>(h + (1 + s)) % n).filter fun o=>decide (o∈g h)
def gr (n : Nat) (g : Nat→List Nat) (h : Nat) : List Nat:=grS n g h (n - 1)
theorem uA {n : Nat} {g : Nat→List Nat} {h k : Nat} : grS n g h (k + 1) = grS n g h k ++ (if (h + (1 + k)) % n∈g h then [(h + (1 + k)) % n] else []):=by
 unfold grS
 rw [List.range_succ,List.map_append,List.filter_append]
 congr 1
 rw [List.map_cons,List.map_nil]
 by_cases e : (h + (1 + k)) % n∈g h
 ·rw [if_pos e,List.filter_cons_of_pos (by simpa using e),List.filter_nil]
 ·rw [if_neg e,List.filter_cons_of_neg (by simpa using e),List.filter_nil]
theorem pC {n h s : Nat} (hh : h < n) (hs : s < n - 1) : (h + (1 + s)) % n = if h + (1 + s) < n then h + (1 + s) else h + (1 + s) - n:=by
 by_cases e : h + (1 + s) < n
 ·rw [if_pos e,Nat.mod_eq_of_lt e]
 ·rw [if_neg e,Nat.mod_eq_sub_mod (by omega),Nat.mod_eq_of_lt (by omega)]
theorem iX {n : Nat} {g : Nat→List Nat} (G : Good n g) {h : Nat} (hh : h < n) : (gr n g h).Perm (g h):=by
 have nd : (gr n g h).Nodup:=by
  unfold gr grS
  refine List.Pairwise.filter _ ?_
  refine List.pairwise_map.mpr ?_
  refine List.Pairwise.imp_of_mem ?_ (List.nodup_range (n:=n - 1))
  intro a b ha hb hab e
  rw [pC hh (List.mem_range.mp ha),pC hh (List.mem_range.mp hb)] at e
  have:=List.mem_range.mp ha
  have:=List.mem_range.mp hb
  split at e <;> split at e <;> omega
 refine (List.perm_ext_iff_of_nodup nd (G.nd h hh)).mpr fun o=>?_
 unfold gr grS
 rw [List.mem_filter,decide_eq_true_iff]
 refine ⟨fun z=>z.2,fun z=>⟨List.mem_map.mpr ?_,z⟩⟩
 obtain ⟨o1,o2⟩:=G.lt h hh o z
 by_cases e : h < o
 ·refine ⟨o - h - 1,List.mem_range.mpr (by omega),?_⟩
  rw [pC hh (by omega),if_pos (by omega)]; omega
 ·refine ⟨o + n - h - 1,List.mem_range.mpr (by omega),?_⟩
  rw [pC hh (by omega),if_neg (by omega)]; omega
theorem aCv {n : Nat} {g : Nat→List Nat} (G : Good n g) : Good n (gr n g):=by
 refine ⟨fun h hh=>(iX G hh).nodup_iff.mpr (G.nd h hh),fun h hh o ho=>G.lt h hh o ((iX G hh).mem_iff.mp ho),fun h hh=>by rw [(iX G hh).length_eq]; exact G.le h hh,fun h hh=>?_⟩
 rw [(iX G hh).length_eq,G.bal h hh]
 unfold inn
 refine List.countP_congr fun o ho=>?_
 simp only [decide_eq_true_eq]
 exact (iX G (List.mem_range.mp ho)).mem_iff.symm
theorem cD {as : List Addr} {n : Nat} : (aW as n).length = n:=by unfold aW; rw [List.length_map,List.length_range]
theorem jX {as : List Addr} {n i : Nat} {k : Key} {v : V} (h : (aW as n)[i]? = some (k,v)) : i < n∧k = .inl (i : Int):=by
 have hi : i < n:=by have:=(List.getElem?_eq_some_iff.mp h).1; rw [cD] at this; exact this
 refine ⟨hi,?_⟩
 unfold aW at h
 rw [List.getElem?_map,List.getElem?_range hi] at h
 exact (congrArg Prod.fst (Option.some.inj h)).symm
theorem nbG : (["_law_step", "_law_house", "_law_many", "_law_outs"] : List Str).Nodup:=by decide +kernel
section
variable {P : Program} {w : World} {K : PySem.W.Frag} {mg : Str→Option Value} {base : Heap}
theorem scGR : aY ["_law_outs", "_law_many", "_law_found", "_law_house"] ["_law_outs"] (aI sGR):=⟨rfl,rfl,rfl,by decide +kernel,rfl,by decide +kernel,by decide +kernel⟩
def spGR : Sp:=fun vs H Q _=>∃ (O : Addr) (as : List Addr) (n : Nat) (g : Nat→List Nat),vs = [.ref O]∧Good n g∧Con n g∧2 ≤ n∧n ≤ 32∧bC H O as n g ∧
 ∀ (O' : Addr) (as' : List Addr) (g' : Nat→List Nat) (H' : Hp),lU H H' O' as' n g'→aL O H H'→H' O ≠ none→Q (.ref O') H'
theorem aD5 {f : Addr} {fd : FuncData} (F : Fun K "_law_going_round" "_law_going_round" sGR f fd) (B : Bl mg) : FnOk P w K mg base CX0 1 f fd ["_law_outs"] spGR:=by
 refine F.ok scGR (fun vs H Q E h=>?_) (fun cdv A outer s H vs Q E hr h=>?_)
 ·obtain ⟨O,as,n,g,rfl,_⟩:=h
  rfl
 ·obtain ⟨O,as,n,g,rfl,G,gC,n2,n32,hO,q⟩:=h
  have hu : (A.deeper (PyProof.Rows.envOfC "_law_going_round" (aI sGR) s.heap.objs.size f cdv)).units + 1 < cLine:=by have:=hr.un; omega
  refine' ⟨_,aH (aV (i:=1) scGR.nd rfl (Or.inr rfl) (aQ zS (by rfl) B.len PySem.boot_len (aA (pv 0) aE)))
   (aH (aV (i:=2) scGR.nd rfl (Or.inl rfl) nC)
   (aH (bW PassesOwn.never rfl (vW (pv 0)) (aM (i:=3) scGR.nd rfl (Or.inr rfl)) (aK (kE hu (pv 2) (pv 3) ?c rfl)))
   (aK (bB (pv 2))))),?_⟩
  case c =>
   refine' cZ (g:=bG 0) (tt:=iH (tOp (rIn K false) (tOp (rI (fun _ j=>0 < j) fun i j=>.int (i % j)) (tOp (rI0 fun i j=>.int (i + j)) (tVar 1) (tVar 0)) (tVar 2)) (oH (tVar 3) (tVar 1)))) (te:=tOp (rI (fun _ j=>0 < j) fun i j=>.int (i % j)) (tOp (rI0 fun i j=>.int (i + j)) (tVar 1) (tVar 0)) (tVar 2)) (NB:=["_law_step", "_law_house", "_law_many", "_law_outs"]) (src:=[none,some 3,some 1,some 0]) (bZ (by kernel_rfl)) rfl
    (lD rfl B.range (aA aJ (aA (pv 1) aE))) ?g ?t ?e
   case g=>exact fun cl C s₃ H₃ fp=>aM (i:=0) nbG rfl (Or.inl rfl) (Or.inr rfl)
   case t=>exact fun cl C s₃ H₃ fp=>eN (aZ lG (bA eJ (bA bX (pv 1) (pv 0)) (pv 2)) (dA hu (pv 3) (pv 1) (fun _ _=>rfl)) (by rfl))
   case e=>exact fun cl C s₃ H₃ fp=>bA eJ (bA bX (pv 1) (pv 0)) (pv 2)
  refine ⟨_,rfl,O,_,rfl,hO.dict,?_⟩
  change bG 1 (V.int (((aW as n).length : Nat) : Int)) _ _ _
  rw [cD]
  intro F' hF
  have nOF : O ≠ F':=aF hO.dict hF
  have hO1 : bC (upd H F' (.dK [])) O as n g:=hO.same (aG hF)
  refine ⟨_,rfl,O,_,rfl,hO1.dict,fun o=>?_⟩
  refine nE (fun i σ H3=>(∃ v3,σ = [some (.ref O),some (.int n),some (.ref F'),v3])∧H3 O = some (.frz o (.dK (aW as n)))∧aL O H H3∧∃ bs,bC H3 F' bs i (gr n g)∧∀ h,h < i→H (bs.getD h 0) = none)
   ⟨⟨_,rfl⟩,aB,fun b u e hne=>by rw [aD hne,aD (aF e hF)]; exact e,[],⟨by rw [aD nOF.symm,aB]; rfl,Holds.nil,fun i j hi=>absurd hi (by omega)⟩,fun h hh=>absurd hh (by omega)⟩ (fun i σ H3 _ ⟨_,z,_⟩=>z) ?_ ?_
  ·rintro i k v σ H3 hk ⟨⟨v3,rfl⟩,hf,se,bs,hB,fr⟩
   obtain ⟨hi,rfl⟩:=jX hk
   have rows3 : Holds H3 as n (fun h=>.lst (NV (g h))):=hO.rows.mono fun j hj e=>se _ _ e (fun z=>by rw [z] at e; rw [hO.dict] at e; cases e)
   change bG 3 (V.int (i : Int)) _ _ _
   refine ⟨_,rfl,1,n,rfl,⟨by decide,by decide,by omega,by omega⟩,fun D hD=>?_⟩
   have hn1 : ((n : Int) - 1).toNat = n - 1:=by omega
   have nOD : O ≠ D:=aF hf hD
   have hDH : H D = none:=by
    cases z : H D with
    | none=>rfl
    | some u=>rw [se _ _ z nOD.symm] at hD; cases hD
   refine eZ (fun j ys σ H4=>(∃ v,σ = [v,some (.int i),some (.int n),some (.ref O)])∧ys = NV (grS n g i j)∧H4 = upd H3 D (.lst ys)) ⟨⟨_,rfl⟩,rfl,rfl⟩ ?_ ?_
   ·rintro j ys σ H4 Kt Kf hj ⟨⟨v,rfl⟩,rfl,rfl⟩ kt kf
    rw [hn1] at hj
    have rows4 : Holds (upd H3 D (.lst (NV (grS n g i j)))) as n (fun h=>.lst (NV (g h))):=rows3.mono fun x _ e=>aG hD _ _ e
    have em : ((i : Int) + (1 + (j : Int))) % (n : Int) = (((i + (1 + j)) % n : Nat) : Int):=by
     rw [Int.natCast_emod]; rfl
    have gt : DGet (upd H3 D (.lst (NV (grS n g i j)))) O (.int (i : Int)) (some (.ref (as.getD i 0))):=.inl ⟨aW as n,.inl (i : Int),.inr ⟨o,by rw [aD nOD]; exact hf⟩,rfl,(kU hi).symm⟩
    refine ⟨_,rfl,_,rfl,_,_,rfl,rfl,_,rfl,_,_,rfl,rfl,by omega,_,rfl,_,rfl,O,_,rfl,gt,as.getD i 0,NV (g i),rfl,.inl (SqL.of (rows4.2 i hi)),rfl,nL,_,rfl,?_⟩
    have ei : inV (V.int (((i : Int) + (1 + (j : Int))) % (n : Int))) (NV (g i)) = decide ((i + (1 + j)) % n∈g i):=by rw [em,mK]
    refine ite2 (fun e=>?_) (fun e=>?_)
    ·have e' : (i + (1 + j)) % n∈g i:=by
      have e2 : inV (V.int (((i : Int) + (1 + (j : Int))) % (n : Int))) (NV (g i)) = true:=e
      rw [ei] at e2
      exact of_decide_eq_true e2
     refine ⟨_,rfl,_,rfl,_,_,rfl,rfl,_,rfl,_,_,rfl,rfl,by omega,kt _ _ _ aB ?_ ⟨⟨_,rfl⟩,?_,?_⟩⟩
     ·rw [List.length_map]
      unfold grS
      refine Nat.lt_of_le_of_lt (List.length_filter_le _ _) ?_
      rw [List.length_map,List.length_range]
      exact Nat.lt_of_lt_of_le (show j < 32 by omega) (by decide)
     ·rw [uA,if_pos e']
      show _ ++ [V.int (((i : Int) + (1 + (j : Int))) % (n : Int))] = _
      rw [em]
      unfold NV
      rw [List.map_append]; rfl
     ·rw [dR]
    ·have e' : ¬ (i + (1 + j)) % n∈g i:=by
      have e2 : ¬ inV (V.int (((i : Int) + (1 + (j : Int))) % (n : Int))) (NV (g i)) = true:=e
      rw [ei] at e2
      simpa using e2
     refine kf _ _ ⟨⟨_,rfl⟩,?_,rfl⟩
     rw [uA,if_neg e',List.append_nil]
   ·rintro ys σ H4 ⟨_,rfl,rfl⟩
    rw [hn1]
    have off : Off bs i D:=hB.offN hD
    have hB4:=hB.same (aG (o:=.lst (NV (grS n g i (n - 1)))) hD)
    have hB5:=hB4.push (ys:=grS n g i (n - 1)) aB off
    have nFD : F' ≠ D:=aF hB.dict hD
    refine ⟨_,rfl,_,rfl,F',_,rfl,DPut.k (k:=.inl (i : Int)) hB4.dict (by rw [cD]; exact Nat.lt_of_lt_of_le (show i < 32 by omega) (by decide)),⟨_,rfl⟩,?_,?_,bs ++ [D],hB5.cong ?_,?_⟩
    ·rw [aD nOF,aD nOD]; exact hf
    ·intro b u e hne
     rw [aD (aF e hF),aD (aF e hDH)]; exact se _ _ e hne
    ·intro x hx
     by_cases e : x = i
     ·subst e; rw [fZ]; rfl
     ·rw [gX e]
    ·intro h hh
     rw [bL hB.rows.1]
     by_cases e : h = i
     ·rw [if_pos e]; exact hDH
     ·rw [if_neg e]; exact fr h (by omega)
  ·rintro σ H3 ⟨⟨v3,rfl⟩,hf,se,bs,hB,fr⟩
   rw [cD] at hB fr
   exact ⟨_,rfl,q F' bs (gr n g) H3 ⟨aCv G,n2,n32,hB,hF,fr,gC.mono (fun a ha o ho=>(iX G ha).mem_iff.mpr ho) fun a ha o ho=>(G.lt a ha o ho).1⟩ se (by rw [hf]; intro z; cases z)⟩
end
end K61
namespace L2
open PySem PySem.Spec PyProof.Rows
section
variable {X : Cx} {tg : Expr}
theorem lV : cY X (.builtin "len") (fun xs H Q=>∃ a kvs,xs = [V.ref a]∧(∃ o,H a = some (.frz o (.dK kvs)))∧Q (.int kvs.length) H):=by
 intro pins s σ H xs us Q I r h
 obtain ⟨a,kvs,rfl,ha,q⟩:=h
 obtain ⟨u,rfl,ru⟩:=jQ r
 cases ru
 exact aBw I (.inr ha) fun t s' I'=>⟨.int kvs.length,H,I',⟨t,rfl⟩,q⟩
def aDq (tl : TE) : TI:=fun σ H R=>tl σ H fun x H1=>∃ d kvs o,x = .ref d∧H1 d = some (.frz o (.dK kvs))∧R (Itd d o kvs) H1
theorem uB {l : Expr} {tl : TE} (hl : PE X l tl) : PI X tg l (aDq tl):=by
 intro pins s σ H R I h
 refine thn (hl pins s σ H _ I h) fun v s1 ⟨x,H1,I1,r1,q1⟩=>?_
 obtain ⟨d,kvs,o,e,hd,q⟩:=q1
 subst e
 cases r1
 obtain ⟨ho,z,hS,vs,kv,o',es,ep,g1,g2,g3,g4,g5,g6⟩:=I1.hok d _ hd
 rw [ho] at g1; cases g1
 have hm : s1.heap.DictAt (bK X.prog X.w) d vs ep:=⟨o,es,ho,g2,g3,g4,g5,g6⟩
 refine wpAny_pyIter_dict hS hm ?_
 refine ⟨s1.heap.objs.size,[s1.heap.objs.size],_,_,_,rfl,I1.kept (t':=s1.toks) fun b o e=>Heap.get?_push_of_some _ e,rE d _ o kvs es ep g3,⟨_,Heap.get?_push_size _ rfl,rfl,by rw [kv.length]; rfl⟩,fun b hb=>?_,q⟩
 have e : b = s1.heap.objs.size:=by simpa using hb
 subst e
 exact I1.fpOk (Nat.le_refl _) (I1.hok.fresh (Nat.le_refl _))
end
theorem aAv {d D : Addr} {o : Obj} {kvs : List (Key × V)} {g : TG} {tt : TT} {te : TE} {fin : Hp→Prop} {σB : St} {H0 : Hp} (Pv : Nat→List V→St→Hp→Prop) (h0 : Pv 0 [] σB H0)
  (hl : ∀ i ys σ H,i ≤ kvs.length→Pv i ys σ H→H d = some (.frz o (.dK kvs)))
  (hs : ∀ i k v ys σ H (Kt : V→St→Hp→Prop) (Kf : St→Hp→Prop),kvs[i]? = some (k,v)→Pv i ys σ H →
   (∀ v σ2 H4,H4 D = some (.lst ys)→ys.length < sizeLine→Pv (i + 1) (ys ++ [v]) σ2 (upd H4 D (.lst (ys ++ [v])))→Kt v σ2 H4)→(∀ σ2 H3,Pv (i + 1) ys σ2 H3→Kf σ2 H3) →
   g (kV k) σ H fun σ2 H2=>tt σ2 H2 fun b H3=>if b = true then te σ2 H3 fun v H4=>Kt v σ2 H4 else Kf σ2 H3)
  (hd : ∀ ys σ H,Pv kvs.length ys σ H→fin H) : hV (Itd d o kvs) g tt te D fin σB H0:=by
 refine ⟨fun i m σ H=>m = kvs.length - i∧i ≤ kvs.length∧∃ ys,Pv i ys σ H,⟨kvs.length,by simp,Nat.zero_le _,[],h0⟩,?_⟩
 rintro i m σ H ⟨rfl,hi,ys,p⟩
 have q:=hl i ys σ H hi p
 by_cases hlt : i < kvs.length
 ·refine .inr ⟨⟨q,hlt⟩,?_⟩
  rintro x H' ⟨rfl,k,v,hk,rfl⟩
  exact hs i k v ys σ _ (fun v σ2 H4=>∃ ys,H4 D = some (.lst ys)∧ys.length < sizeLine∧∃ m',m' < kvs.length - i∧m' = kvs.length - (i + 1)∧i + 1 ≤ kvs.length∧∃ ys',Pv (i + 1) ys' σ2 (upd H4 D (.lst (ys ++ [v]))))
   (fun σ2 H3=>∃ m',m' < kvs.length - i∧m' = kvs.length - (i + 1)∧i + 1 ≤ kvs.length∧∃ ys',Pv (i + 1) ys' σ2 H3) hk p
   (fun v σ2 H4 z1 z2 z3=>⟨ys,z1,z2,_,by omega,rfl,hlt,_,z3⟩) (fun σ2 H3 z=>⟨_,by omega,rfl,hlt,_,z⟩)
 ·have e : i = kvs.length:=by omega
  subst e
  exact .inl ⟨⟨q,Nat.le_refl _⟩,hd ys σ H p⟩
end L2
namespace K61
open PySem L2
structure cH (H : Hp) (O : Addr) (as : List Addr) (n : Nat) (g : Nat→List Nat) : Prop where
 dict : ∃ o,H O = some (.frz o (.dK (aW as n)))
 rows : Holds H as n (fun h=>.lst (NV (g h)))
 inj : ∀ i j,i < n→j < n→as.getD i 0 = as.getD j 0→i = j
theorem cH.same {H H' : Hp} {O : Addr} {as : List Addr} {n : Nat} {g : Nat→List Nat} (h : cH H O as n g) (s : Same H H') : cH H' O as n g:=⟨let ⟨o,e⟩:=h.dict; ⟨o,s _ _ e⟩,h.rows.mono fun j _ e=>s _ _ e,h.inj⟩
theorem cH.sameE {H H' : Hp} {O p : Addr} {as : List Addr} {n : Nat} {g : Nat→List Nat} (h : cH H O as n g) (s : aL p H H') (hp : aN H p) (f : Off as n p) : cH H' O as n g:=by
 obtain ⟨a,b,e,_⟩:=hp
 obtain ⟨o,d⟩:=h.dict
 exact ⟨⟨o,s _ _ d (bO d e (by intro z; cases z))⟩,h.rows.mono fun j hj x=>s _ _ x (f j hj).symm,h.inj⟩
theorem cH.offN {H : Hp} {O b : Addr} {as : List Addr} {n : Nat} {g : Nat→List Nat} (h : cH H O as n g) (e : H b = none) : Off as n b:=fun j hj=>(aF (h.rows.2 j hj) e).symm
theorem cH.get {H : Hp} {O : Addr} {as : List Addr} {n : Nat} {g : Nat→List Nat} (h : cH H O as n g) {x : Nat} (hx : x < n) : DGet H O (.int x) (some (.ref (as.getD x 0))) :=
 let ⟨o,d⟩:=h.dict
 .inl ⟨aW as n,.inl (x : Int),.inr ⟨o,d⟩,rfl,(kU hx).symm⟩
end K61
namespace K61
open PySem L2
abbrev sLet : Stmt:=top 39
def stV : Option Nat→V
 | none=>.non
 | some h=>.int h
abbrev SV (s : List (Option Nat)) : List V:=s.map stV
abbrev HV (s : List Int) : List V:=s.map V.int
def cA (n : Nat) (g : Nat→List Nat) (s : List (Option Nat)) : Prop:=(∀ h,some h∈s→h < n)∧∀ h,h < n→s.count (some h) ≤ (g h).length
theorem wD {s : List (Option Nat)} : (SV s).all dN = true:=by
 rw [List.all_eq_true]
 intro v hv
 obtain ⟨j,_,rfl⟩:=List.mem_map.mp hv
 cases j <;> rfl
theorem qF {a b : Option Nat} (h : stV a = stV b) : a = b:=by
 cases a <;> cases b
 ·rfl
 ·cases h
 ·cases h
 ·have:=V.int.inj h
  congr 1; omega
theorem nP {h : Nat} : ∀ {s : List (Option Nat)},(SV s).countP (fun z=>eqV z (.int h)) = s.count (some h)
 | []=>rfl
 | x :: s=>by
  have ih:=nP (h:=h) (s:=s)
  unfold SV at ih ⊢
  rw [List.map_cons,List.countP_cons,ih,List.count_cons]
  have e : eqV (stV x) (.int (h : Int)) = (x == some h):=by
   cases x with
   | none=>rfl
   | some y =>
    show ((y : Int) == (h : Int)) = (some y == some h)
    rw [Bool.eq_iff_iff]
    simp
    omega
  rw [e]
theorem aD6 {a b : Int} {c : Bool} : atI [V.int a,V.int b] (if c = true then 1 else 0) = some (V.int (if c = true then b else a)):=by cases c <;> rfl
theorem aD7 {a b w : Int} (h : 0 ≤ w) : atI [V.int a,V.int b] (w % 2) = some (V.int (if w % 2 = 1 then b else a)):=by
 rcases (by omega : w % 2 = 0∨w % 2 = 1) with e | e <;> rw [e] <;> rfl
theorem aD8 {c : Prop} [Decidable c] {A : Prop} {C : St→Hp→Prop} {σ0 : St} {H0 : Hp} (G : St→Hp→Prop) (hC : ∀ σ H,G σ H→C σ H) (h1 : c→(∀ σ H,G σ H→C σ H)→A) (h2 : ¬ c→G σ0 H0) : if c then A else C σ0 H0:=by
 by_cases h : c
 ·rw [if_pos h]; exact h1 h hC
 ·rw [if_neg h]; exact hC _ _ (h2 h)
theorem fO {A B : Prop} (h : A) : if true = true then A else B:=by rw [if_pos rfl]; exact h
theorem pD {A B : Prop} (h : B) : if false = true then A else B:=by rw [if_neg (by decide)]; exact h
theorem cA.push {n : Nat} {g : Nat→List Nat} {s : List (Option Nat)} {x : Option Nat} (h : cA n g s) (hx : ∀ y,x = some y→y < n∧s.count (some y) < (g y).length) : cA n g (s ++ [x]):=by
 refine ⟨fun y hy=>?_,fun y hy=>?_⟩
 ·rcases List.mem_append.mp hy with z | z
  ·exact h.1 y z
  ·exact (hx y (List.mem_singleton.mp z).symm).1
 ·rw [List.count_append,List.count_singleton]
  by_cases e : x = some y
  ·have:=(hx y e).2
   rw [if_pos (by rw [e]; simp)]; omega
  ·rw [if_neg (by simpa using e)]; exact h.2 y hy
section
variable {P : Program} {w : World} {K : PySem.W.Frag} {mg : Str→Option Value} {base : Heap}
theorem gK : aY ["_law_pot_here", "_law_outs", "_law_most", "_law_many", "_law_way", "_law_first", "_law_homes", "_law_stand", "_law_k", "_law_start", "_law_home"] ["_law_pot_here", "_law_outs", "_law_most"] (aI sLet):=⟨rfl,rfl,rfl,by decide +kernel,rfl,by decide +kernel,by decide +kernel⟩
def xR : Sp:=fun vs H Q _=>∃ (p O : Addr) (as : List Addr) (n : Nat) (g : Nat→List Nat),vs = [.ref p,.ref O,.int 16]∧aN H p∧cH H O as n g∧Off as n p∧2 ≤ n∧n ≤ 32 ∧
 ∀ (t a b : Addr) (hs : List Int) (s : List (Option Nat)) (H' : Hp),H' t = some (.tup [.ref a,.ref b])→H' a = some (.tup (HV hs))→H' b = some (.tup (SV s))→hs.length = s.length→s.length ≤ 16→cA n g s→(∀ h∈hs,0 ≤ h∧h < 32)→aL p H H'→aN H' p→Q (.ref t) H'
theorem aDr {f : Addr} {fd : FuncData} (F : Fun K "_law_letters" "_law_letters" sLet f fd) (B : Bl mg) (T : Cal P w K mg base CX0 1 "_law_take" ["_law_pot_here", "_law_many"] eW) : FnOk P w K mg base CX0 2 f fd ["_law_pot_here", "_law_outs", "_law_most"] xR:=by
 refine F.ok gK (fun vs H Q E h=>?_) (fun cdv A outer s H vs Q E hr h=>?_)
 ·obtain ⟨p,O,as,n,g,rfl,_⟩:=h
  rfl
 ·obtain ⟨p,O,as,n,g,rfl,hp,hO,offp,n2,n32,q⟩:=h
  have hu : (A.deeper (PyProof.Rows.envOfC "_law_letters" (aI sLet) s.heap.objs.size f cdv)).units + 1 < cLine:=by have:=hr.un; omega
  refine' ⟨_,aH (aV (i:=3) gK.nd rfl (Or.inl rfl) (aQ lV (by rfl) B.len PySem.boot_len (aA (pv 1) aE)))
   (aH (aV (i:=4) gK.nd rfl (Or.inl rfl) (aS T hr aU (aA (pv 0) (aA aJ aE))))
   (aH (aV (i:=5) gK.nd rfl (Or.inl rfl) (aS T hr aU (aA (pv 0) (aA (pv 3) aE))))
   (aH (aV (i:=6) gK.nd rfl (Or.inl rfl) (cG aE))
   (aH (aV (i:=7) gK.nd rfl (Or.inl rfl) (cG aE))
   (aH (bW PassesOwn.never rfl (cB rfl B.range (aA (aS T hr aU (aA (pv 0) (aA (bA bX (pv 2) aJ) aE))) aE)) (aM (i:=8) gK.nd rfl (Or.inl rfl))
    (aH (aV (i:=9) gK.nd rfl (Or.inl rfl) (bA eJ (aAs (aA (bA bX (pv 5) (aS T hr aU (aA (pv 0) (aA aJ aE)))) (aA (aS T hr aU (aA (pv 0) (aA (pv 3) aE))) aE)) (bT jR (by rfl) B.int PyProof.Rows.boot_int (aA (cN iG (pv 4) aJ (aX _)) aE)) (fun _ _=>rfl)) (pv 3)))
    (aH (aV (i:=10) gK.nd rfl (Or.inl rfl) (aAs (aA (pv 5) (aA (aS T hr aU (aA (pv 0) (aA (pv 3) aE))) aE)) (bT jR (by rfl) B.int PyProof.Rows.boot_int (aA (bA eJ (pv 4) aJ) aE)) (fun _ _=>rfl)))
    (aH (bN (aZ cT (pv 10) (pv 9) (aX _)) (aK (aV (i:=10) gK.nd rfl (Or.inl rfl) (bA eJ (bA bX (bA bX (pv 10) aJ) (aS T hr aU (aA (pv 0) (aA (bA jB (pv 3) aJ) aE)))) (pv 3)))) bE)
    (aH (bN (PW.pt (eY (aZ cT (aS T hr aU (aA (pv 0) (aA aJ aE))) aJ (aX _)) (gA (aZ cT (eA PySem.F.plainAttrs_list PySem.F.slot_list_count PySem.F.type_list_count sY (pv 7) (aA (pv 9) aE)) (aQ aT (by rfl) B.len PySem.boot_len (aA (dA hu (pv 1) (pv 9) (fun _ _=>rfl)) aE)) (aX _)))))
     (aK (aV (i:=9) gK.nd rfl (Or.inl rfl) kD)) bE)
    (aH (bR (eA PySem.F.plainAttrs_list PySem.F.slot_list_append PySem.F.type_list_append dD (pv 6) (aA (pv 10) aE)))
    (aK (bR (eA PySem.F.plainAttrs_list PySem.F.slot_list_append PySem.F.type_list_append dD (pv 7) (aA (pv 9) aE))))))))))
   (aK (bB (fK (aA (bT eK (by rfl) B.tup PyProof.Rows.boot_tuple (aA (pv 6) aE)) (aA (bT eK (by rfl) B.tup PyProof.Rows.boot_tuple (aA (pv 7) aE)) aE)))))))))),?_⟩
  refine ⟨_,rfl,O,_,rfl,hO.dict,?_⟩
  change bG 3 (V.int (((aW as n).length : Nat) : Int)) _ _ _
  rw [cD]
  refine ⟨_,rfl,p,4,rfl,by decide,by decide,hp,fun way a b y0 y1 a0 b0 b1=>?_⟩
  refine ⟨_,rfl,_,rfl,p,n,rfl,by omega,by omega,aN.upd a0 b0 b1,fun first a2 b2 z0 z1 c0 c1 c2=>?_⟩
  rw [dR]
  have po2 : aN (upd H p (.lst [.int a2,.int b2])) p:=aN.upd c0 c1 c2
  have se2 : aL p H (upd H p (.lst [.int a2,.int b2])):=aL.upd
  refine ⟨by show 0 ≤ sizeLine; decide,fun Lh hLh=>⟨by show 0 ≤ sizeLine; decide,fun Ls hLs=>?_⟩⟩
  have nhs : Lh ≠ Ls:=aF aB hLs
  have hLs1 : (upd H p (.lst [.int a2,.int b2])) Ls = none:=(aG hLh).free hLs
  have hhH : H Lh = none:=se2.free po2.some hLh
  have hsH : H Ls = none:=se2.free po2.some hLs1
  have nph : Lh ≠ p:=by rintro rfl; exact hp.some hhH
  have nps : Ls ≠ p:=by rintro rfl; exact hp.some hsH
  have s3:=(aG (o:=.lst []) hLh).trans (aG (o:=.lst []) hLs)
  let J : List Int→List (Option Nat)→Hp→Prop:=fun hs st Hc=>aL p H Hc∧aN Hc p∧Hc Lh = some (.lst (HV hs))∧Hc Ls = some (.lst (SV st))
  have stepP : ∀ hs st Hc H',J hs st Hc→aL p Hc H'→aN H' p→J hs st H':=by
   rintro hs st Hc H' ⟨o1,o2,o3,o4⟩ se po
   exact ⟨o1.trans se,po,se _ _ o3 nph,se _ _ o4 nps⟩
  have stepN : ∀ hs st Hc H',J hs st Hc→Same Hc H'→J hs st H':=fun hs st Hc H' i s=>stepP hs st Hc H' i (aL.of s) (i.2.1.same s)
  have outs : ∀ hs st Hc,J hs st Hc→cH Hc O as n g:=fun hs st Hc j=>hO.sameE j.1 hp offp
  have J0 : J [] [] (upd (upd (upd H p (.lst [.int a2,.int b2])) Lh (.lst [])) Ls (.lst [])):=⟨se2.trans (aL.of s3),po2.same s3,by rw [aD nhs]; exact aB,aB⟩
  refine ⟨_,rfl,_,rfl,_,_,rfl,rfl,p,_,rfl,by decide,by decide,J0.2.1,fun d a3 b3 d0 d1 k0 k1 k2=>⟨d,rfl,by omega,by omega,cW (n:=d.toNat) (lo:=0) (fun i σ H3=>(∃ v8 v9 v10,σ = [some (.ref p),some (.ref O),some (.int 16),some (.int n),some (.int way),some (.int first),some (.ref Lh),some (.ref Ls),v8,v9,v10])∧∃ hs st,J hs st H3∧hs.length = i∧st.length = i∧cA n g st∧∀ h∈hs,0 ≤ h∧h < 32)
   ⟨⟨_,_,_,rfl⟩,[],[],stepP _ _ _ _ J0 aL.upd (aN.upd k0 k1 k2),rfl,rfl,⟨fun h hh=>(nomatch hh),fun h hh=>by simp⟩,fun h hh=>(nomatch hh)⟩ ?_ ?_⟩⟩
  ·rintro i σ H3 hi ⟨⟨v8,v9,v10,rfl⟩,hs,st,J3,lh,ls,R,BH⟩
   have i16 : i < 17:=by
    have : d < 17:=d1
    omega
   refine ⟨_,rfl,_,rfl,p,3,rfl,by decide,by decide,J3.2.1,fun d4 a4 b4 p4 q4 r4 s4 t4=>⟨_,_,rfl,rfl,_,rfl,_,rfl,p,n,rfl,by omega,by omega,aN.upd r4 s4 t4,fun d5 a5 b5 p5 q5 r5 s5 t5=>⟨by show 2 ≤ sizeLine; decide,fun L1 hL1=>?_⟩⟩⟩
   have J5:=stepN _ _ _ _ (stepP _ _ _ _ (stepP _ _ _ _ J3 aL.upd (aN.upd r4 s4 t4)) aL.upd (aN.upd r5 s5 t5)) (aG (o:=.lst [.int (first + d4),.int d5]) hL1)
   refine ⟨_,rfl,_,_,rfl,rfl,.inr ⟨_,rfl,L1,_,_,_,rfl,rfl,SqL.of aB,aD6,_,rfl,_,_,rfl,rfl,by omega,?_⟩⟩
   obtain ⟨x,hx⟩ : ∃ x : Nat,(x : Int) = (if (decide (way < 2)) = true then d5 else first + d4) % (n : Int):=⟨((if (decide (way < 2)) = true then d5 else first + d4) % (n : Int)).toNat,Int.toNat_of_nonneg (Int.emod_nonneg _ (by omega))⟩
   have xn : x < n:=by
    have:=Int.emod_lt_of_pos (if (decide (way < 2)) = true then d5 else first + d4) (show (0 : Int) < n by omega)
    omega
   change bG 9 (V.int ((if (decide (way < 2)) = true then d5 else first + d4) % (n : Int))) _ _ _
   rw [← hx]
   revert J5
   generalize upd _ L1 _ = H5
   intro J5
   refine ⟨_,rfl,_,rfl,_,rfl,p,n,rfl,by omega,by omega,J5.2.1,fun d6 a6 b6 p6 q6 r6 s6 t6=>⟨by show 2 ≤ sizeLine; decide,fun L2 hL2=>?_⟩⟩
   have J6:=stepN _ _ _ _ (stepP _ _ _ _ J5 aL.upd (aN.upd r6 s6 t6)) (aG (o:=.lst [.int first,.int d6]) hL2)
   refine ⟨_,rfl,_,_,rfl,rfl,by show (0 : Int) < 2; decide,.inl ⟨_,rfl,L2,_,_,_,rfl,rfl,SqL.of aB,aD7 y0,?_⟩⟩
   change bG 10 (V.int (if way % 2 = 1 then d6 else first)) _ _ _
   have hb : 0 ≤ (if way % 2 = 1 then d6 else first)∧(if way % 2 = 1 then d6 else first) < 32:=by split <;> omega
   revert hb
   generalize (if way % 2 = 1 then d6 else first) = home
   intro hb
   revert J6
   generalize upd _ L2 _ = H6
   intro J6
   refine ⟨_,rfl,_,rfl,rfl,_,rfl,?_⟩
   refine aD8 (fun σ Hc=>∃ hm,σ = [some (.ref p),some (.ref O),some (.int 16),some (.int n),some (.int way),some (.int first),some (.ref Lh),some (.ref Ls),some (.int (0 + (i : Int))),some (.int x),some (.int hm)]∧(0 ≤ hm∧hm < 32)∧J hs st Hc) ?_ (fun e kc=>?_) (fun e=>⟨_,rfl,hb,J6⟩)
   ·rintro σ H7 ⟨hm,rfl,hmb,J7⟩
    refine ⟨_,rfl,p,9,rfl,by decide,by decide,J7.2.1,fun d8 a8 b8 p8 q8 r8 s8 t8=>⟨rfl,_,rfl,?_⟩⟩
    have J8:=stepP _ _ _ _ J7 aL.upd (aN.upd r8 s8 t8)
    have fin : ∀ (y : Option Nat) (H9 : Hp),J hs st H9→(∀ z,y = some z→z < n∧st.count (some z) < (g z).length)→J (hs ++ [hm]) (st ++ [y]) (upd (upd H9 Lh (.lst (HV hs ++ [.int hm]))) Ls (.lst (SV st ++ [stV y]))):=by
     rintro y H9 ⟨o1,o2,o3,o4⟩ _
     refine ⟨bY (bY o1 hhH) hsH,?_,?_,?_⟩
     ·obtain ⟨u,v,e,r⟩:=o2
      exact ⟨u,v,by rw [aD nps.symm,aD nph.symm]; exact e,r⟩
     ·rw [aD nhs,aB]
      unfold HV; rw [List.map_append]; rfl
     ·rw [aB]
      unfold SV; rw [List.map_append]; rfl
    have end' : ∀ (y : Option Nat) (H9 : Hp),J hs st H9→(∀ z,y = some z→z < n∧st.count (some z) < (g z).length)→∃ hs' st',J hs' st' (upd (upd H9 Lh (.lst (HV hs ++ [.int hm]))) Ls (.lst (SV st ++ [stV y])))∧hs'.length = i + 1∧st'.length = i + 1∧cA n g st'∧∀ h∈hs',0 ≤ h∧h < 32 :=
     fun y H9 j9 hy=>⟨_,_,fin y H9 j9 hy,by rw [List.length_append,lh]; rfl,by rw [List.length_append,ls]; rfl,R.push hy,fun h hh=>by
      rcases List.mem_append.mp hh with z | z
      ·exact BH h z
      ·rw [List.mem_singleton.mp z]; exact hmb⟩
    have lhz : (HV hs).length < sizeLine:=by rw [List.length_map,lh]; exact Nat.lt_of_lt_of_le i16 (by decide)
    have lsz : (SV st).length < sizeLine:=by rw [List.length_map,ls]; exact Nat.lt_of_lt_of_le i16 (by decide)
    refine ite2 (fun e=>?_) (fun e=>?_)
    ·refine fO ?_
     exact ⟨_,rfl,.inl ⟨rfl,_,SqL.of J8.2.2.1⟩,_,rfl,Lh,_,_,rfl,rfl,J8.2.2.1,lhz,_,rfl,.inl ⟨rfl,_,SqL.of (by rw [aD nhs.symm]; exact J8.2.2.2)⟩,_,rfl,Ls,_,_,rfl,rfl,by rw [aD nhs.symm]; exact J8.2.2.2,lsz,⟨_,_,_,rfl⟩,end' none _ J8 (fun z hz=>by cases hz)⟩
    ·have hO8:=outs _ _ _ J8
     refine ⟨_,rfl,.inl ⟨rfl,_,SqL.of J8.2.2.2⟩,_,rfl,Ls,_,_,rfl,rfl,J8.2.2.2,rfl,wD,_,rfl,_,rfl,O,_,rfl,hO8.get xn,as.getD x 0,NV (g x),rfl,.inl (SqL.of (hO8.rows.2 x xn)),rfl,_,rfl,?_⟩
     refine ite2 (fun e2=>?_) (fun e2=>?_)
     ·exact ⟨_,rfl,.inl ⟨rfl,_,SqL.of J8.2.2.1⟩,_,rfl,Lh,_,_,rfl,rfl,J8.2.2.1,lhz,_,rfl,.inl ⟨rfl,_,SqL.of (by rw [aD nhs.symm]; exact J8.2.2.2)⟩,_,rfl,Ls,_,_,rfl,rfl,by rw [aD nhs.symm]; exact J8.2.2.2,lsz,⟨_,_,_,rfl⟩,end' none _ J8 (fun z hz=>by cases hz)⟩
     ·refine ⟨_,rfl,.inl ⟨rfl,_,SqL.of J8.2.2.1⟩,_,rfl,Lh,_,_,rfl,rfl,J8.2.2.1,lhz,_,rfl,.inl ⟨rfl,_,SqL.of (by rw [aD nhs.symm]; exact J8.2.2.2)⟩,_,rfl,Ls,_,_,rfl,rfl,by rw [aD nhs.symm]; exact J8.2.2.2,lsz,⟨_,_,_,rfl⟩,end' (some x) _ J8 (fun z hz=>?_)⟩
      cases hz
      refine ⟨xn,?_⟩
      have:=R.2 x xn
      refine Nat.lt_of_le_of_ne this fun z=>e2 (decide_eq_true ?_)
      rw [nP,z,List.length_map]
   ·refine ⟨_,rfl,_,_,rfl,rfl,_,rfl,_,rfl,_,_,rfl,rfl,p,_,rfl,by omega,by omega,J6.2.1,fun d7 a7 b7 p7 q7 r7 s7 t7=>⟨_,_,rfl,rfl,_,rfl,_,_,rfl,rfl,by omega,kc _ _ ⟨_,rfl,⟨Int.emod_nonneg _ (by omega),Int.lt_of_lt_of_le (Int.emod_lt_of_pos _ (by omega)) (by omega)⟩,stepP _ _ _ _ J6 aL.upd (aN.upd r7 s7 t7)⟩⟩⟩
  ·rintro σ H3 ⟨⟨v8,v9,v10,rfl⟩,hs,st,J3,lh,ls,R,BH⟩
   refine ⟨_,rfl,Lh,_,rfl,.inl ⟨SqL.of J3.2.2.1,fun a hA=>?_⟩⟩
   have J4:=stepN _ _ _ _ J3 (aG (o:=.tup (HV hs)) hA)
   refine ⟨_,rfl,Ls,_,rfl,.inl ⟨SqL.of J4.2.2.2,fun b hB=>?_⟩⟩
   have J5:=stepN _ _ _ _ J4 (aG (o:=.tup (SV st)) hB)
   refine ⟨by show 2 ≤ sizeLine; decide,fun t ht=>?_⟩
   have J6:=stepN _ _ _ _ J5 (aG (o:=.tup [.ref a,.ref b]) ht)
   have : d < 17:=d1
   exact q t a b hs st _ aB (aG ht _ _ (aG hB _ _ aB)) (aG ht _ _ aB) (by omega) (by omega) R BH J6.1 J6.2.1
end
end K61
namespace K61
open PySem L2
abbrev sBeh : Stmt:=top 40
def bh1 (hs : List Int) (i : Nat) : Option Nat→Option Nat
 | none=>none
 | some h=>if (h : Int) = hs.getD i 0 then none else some h
def bhS (hs : List Int) (gs : List (Option Nat)) (k : Nat) : List (Option Nat):=(List.range k).map fun i=>bh1 hs i (gs.getD i none)
def bh (hs : List Int) (gs : List (Option Nat)) : List (Option Nat):=bhS hs gs gs.length
theorem aBa {hs : List Int} {gs : List (Option Nat)} {k : Nat} : bhS hs gs (k + 1) = bhS hs gs k ++ [bh1 hs k (gs.getD k none)]:=by unfold bhS; rw [List.range_succ,List.map_append]; rfl
theorem qG {hs : List Int} {gs : List (Option Nat)} {k : Nat} : (bhS hs gs k).length = k:=by unfold bhS; rw [List.length_map,List.length_range]
theorem pE {s : List (Option Nat)} {i : Nat} {x : V} (h : (SV s)[i]? = some x) : i < s.length∧x = stV (s.getD i none):=by
 rw [List.getElem?_map] at h
 cases e : s[i]? with
 | none=>rw [e] at h; cases h
 | some a =>
  rw [e] at h
  refine ⟨(List.getElem?_eq_some_iff.mp e).1,?_⟩
  rw [List.getD_eq_getElem?_getD,e]
  exact (Option.some.inj h).symm
theorem dQ {s : List (Option Nat)} {i : Nat} (h : i < s.length) : atI (SV s) (i : Int) = some (stV (s.getD i none)):=by
 refine bQ ?_
 rw [List.getElem?_map,List.getElem?_eq_getElem h,List.getD_eq_getElem?_getD,List.getElem?_eq_getElem h]
 rfl
theorem iO {s : List Int} {i : Nat} (h : i < s.length) : atI (HV s) (i : Int) = some (.int (s.getD i 0)):=by
 refine bQ ?_
 rw [List.getElem?_map,List.getElem?_eq_getElem h,List.getD_eq_getElem?_getD,List.getElem?_eq_getElem h]
 rfl
theorem aCw {s : List (Option Nat)} {o : Option Nat} : SV (s ++ [o]) = SV s ++ [stV o]:=by unfold SV; rw [List.map_append]; rfl
theorem aBD : (["_law_i", "_law_house", "_law_homes"] : List Str).Nodup:=by decide +kernel
section
variable {P : Program} {w : World} {K : PySem.W.Frag} {mg : Str→Option Value} {base : Heap}
theorem aD9 : aY ["_law_homes", "_law_stand", "_law_gone"] ["_law_homes", "_law_stand", "_law_gone"] (aI sBeh):=⟨rfl,rfl,rfl,by decide +kernel,rfl,by decide +kernel,by decide +kernel⟩
def xS : Sp:=fun vs H Q _=>∃ (a c : Addr) (y : V) (hs : List Int) (gs : List (Option Nat)),vs = [.ref a,y,.ref c]∧H a = some (.tup (HV hs))∧H c = some (.tup (SV gs))∧gs.length = hs.length∧gs.length ≤ 16 ∧
 ∀ (r : Addr) (H' : Hp),Same H H'→H' r = some (.tup (SV (bh hs gs)))→Q (.ref r) H'
theorem aDs {f : Addr} {fd : FuncData} (F : Fun K "_law_behind" "_law_behind" sBeh f fd) (B : Bl mg) : FnOk P w K mg base CX0 1 f fd ["_law_homes", "_law_stand", "_law_gone"] xS:=by
 refine F.ok aD9 (fun vs H Q E h=>?_) (fun cdv A outer s H vs Q E hr h=>?_)
 ·obtain ⟨a,c,y,hs,gs,rfl,_⟩:=h
  rfl
 ·obtain ⟨a,c,y,hs,gs,rfl,ha,hc,hl,l16,q⟩:=h
  refine' ⟨_,aK (bB (bT eK (by rfl) B.tup PyProof.Rows.boot_tuple (aA ?c aE))),?_⟩
  case c =>
   refine' cZ (g:=gTup K 2 (cS (bG 0) (cS (bG 1) gNil))) (te:=tIf (tOr (tB (tIsN (tVar 1))) (iH (tOp rEq (tVar 1) (tOp (rIxT K) (tVar 2) (tVar 0))))) (tC .non) (tVar 1)) (NB:=["_law_i", "_law_house", "_law_homes"]) (src:=[none,none,some 0]) (bZ (by kernel_rfl)) rfl
    (kS rfl B.enum (aA (pv 2) aE)) ?g ?t ?e
   case g=>exact fun cl C s₃ H₃ fp=>dE (n:=2) rfl (bD (aM (i:=0) aBD rfl (Or.inl rfl) (Or.inr rfl)) (bD (aM (i:=1) aBD rfl (Or.inl rfl) (Or.inr rfl)) cM))
   case t=>exact fun cl C s₃ H₃ fp=>dU
   case e=>exact fun cl C s₃ H₃ fp=>aAE (PW.pt (eY (iC (nR (pv 1))) (gA (aZ cT (pv 1) (aO bP (pv 2) (pv 0) (fun _ _=>rfl)) (aX _))))) kD (pv 1)
  refine ⟨_,rfl,c,_,rfl,SqT.of hc,fun D hD=>?_⟩
  have fin : ∀ i ys H3 t o,ys = SV (bhS hs gs i)→Same H H3→H3 D = some (.lst ys)→H3 t = none→i < gs.length→bh1 hs i (gs.getD i none) = o →
    (upd H3 t (.tup [.int (i : Int),stV (gs.getD i none)])) D = some (.lst ys)∧ys.length < sizeLine∧ys ++ [stV o] = SV (bhS hs gs (i + 1))∧Same H (upd (upd H3 t (.tup [.int (i : Int),stV (gs.getD i none)])) D (.lst (ys ++ [stV o])))∧(upd (upd H3 t (.tup [.int (i : Int),stV (gs.getD i none)])) D (.lst (ys ++ [stV o]))) D = some (.lst (ys ++ [stV o])):=by
   rintro i ys H3 t o rfl sm hD3 ht hi rfl
   refine ⟨aG ht _ _ hD3,?_,?_,fun b u e=>?_,aB⟩
   ·rw [List.length_map,qG]; exact Nat.lt_of_lt_of_le (show i < 17 by omega) (by decide)
   ·rw [aBa,aCw]
   ·rw [aD (aF e hD)]
    exact aG ht _ _ (sm _ _ e)
  refine iJ (K:=K) (a:=c) (xs:=SV gs) (fun i ys σ H3=>(∃ u v,σ = [u,v,some (.ref a)])∧ys = SV (bhS hs gs i)∧Same H H3∧H3 D = some (.lst ys)) ⟨⟨_,_,rfl⟩,rfl,aG hD,aB⟩ (fun i ys σ H3 _ z=>SqT.of (z.2.2.1 _ _ hc)) ?_ ?_
  ·rintro i x t ys σ H3 Kt Kf hx ⟨⟨u,v,rfl⟩,hys,sm,hD3⟩ ht kt kf
   obtain ⟨hi,rfl⟩:=pE hx
   refine ⟨_,_,rfl,SqT.of aB,rfl,_,_,rfl,_,_,rfl,rfl,?_⟩
   refine ⟨_,rfl,_,rfl,?_⟩
   cases ho : gs.getD i none with
   | none =>
    obtain ⟨f1,f2,f3,f4,f5⟩:=fin i ys H3 t none hys sm hD3 ht hi (by rw [ho]; rfl)
    rw [ho] at f1 f4 f5
    refine ite2 (fun e=>?_) (fun e=>absurd (decide_eq_true rfl) e)
    exact fO (kt _ _ _ f1 f2 ⟨⟨_,_,rfl⟩,f3,f4,f5⟩)
   | some h =>
    refine ite2 (fun e=>absurd (of_decide_eq_true e) (by intro z; cases z)) (fun e=>?_)
    refine ⟨_,rfl,_,rfl,_,rfl,a,_,_,_,rfl,rfl,SqT.of (aG ht _ _ (sm _ _ ha)),iO (by omega),rfl,_,rfl,?_⟩
    refine ite2 (fun e2=>?_) (fun e2=>?_)
    ·have e3 : (h : Int) = hs.getD i 0:=V.int.inj (of_decide_eq_true e2)
     obtain ⟨f1,f2,f3,f4,f5⟩:=fin i ys H3 t none hys sm hD3 ht hi (by rw [ho]; exact if_pos e3)
     rw [ho] at f1 f4 f5
     exact kt _ _ _ f1 f2 ⟨⟨_,_,rfl⟩,f3,f4,f5⟩
    ·have e3 : ¬ (h : Int) = hs.getD i 0:=fun z=>e2 (decide_eq_true (by show V.int (h : Int) = V.int (hs.getD i 0); rw [z]))
     obtain ⟨f1,f2,f3,f4,f5⟩:=fin i ys H3 t (some h) hys sm hD3 ht hi (by rw [ho]; exact if_neg e3)
     rw [ho] at f1 f4 f5
     exact ⟨_,rfl,kt _ _ _ f1 f2 ⟨⟨_,_,rfl⟩,f3,f4,f5⟩⟩
  ·rintro ys σ H3 ⟨_,rfl,sm,hD3⟩
   rw [show (SV gs).length = gs.length from List.length_map _] at hD3
   exact ⟨D,_,rfl,.inl ⟨SqL.of hD3,fun r hr=>q r _ (sm.trans (aG hr)) aB⟩⟩
end
theorem pF : ∀ {l m : List Nat},l.Nodup→(∀ x∈l,x∈m)→l.length ≤ m.length
 | [],m,_,_=>Nat.zero_le _
 | a :: l,m,nd,sub=>by
  have ha : a∈m:=sub a List.mem_cons_self
  have ih:=pF (l:=l) (m:=m.erase a) (List.nodup_cons.mp nd).2 fun x hx=>(List.mem_erase_of_ne (show x ≠ a from fun z=>(List.nodup_cons.mp nd).1 (by rw [← z]; exact hx))).mpr (sub x (List.mem_cons_of_mem _ hx))
  rw [List.length_erase_of_mem ha] at ih
  have:=List.length_pos_of_mem ha
  rw [List.length_cons]
  omega
theorem uC {s : List (Option Nat)} {a : Option Nat} : s.count a = ((List.range s.length).filter fun i=>s.getD i none == a).length:=by
 have e : (List.range s.length).map (fun i=>s.getD i none) = s:=by
  apply List.ext_getElem?
  intro i
  rw [List.getElem?_map]
  by_cases hi : i < s.length
  ·rw [List.getElem?_range hi,List.getElem?_eq_getElem hi]
   show some (s.getD i none) = _
   rw [List.getD_eq_getElem?_getD,List.getElem?_eq_getElem hi]; rfl
  ·rw [List.getElem?_eq_none (by rw [List.length_range]; omega),List.getElem?_eq_none (by omega)]; rfl
 conv=>lhs; rw [← e]
 rw [List.count_eq_countP,List.countP_map,List.countP_eq_length_filter]
 rfl
structure fG (g : Nat→List Nat) (s gs : List (Option Nat)) : Prop where
 len : gs.length = s.length
 non : ∀ i,s.getD i none = none→gs.getD i none = none
 tie : ∀ i h,s.getD i none = some h→∃ o,gs.getD i none = some o∧o∈g h
 uni : ∀ i j h o,s.getD i none = some h→s.getD j none = some h→gs.getD i none = some o→gs.getD j none = some o→i = j
theorem cE {s : List (Option Nat)} {i h : Nat} (e : s.getD i none = some h) : i < s.length∧some h∈s:=by
 rw [List.getD_eq_getElem?_getD] at e
 cases z : s[i]? with
 | none=>rw [z] at e; cases e
 | some a =>
  rw [z] at e
  have e' : a = some h:=e
  exact ⟨(List.getElem?_eq_some_iff.mp z).1,e' ▸ List.mem_of_getElem? z⟩
theorem xT {s : List (Option Nat)} {h : Nat} (e : some h∈s) : ∃ i,i < s.length∧s.getD i none = some h:=by
 obtain ⟨i,hi⟩:=List.getElem?_of_mem e
 exact ⟨i,(List.getElem?_eq_some_iff.mp hi).1,by rw [List.getD_eq_getElem?_getD,hi]; rfl⟩
theorem fG.right {n : Nat} {g : Nat→List Nat} {s gs t : List (Option Nat)} (Hd : fG g s gs) (G : Good n g) (R : cA n g s) (hl : t.length = gs.length) (ht : ∀ i,t.getD i none = none∨t.getD i none = gs.getD i none) : cA n g t:=by
 have key : ∀ i x,t.getD i none = some x→∃ h,s.getD i none = some h∧h < n∧x∈g h∧gs.getD i none = some x:=by
  intro i x e
  have e2 : gs.getD i none = some x:=by
   rcases ht i with z | z
   ·rw [z] at e; cases e
   ·rw [← z]; exact e
  cases es : s.getD i none with
  | none=>rw [Hd.non i es] at e2; cases e2
  | some h =>
   obtain ⟨o,o1,o2⟩:=Hd.tie i h es
   rw [e2] at o1
   cases o1
   exact ⟨h,rfl,R.1 h (cE es).2,o2,e2⟩
 refine ⟨fun x hx=>?_,fun x hx=>?_⟩
 ·obtain ⟨i,_,e⟩:=xT hx
  obtain ⟨h,_,hn,ho,_⟩:=key i x e
  exact (G.lt h hn x ho).1
 ·rw [uC,G.bal x hx]
  unfold inn
  rw [List.countP_eq_length_filter,← List.length_map (f:=fun i=>(s.getD i none).getD 0)]
  refine pF ?_ fun y hy=>?_
  ·refine List.pairwise_map.mpr ?_
   refine List.Pairwise.imp_of_mem ?_ (List.Pairwise.filter _ (List.nodup_range (n:=t.length)))
   intro i j hi hj hij e
   have ei:=eq_of_beq (List.mem_filter.mp hi).2
   have ej:=eq_of_beq (List.mem_filter.mp hj).2
   obtain ⟨h1,a1,_,_,b1⟩:=key i x ei
   obtain ⟨h2,a2,_,_,b2⟩:=key j x ej
   have e' : (s.getD i none).getD 0 = (s.getD j none).getD 0:=e
   rw [a1,a2] at e'
   have e'' : h1 = h2:=e'
   subst e''
   exact hij (Hd.uni i j h1 x a1 a2 b1 b2)
  ·obtain ⟨i,hi,rfl⟩:=List.mem_map.mp hy
   obtain ⟨h,a,hn,ho,_⟩:=key i x (eq_of_beq (List.mem_filter.mp hi).2)
   refine List.mem_filter.mpr ⟨?_,?_⟩
   ·rw [a]; exact List.mem_range.mpr hn
   ·rw [a]; exact decide_eq_true ho
theorem aBE {hs : List Int} {gs : List (Option Nat)} (i : Nat) : (bh hs gs).getD i none = none∨(bh hs gs).getD i none = gs.getD i none:=by
 by_cases hi : i < gs.length
 ·have e : (bh hs gs).getD i none = bh1 hs i (gs.getD i none):=by
   unfold bh bhS
   rw [List.getD_eq_getElem?_getD,List.getElem?_map,List.getElem?_range hi]; rfl
  rw [e]
  cases gs.getD i none with
  | none=>exact .inl rfl
  | some h =>
   unfold bh1
   dsimp only
   by_cases z : (h : Int) = hs.getD i 0
   ·rw [if_pos z]; exact .inl rfl
   ·rw [if_neg z]; exact .inr rfl
 ·left
  rw [List.getD_eq_getElem?_getD,List.getElem?_eq_none (by unfold bh; rw [qG]; omega)]; rfl
theorem uD {hs : List Int} {gs : List (Option Nat)} : (bh hs gs).length = gs.length:=qG
end K61
namespace K61
open PySem L2
abbrev sAny : Stmt:=top 41
def pKey (p : Nat × Nat) : List Key:=[.inl (p.1 : Int),.inl (p.2 : Int)]
def pKV (ps : List (Nat × Nat)) : List (List Key × V):=ps.map fun p=>(pKey p,V.bl true)
theorem aBb {p q : Nat × Nat} (h : pKey p = pKey q) : p = q:=by
 obtain ⟨a,b⟩:=p
 obtain ⟨c,d⟩:=q
 unfold pKey at h
 have h1:=(List.cons.inj h).1
 have h2:=(List.cons.inj (List.cons.inj h).2).1
 have e1:=Sum.inl.inj h1
 have e2:=Sum.inl.inj h2
 dsimp only at e1 e2
 congr 1 <;> omega
theorem mO {p : Nat × Nat} : ∀ {ps : List (Nat × Nat)},(valV (pKV ps) (pKey p)).isSome = decide (p∈ps)
 | []=>by simp [pKV,valV]
 | q :: ps=>by
  have ih:=mO (p:=p) (ps:=ps)
  unfold pKV valV at ih ⊢
  rw [List.map_cons,List.find?_cons]
  by_cases e : q = p
  ·subst e
   simp
  ·have : (decide (pKey q = pKey p)) = false:=decide_eq_false fun z=>e (aBb z)
   simp only [this]
   rw [ih]
   have e' : ¬ p = q:=fun z=>e z.symm
   simp [e']
theorem aBc {p : Nat × Nat} {ps : List (Nat × Nat)} (h : p ∉ ps) : valV (pKV ps) (pKey p) = none:=by
 have:=mO (p:=p) (ps:=ps)
 rw [decide_eq_false h] at this
 cases e : valV (pKV ps) (pKey p) with
 | none=>rfl
 | some v=>rw [e] at this; cases this
theorem aBd {p : Nat × Nat} {ps : List (Nat × Nat)} : pKV (ps ++ [p]) = pKV ps ++ [(pKey p,V.bl true)]:=by unfold pKV; rw [List.map_append]; rfl
theorem aBe {m : Nat} : (List.replicate m [V.non]).flatten = SV (List.replicate m none):=by
 induction m with
 | zero=>rfl
 | succ m ih =>
  rw [List.replicate_succ,List.flatten_cons,ih,List.replicate_succ]
  rfl
def unw (s : List (Option Nat)) (k : Nat) : List Nat:=(List.range k).filter fun i=>(s.getD i none).isSome
theorem uE {s : List (Option Nat)} {k : Nat} : unw s (k + 1) = unw s k ++ (if (s.getD k none).isSome = true then [k] else []):=by
 unfold unw
 rw [List.range_succ,List.filter_append]
 congr 1
 by_cases e : (s.getD k none).isSome = true
 ·rw [if_pos e,List.filter_cons_of_pos (p:=fun i=>(s.getD i none).isSome) e,List.filter_nil]
 ·rw [if_neg e,List.filter_cons_of_neg (p:=fun i=>(s.getD i none).isSome) e,List.filter_nil]
theorem qH {s : List (Option Nat)} {k : Nat} : (unw s k).length ≤ k:=by
 unfold unw
 refine Nat.le_trans (List.length_filter_le _ _) ?_
 rw [List.length_range]; exact Nat.le_refl _
def prt (s gl : List (Option Nat)) (pre : List Nat) : List (Nat × Nat):=pre.map fun i=>((s.getD i none).getD 0,(gl.getD i none).getD 0)
structure Mid (g : Nat→List Nat) (s gl : List (Option Nat)) (pre : List Nat) : Prop where
 len : gl.length = s.length
 out : ∀ i,i ∉ pre→gl.getD i none = none
 inn : ∀ i∈pre,∃ h o,s.getD i none = some h∧gl.getD i none = some o∧o∈g h
 nd : (prt s gl pre).Nodup
theorem jU {n : Nat} {g : Nat→List Nat} {s gl : List (Option Nat)} {pre : List Nat} {i h : Nat} (M : Mid g s gl pre) (np : (pre ++ [i]).Nodup) (R : cA n g s) (G : Good n g) (hs : s.getD i none = some h) : 0 < ((g h).filter fun o=>decide ((h,o) ∉ prt s gl pre)).length:=by
 refine Nat.pos_of_ne_zero fun z=>?_
 have hn : h < n:=R.1 h (cE hs).2
 have all : ∀ o∈g h,(h,o)∈prt s gl pre:=by
  intro o ho
  by_cases e : (h,o)∈prt s gl pre
  ·exact e
  ·have : o∈(g h).filter fun o=>decide ((h,o) ∉ prt s gl pre):=List.mem_filter.mpr ⟨ho,decide_eq_true e⟩
   rw [List.eq_nil_of_length_eq_zero z] at this
   cases this
 have h1 : (g h).length ≤ ((prt s gl pre).filter fun p=>p.1 == h).length:=by
  rw [← List.length_map (f:=fun p : Nat × Nat=>p.2)]
  refine pF (G.nd h hn) fun o ho=>List.mem_map.mpr ⟨(h,o),List.mem_filter.mpr ⟨all o ho,by simp⟩,rfl⟩
 have h2 : ((prt s gl pre).filter fun p=>p.1 == h).length = (pre.filter fun i=>(s.getD i none).getD 0 == h).length:=by
  unfold prt
  rw [List.filter_map,List.length_map]
  rfl
 have h3 : (i :: pre.filter fun i=>(s.getD i none).getD 0 == h).length ≤ s.count (some h):=by
  rw [uC]
  obtain ⟨n1,n2,n3⟩:=List.nodup_append.mp np
  refine pF (List.nodup_cons.mpr ⟨fun z=>n3 i (List.mem_filter.mp z).1 i (List.mem_singleton.mpr rfl) rfl,List.Pairwise.filter _ n1⟩) fun x hx=>?_
  rcases List.mem_cons.mp hx with rfl | hx
  ·exact List.mem_filter.mpr ⟨List.mem_range.mpr (cE hs).1,by rw [hs]; simp⟩
  ·obtain ⟨p1,p2⟩:=List.mem_filter.mp hx
   obtain ⟨h',o,a,_,_⟩:=M.inn x p1
   rw [a] at p2
   have p3 : h' = h:=eq_of_beq p2
   subst p3
   exact List.mem_filter.mpr ⟨List.mem_range.mpr (cE a).1,by rw [a]; simp⟩
 rw [List.length_cons] at h3
 have:=R.2 h hn
 omega
theorem eF {gl : List (Option Nat)} {i j : Nat} {x : Option Nat} (h : i < gl.length) : (gl.set i x).getD j none = if j = i then x else gl.getD j none:=by
 rw [List.getD_eq_getElem?_getD,List.getD_eq_getElem?_getD,List.getElem?_set]
 by_cases e : i = j
 ·subst e
  rw [if_pos rfl,if_pos h,if_pos rfl]; rfl
 ·rw [if_neg e,if_neg (fun z=>e z.symm)]
theorem aCx {s gl : List (Option Nat)} {pre : List Nat} {i : Nat} {x : Option Nat} (h : i < gl.length) (hp : i ∉ pre) : prt s (gl.set i x) pre = prt s gl pre:=by
 unfold prt
 refine List.map_congr_left fun j hj=>?_
 have hji : j ≠ i:=by rintro rfl; exact hp hj
 rw [eF h,if_neg hji]
theorem Mid.step {g : Nat→List Nat} {s gl : List (Option Nat)} {pre : List Nat} {i h o : Nat} (M : Mid g s gl pre) (hp : i ∉ pre) (hs : s.getD i none = some h) (ho : o∈g h) (hf : (h,o) ∉ prt s gl pre) : Mid g s (gl.set i (some o)) (pre ++ [i])∧prt s (gl.set i (some o)) (pre ++ [i]) = prt s gl pre ++ [(h,o)]:=by
 have hi : i < gl.length:=by rw [M.len]; exact (cE hs).1
 have e : prt s (gl.set i (some o)) (pre ++ [i]) = prt s gl pre ++ [(h,o)]:=by
  have : prt s (gl.set i (some o)) (pre ++ [i]) = prt s (gl.set i (some o)) pre ++ prt s (gl.set i (some o)) [i]:=by unfold prt; rw [List.map_append]
  rw [this,aCx hi hp]
  congr 1
  unfold prt
  rw [List.map_cons,List.map_nil,eF hi,if_pos rfl,hs]
  rfl
 refine ⟨⟨by rw [List.length_set]; exact M.len,fun j hj=>?_,fun j hj=>?_,?_⟩,e⟩
 ·rw [eF hi,if_neg (fun z=>hj (List.mem_append.mpr (.inr (List.mem_singleton.mpr z))))]
  exact M.out j (fun z=>hj (List.mem_append.mpr (.inl z)))
 ·rw [eF hi]
  rcases List.mem_append.mp hj with z | z
  ·have hji : j ≠ i:=by rintro rfl; exact hp z
   rw [if_neg hji]; exact M.inn j z
  ·rw [if_pos (List.mem_singleton.mp z),List.mem_singleton.mp z]
   exact ⟨h,o,hs,rfl,ho⟩
 ·rw [e]
  exact List.nodup_append.mpr ⟨M.nd,List.nodup_cons.mpr ⟨(fun z=>nomatch z),List.nodup_nil⟩,fun u hu v hv z=>hf (by rw [List.mem_singleton] at hv; rw [← hv,← z]; exact hu)⟩
theorem Mid.done {g : Nat→List Nat} {s gl : List (Option Nat)} {pre : List Nat} (M : Mid g s gl pre) (hp : pre.Perm (unw s s.length)) : fG g s gl:=by
 have mem : ∀ i h,s.getD i none = some h→i∈pre:=fun i h e=>hp.mem_iff.mpr (List.mem_filter.mpr ⟨List.mem_range.mpr (cE e).1,by rw [e]; rfl⟩)
 refine ⟨M.len,fun i e=>?_,fun i h e=>?_,fun i j h o a b c d=>?_⟩
 ·refine M.out i fun z=>?_
  obtain ⟨h,_,y,_⟩:=M.inn i z
  rw [e] at y; cases y
 ·obtain ⟨h',o,a,b,c⟩:=M.inn i (mem i h e)
  rw [e] at a
  cases a
  exact ⟨o,b,c⟩
 ·have n1:=M.nd
  unfold prt at n1
  by_cases z : i = j
  ·exact z
  ·have hn:=List.pairwise_map.mp n1
   have hi:=mem i h a
   have hj:=mem j h b
   obtain ⟨x,hx,ex⟩:=List.mem_iff_getElem.mp hi
   obtain ⟨y,hy,ey⟩:=List.mem_iff_getElem.mp hj
   have hq:=List.pairwise_iff_getElem.mp hn
   rcases Nat.lt_trichotomy x y with l | l | l
   ·refine absurd ?_ (hq x y hx hy l)
    rw [ex,ey,a,b,c,d]
   ·subst l; rw [ex] at ey; exact ey
   ·refine absurd ?_ (hq y x hy hx l)
    rw [ex,ey,a,b,c,d]
theorem Mid.nil {g : Nat→List Nat} {s : List (Option Nat)} : Mid g s (List.replicate s.length none) []:=by
 refine ⟨List.length_replicate,fun i _=>?_,fun i hi=>(nomatch hi),List.nodup_nil⟩
 rw [List.getD_eq_getElem?_getD,List.getElem?_replicate]
 split <;> rfl
end K61
namespace K61
open PySem L2
theorem nbIH : (["_law_i", "_law_house"] : List Str).Nodup:=by decide +kernel
theorem aDt : (["_law_house", "_law_stand", "_law_i", "_law_taken"] : List Str).Nodup:=by decide +kernel
section
variable {P : Program} {w : World} {K : PySem.W.Frag} {mg : Str→Option Value} {base : Heap}
theorem pG : aY ["_law_pot_here", "_law_outs", "_law_stand", "_law_gone", "_law_taken", "_law_i", "_law_free"] ["_law_pot_here", "_law_outs", "_law_stand"] (aI sAny):=⟨rfl,rfl,rfl,by decide +kernel,rfl,by decide +kernel,by decide +kernel⟩
def xU : Sp:=fun vs H Q _=>∃ (p O S : Addr) (as : List Addr) (n : Nat) (g : Nat→List Nat) (s : List (Option Nat)),vs = [.ref p,.ref O,.ref S]∧aN H p∧cH H O as n g∧Off as n p∧Good n g∧n ≤ 32∧H S = some (.tup (SV s))∧s.length ≤ 16∧cA n g s ∧
 ∀ (r : Addr) (gs : List (Option Nat)) (H' : Hp),H' r = some (.tup (SV gs))→fG g s gs→aL p H H'→aN H' p→Q (.ref r) H'
theorem aDu {f : Addr} {fd : FuncData} (F : Fun K "_law_any_handing" "_law_any_handing" sAny f fd) (B : Bl mg) (T : Cal P w K mg base CX0 1 "_law_take" ["_law_pot_here", "_law_many"] eW) (SH : Cal P w K mg base CX0 2 "_law_shuffled" ["_law_pot_here", "_law_some"] (oX K)) : FnOk P w K mg base CX0 3 f fd ["_law_pot_here", "_law_outs", "_law_stand"] xU:=by
 refine F.ok pG (fun vs H Q E h=>?_) (fun cdv A outer s0 H vs Q E hr h=>?_)
 ·obtain ⟨p,O,S,as,n,g,s,rfl,_⟩:=h
  rfl
 ·obtain ⟨p,O,S,as,n,g,s,rfl,hp,hO,offp,G,n32,hS,l16,R,q⟩:=h
  have hu : (A.deeper (PyProof.Rows.envOfC "_law_any_handing" (aI sAny) s0.heap.objs.size f cdv)).units + 1 < cLine:=by have:=hr.un; omega
  have hr1 : Room 1 (A.deeper (PyProof.Rows.envOfC "_law_any_handing" (aI sAny) s0.heap.objs.size f cdv)):=hr.mono (by decide)
  refine' ⟨_,aH (aV (i:=3) pG.nd rfl (Or.inl rfl) (bA aCY (cG (aA kD aE)) (aQ aT (by rfl) B.len PySem.boot_len (aA (pv 2) aE))))
   (aH (aV (i:=4) pG.nd rfl (Or.inr rfl) aAS)
   (aH (bW PassesOwn.never rfl (cF (aS SH hr aU (aA (pv 0) (aA ?c1 aE)))) (aM (i:=5) pG.nd rfl (Or.inr rfl))
    (aH (eB (i:=6) (g:=bG 0) (tt:=tB (vU (tTup (bV (tOp (rIxT K) (tVar 1) (tVar 2)) (bV (tVar 0) tNil))) (tVar 3))) (te:=tVar 0) (NB:=["_law_house", "_law_stand", "_law_i", "_law_taken"]) (src:=[none,some 2,some 5,some 4]) (bZ (by kernel_rfl)) rfl (cF (dA hu (pv 1) (aO bP (pv 2) (pv 5) (fun _ _=>rfl)) (fun _ _=>rfl))) ?g2 ?t2 ?e2 pG.nd rfl rfl rfl)
    (aH (fH (aO aR (pv 6) (aS T hr1 aU (aA (pv 0) (aA (aQ aT (by rfl) B.len PySem.boot_len (aA (pv 6) aE)) aE))) (fun _ _=>rfl)) (jA (pv 3) (pv 5) fQ))
    (aK (kE hu (pv 4) (fK (aA (aO bP (pv 2) (pv 5) (fun _ _=>rfl)) (aA (aO aR (pv 3) (pv 5) (fun _ _=>rfl)) aE))) hJ rfl)))))
   (aK (bB (bT eK (by rfl) B.tup PyProof.Rows.boot_tuple (aA (pv 3) aE)))))),?_⟩
  case c1 =>
   refine' cZ (g:=gTup K 2 (cS (bG 0) (cS (bG 1) gNil))) (tt:=tB (aBn (tVar 1))) (te:=tVar 0) (NB:=["_law_i", "_law_house"]) (src:=[none,none]) (bZ (by kernel_rfl)) rfl
    (kS rfl B.enum (aA (pv 2) aE)) ?g ?t ?e
   case g=>exact fun cl C s₃ H₃ fp=>dE (n:=2) rfl (bD (aM (i:=0) nbIH rfl (Or.inl rfl) (Or.inr rfl)) (bD (aM (i:=1) nbIH rfl (Or.inl rfl) (Or.inr rfl)) cM))
   case t=>exact fun cl C s₃ H₃ fp=>eN (iC (vG (pv 1)))
   case e=>exact fun cl C s₃ H₃ fp=>pv 0
  case g2=>exact fun cl C s₃ H₃ fp=>aM (i:=0) aDt rfl (Or.inl rfl) (Or.inr rfl)
  case t2=>exact fun cl C s₃ H₃ fp=>eN (iC (rC hu (fK (aA (aO bP (pv 1) (pv 2) (fun _ _=>rfl)) (aA (pv 0) aE))) (pv 3)))
  case e2=>exact fun cl C s₃ H₃ fp=>pv 0
  refine ⟨by show 1 ≤ sizeLine; decide,fun L hL=>⟨_,rfl,S,_,rfl,.inr (SqT.of (aG hL _ _ hS)),L,_,_,rfl,rfl,aB,by omega,?_,?_,fun Gn hG=>?_⟩⟩
  ·rw [List.length_map]; omega
  ·rw [Int.toNat_natCast,List.length_map]
   exact Nat.le_trans (show 1 * s.length ≤ 16 by omega) (by decide)
  have eL : (List.replicate ((((SV s).length : Nat) : Int)).toNat [V.non]).flatten = SV (List.replicate s.length none):=by rw [Int.toNat_natCast,List.length_map]; exact aBe
  rw [eL]
  have sm1 : Same H (upd (upd H L (.lst [.non])) Gn (.lst (SV (List.replicate s.length none)))):=(aG hL).trans (aG hG)
  have hGH : H Gn = none:=(aG hL).free hG
  have hGn1 : (upd (upd H L (.lst [.non])) Gn (.lst (SV (List.replicate s.length none)))) Gn = some (.lst (SV (List.replicate s.length none))):=aB
  revert sm1 hGn1
  generalize upd (upd H L (.lst [.non])) Gn (.lst (SV (List.replicate s.length none))) = H1
  intro sm1 hGn1 Tk hTk
  have hTH : H Tk = none:=sm1.free hTk
  have nGT : Gn ≠ Tk:=aF hGn1 hTk
  have sm2 : Same H (upd H1 Tk (.dT [])):=sm1.trans (aG hTk)
  have hGn2 : (upd H1 Tk (.dT [])) Gn = some (.lst (SV (List.replicate s.length none))):=aG hTk _ _ hGn1
  have hTk2 : (upd H1 Tk (.dT [])) Tk = some (.dT []):=aB
  revert sm2 hGn2 hTk2
  generalize upd H1 Tk (.dT []) = H2
  intro sm2 hGn2 hTk2
  refine ⟨_,rfl,_,rfl,S,_,rfl,SqT.of (sm2 _ _ hS),fun D hD=>?_⟩
  refine iJ (K:=K) (a:=S) (xs:=SV s) (fun i ys σ H3=>(∃ u v,σ = [u,v])∧ys = NV (unw s i)∧Same H2 H3∧H3 D = some (.lst ys)) ⟨⟨_,_,rfl⟩,rfl,aG hD,aB⟩ (fun i ys σ H3 _ z=>SqT.of (z.2.2.1 _ _ (sm2 _ _ hS))) ?_ ?_
  ·rintro i x t ys σ H3 Kt Kf hx ⟨⟨u,v,rfl⟩,rfl,sm,hD3⟩ ht kt kf
   obtain ⟨hi,rfl⟩:=pE hx
   refine ⟨_,_,rfl,SqT.of aB,rfl,_,_,rfl,_,_,rfl,rfl,?_⟩
   refine ⟨_,rfl,_,rfl,?_⟩
   refine ite2 (fun e=>?_) (fun e=>?_)
   ·have e' : (s.getD i none).isSome = true:=by
     cases ho : s.getD i none with
     | none=>rw [ho] at e; simp [stV] at e
     | some h=>rfl
    refine ⟨_,rfl,kt _ _ _ (aG ht _ _ hD3) ?_ ⟨⟨_,_,rfl⟩,?_,fun b u e=>?_,aB⟩⟩
    ·rw [List.length_map]; exact Nat.lt_of_le_of_lt qH (Nat.lt_of_lt_of_le (show i < 17 by omega) (by decide))
    ·rw [uE,if_pos e']
     unfold NV; rw [List.map_append]; rfl
    ·rw [aD (aF e hD)]
     exact aG ht _ _ (sm _ _ e)
   ·have e' : ¬ (s.getD i none).isSome = true:=by
     cases ho : s.getD i none with
     | none=>intro z; cases z
     | some h=>rw [ho] at e; simp [stV] at e
    exact kf _ _ ⟨⟨_,_,rfl⟩,by rw [uE,if_neg e',List.append_nil],sm.trans (aG ht),aG ht _ _ hD3⟩
  ·rintro ys σ H3 ⟨_,rfl,sm3,hD3⟩
   rw [show (SV s).length = s.length from List.length_map _] at hD3
   have po3 : aN H3 p:=(hp.same sm2).same sm3
   have nDp : D ≠ p:=by rintro rfl; exact (hp.same sm2).some hD
   refine ⟨p,D,_,rfl,po3,hD3,nDp,?_,fun r ys H4 pm se4 po4 hr4 hy4=>?_⟩
   ·rw [List.length_map]; exact Nat.lt_of_le_of_lt qH (by omega)
   obtain ⟨zs,rfl,pz⟩:=qE pm
   have znd : zs.Nodup:=pz.nodup_iff.mpr (List.Pairwise.filter _ List.nodup_range)
   have zlen : zs.length ≤ 16:=by rw [pz.length_eq]; exact Nat.le_trans qH l16
   have nrG : r ≠ Gn:=(aF (sm3 _ _ hGn2) hr4).symm
   have nrT : r ≠ Tk:=(aF (sm3 _ _ hTk2) hr4).symm
   have nGp : Gn ≠ p:=by rintro rfl; exact hp.some hGH
   have nTp : Tk ≠ p:=by rintro rfl; exact hp.some hTH
   have nrp : r ≠ p:=by rintro rfl; exact po3.some hr4
   have seH4 : aL p H H4:=(aL.of (sm2.trans sm3)).trans se4
   refine ⟨r,rfl,⟨_,SqL.of hy4⟩,fP (K:=K) (a:=r) (xs:=NV zs) (fun k σ H5=>(∃ v5 v6,σ = [some (.ref p),some (.ref O),some (.ref S),some (.ref Gn),some (.ref Tk),v5,v6])∧aL p H H5∧aN H5 p∧H5 r = some (.lst (NV zs))∧∃ gl,H5 Gn = some (.lst (SV gl))∧H5 Tk = some (.dT (pKV (prt s gl (zs.take k))))∧Mid g s gl (zs.take k))
    ⟨⟨_,_,rfl⟩,seH4,po4,hy4,_,se4 _ _ (sm3 _ _ hGn2) nGp,se4 _ _ (sm3 _ _ hTk2) nTp,Mid.nil⟩ (fun k σ H5 _ z=>SqL.of z.2.2.2.1) ?_ ?_⟩
   ·rintro k x σ H5 hx ⟨⟨v5,v6,rfl⟩,se5,po5,hr5,gl,hG5,hT5,M⟩
    rw [List.getElem?_map] at hx
    obtain ⟨i,hki,rfl⟩:=Option.map_eq_some_iff.mp hx
    have hk : k < zs.length:=(List.getElem?_eq_some_iff.mp hki).1
    have tk : zs.take (k + 1) = zs.take k ++ [i]:=by rw [List.take_add_one,hki]; rfl
    have npi : (zs.take k ++ [i]).Nodup:=by rw [← tk]; exact znd.sublist (List.take_sublist _ _)
    have hip : i ∉ zs.take k:=fun z=>(List.nodup_append.mp npi).2.2 i z i (List.mem_singleton.mpr rfl) rfl
    have him : i∈unw s s.length:=pz.mem_iff.mp (List.mem_of_getElem? hki)
    obtain ⟨h,hs⟩ : ∃ h,s.getD i none = some h:=Option.isSome_iff_exists.mp (List.mem_filter.mp him).2
    have hi : i < s.length:=(cE hs).1
    have hn : h < n:=R.1 h (cE hs).2
    have at' : atI (SV s) (i : Int) = some (.int (h : Int)):=by rw [dQ hi,hs]; rfl
    have hS5 : H5 S = some (.tup (SV s)):=se5 _ _ hS (by rintro rfl; obtain ⟨u,v,e,_⟩:=hp; rw [e] at hS; cases hS)
    have hO5 : cH H5 O as n g:=hO.sameE se5 hp offp
    have gh8:=G.le h hn
    generalize hps : prt s gl (zs.take k) = ps at *
    refine ⟨_,rfl,_,rfl,_,rfl,S,_,_,_,rfl,rfl,SqT.of hS5,at',O,_,rfl,hO5.get hn,as.getD h 0,rfl,⟨_,SqL.of (hO5.rows.2 h hn)⟩,fun D2 hD2=>?_⟩
    refine dZ (K:=K) (a:=as.getD h 0) (xs:=NV (g h)) (fun j ys σ H6=>(∃ u,σ = [u,some (.ref S),some (.int i),some (.ref Tk)])∧ys = NV (((g h).take j).filter fun o=>decide ((h,o) ∉ ps))∧Same H5 H6∧H6 D2 = some (.lst ys)) ⟨⟨_,rfl⟩,by rw [List.take_zero]; rfl,aG hD2,aB⟩ (fun j ys σ H6 _ z=>SqL.of (z.2.2.1 _ _ (hO5.rows.2 h hn))) ?_ ?_
    ·rintro j x ys σ H6 Kt Kf hx2 ⟨⟨u,rfl⟩,rfl,sm6,hD6⟩ kt kf
     rw [List.getElem?_map] at hx2
     obtain ⟨o,hjo,rfl⟩:=Option.map_eq_some_iff.mp hx2
     have tk2 : (g h).take (j + 1) = (g h).take j ++ [o]:=by rw [List.take_add_one,hjo]; rfl
     have hj : j < 9:=by have:=(List.getElem?_eq_some_iff.mp hjo).1; omega
     refine ⟨_,rfl,_,rfl,S,_,_,_,rfl,rfl,SqT.of (sm6 _ _ hS5),at',_,rfl,by show 2 ≤ sizeLine; decide,fun t ht=>⟨_,rfl,Tk,_,rfl,DGet.t (k:=pKey (h,o)) (aG ht _ _ (sm6 _ _ hT5)) aB,_,rfl,?_⟩⟩
     refine ite2 (fun e=>?_) (fun e=>?_)
     ·have e' : (h,o) ∉ ps:=by
       rw [mO] at e
       simpa using e
      refine ⟨_,rfl,kt _ _ _ (aG ht _ _ hD6) ?_ ⟨⟨_,rfl⟩,?_,fun b u e=>?_,aB⟩⟩
      ·rw [List.length_map]
       exact Nat.lt_of_le_of_lt (Nat.le_trans (List.length_filter_le _ _) (List.length_take_le _ _)) (Nat.lt_of_lt_of_le hj (by decide))
      ·rw [tk2,List.filter_append,List.filter_cons_of_pos (p:=fun o=>decide ((h,o) ∉ ps)) (decide_eq_true e'),List.filter_nil]
       unfold NV; rw [List.map_append]; rfl
      ·rw [aD (aF e hD2)]
       exact aG ht _ _ (sm6 _ _ e)
     ·have e' : (h,o)∈ps:=by
       rw [mO] at e
       simpa using e
      refine kf _ _ ⟨⟨_,rfl⟩,?_,sm6.trans (aG ht),aG ht _ _ hD6⟩
      rw [tk2,List.filter_append,List.filter_cons_of_neg (p:=fun o=>decide ((h,o) ∉ ps)) (by simpa using e'),List.filter_nil,List.append_nil]
    ·rintro ys σ H6 ⟨_,rfl,sm6,hD6⟩
     rw [show (NV (g h)).length = (g h).length from List.length_map _,List.take_length] at hD6
     have f0:=jU M npi R G hs
     rw [hps] at f0
     generalize hfr : ((g h).filter fun o=>decide ((h,o) ∉ ps)) = fr at *
     have fr9 : fr.length ≤ 8:=by rw [← hfr]; exact Nat.le_trans (List.length_filter_le _ _) gh8
     have po6 : aN H6 p:=po5.same sm6
     have nD2p : D2 ≠ p:=by rintro rfl; exact po5.some hD2
     refine ⟨_,rfl,_,rfl,_,rfl,D2,_,rfl,.inl (SqL.of hD6),p,_,rfl,by rw [List.length_map]; omega,by rw [List.length_map]; omega,po6,fun d a2 b2 d0 d1 k0 k1 k2=>?_⟩
     rw [List.length_map] at d1
     obtain ⟨dn,rfl⟩ : ∃ dn : Nat,(dn : Int) = d:=⟨d.toNat,by omega⟩
     have hdn : dn < fr.length:=by omega
     have se7 : aL p H5 (upd H6 p (.lst [.int a2,.int b2])):=(aL.of sm6).trans aL.upd
     have po7 : aN (upd H6 p (.lst [.int a2,.int b2])) p:=aN.upd k0 k1 k2
     have hD7 : (upd H6 p (.lst [.int a2,.int b2])) D2 = some (.lst (NV fr)):=by rw [aD nD2p]; exact hD6
     revert se7 po7 hD7
     generalize upd H6 p (.lst [.int a2,.int b2]) = H7
     intro se7 po7 hD7
     have hof : fr.getD dn 0∈fr:=jM hdn
     have ato : atI (NV fr) (dn : Int) = some (.int ((fr.getD dn 0 : Nat) : Int)):=oZ hdn
     revert ato hof
     generalize fr.getD dn 0 = o
     intro hof ato
     have hof' : o∈g h∧(h,o) ∉ ps:=by
      rw [← hfr] at hof
      have:=List.mem_filter.mp hof
      exact ⟨this.1,of_decide_eq_true this.2⟩
     have hi2 : i < gl.length:=by rw [M.len]; exact hi
     obtain ⟨M',ep⟩:=M.step hip hs hof'.1 (by rw [hps]; exact hof'.2)
     rw [hps] at ep
     have nSp : S ≠ p:=by rintro rfl; obtain ⟨u,v,e,_⟩:=hp; rw [e] at hS; cases hS
     have nSG : S ≠ Gn:=aF hS hGH
     have hG7 : H7 Gn = some (.lst (SV gl)):=se7 _ _ hG5 nGp
     have hT7:=se7 _ _ hT5 nTp
     have hS7:=se7 _ _ hS5 nSp
     have hr7:=se7 _ _ hr5 nrp
     refine ⟨D2,_,_,_,rfl,rfl,SqL.of hD7,ato,_,rfl,_,rfl,Gn,_,_,i,rfl,rfl,hG7,iT (by rw [List.length_map]; exact hi2),?_⟩
     have eset : (SV gl).set i (.int (o : Int)) = SV (gl.set i (some o)):=by unfold SV; rw [List.map_set]; rfl
     rw [eset]
     have at2 : atI (SV (gl.set i (some o))) (i : Int) = some (.int (o : Int)):=by rw [dQ (by rw [List.length_set]; exact hi2),eF hi2,if_pos rfl]; rfl
     refine ⟨_,rfl,_,rfl,_,rfl,S,_,_,_,rfl,rfl,SqT.of (by rw [aD nSG]; exact hS7),at',_,rfl,_,rfl,Gn,_,_,_,rfl,rfl,SqL.of aB,at2,by show 2 ≤ sizeLine; decide,fun t2 ht2=>?_⟩
     have keep : ∀ b u,H7 b = some u→b ≠ Gn→b ≠ Tk→(upd (upd (upd H7 Gn (.lst (SV (gl.set i (some o))))) t2 (.tup [.int (h : Int),.int (o : Int)])) Tk (.dT (putK (pKV ps) (pKey (h,o)) (.bl true)))) b = some u:=fun b u e n1 n2=>by
      have e8 : (upd H7 Gn (.lst (SV (gl.set i (some o))))) b = some u:=by rw [aD n1]; exact e
      rw [aD n2,aD (aF e8 ht2)]; exact e8
     refine ⟨Tk,_,rfl,DPut.t (k:=pKey (h,o)) (aG ht2 _ _ (by rw [aD nGT.symm]; exact hT7)) aB ?_,⟨_,_,rfl⟩,?_,?_,keep _ _ hr7 nrG nrT,gl.set i (some o),?_,?_,?_⟩
     ·unfold pKV
      rw [List.length_map,← hps]
      unfold prt
      rw [List.length_map,List.length_take]
      exact Nat.lt_of_lt_of_le (show min k zs.length < 17 by omega) (by decide)
     ·exact fun b u e hne=>keep _ _ (se7 _ _ (se5 _ _ e hne) hne) (aF e hGH) (aF e hTH)
     ·obtain ⟨u,v,e,r'⟩:=po7
      exact ⟨u,v,keep _ _ e nGp.symm nTp.symm,r'⟩
     ·rw [aD nGT]
      exact aG ht2 _ _ aB
     ·rw [aB,jE _ (aBc hof'.2),← aBd,tk,ep]
     ·rw [tk]; exact M'
   ·rintro σ H5 ⟨⟨v5,v6,rfl⟩,se5,po5,hr5,gl,hG5,hT5,M⟩
    rw [show (NV zs).length = zs.length from List.length_map _,List.take_length] at M
    exact ⟨_,rfl,Gn,_,rfl,.inl ⟨SqL.of hG5,fun t ht=>q t gl _ aB (M.done pz) (se5.trans (aL.of (aG ht))) (po5.same (aG ht))⟩⟩
end
end K61
namespace K61
open PySem L2
def jY (f : Nat→List (Option Nat)) (k : Nat) (x : List (Option Nat)) : Nat→List (Option Nat):=fun j=>if j = k then x else f j
theorem fT {f : Nat→List (Option Nat)} {k : Nat} {x : List (Option Nat)} : jY f k x k = x:=by unfold jY; rw [if_pos rfl]
theorem fU {f : Nat→List (Option Nat)} {k j : Nat} {x : List (Option Nat)} (h : j ≠ k) : jY f k x j = f j:=by unfold jY; rw [if_neg h]
structure LogR (n : Nat) (g : Nat→List Nat) (hs : List Int) (L : Nat) (ss ls : Nat→List (Option Nat)) (ns : List Int) : Prop where
 tie : ∀ b,b < L→fG g (ss b) (ls b)
 next : ∀ b,b < L→∀ i,(ss b).getD i none ≠ none→(ss (b + 1)).getD i none = bh1 hs i ((ls b).getD i none)
 fresh : ∀ z : Nat,(z : Int)∈ns→∀ b,b ≤ L→(ss b).getD z none = none
 out : ∀ b,b < L→∀ i,(ss b).getD i none ≠ none→(ss (b + 1)).getD i none = none→∀ c,b < c→c ≤ L→(ss c).getD i none = none
 lt : ∀ b,b ≤ L→∀ i h,(ss b).getD i none = some h→h < n
theorem wE {hs : List Int} {gs : List (Option Nat)} {i : Nat} : (bh hs gs).getD i none = bh1 hs i (gs.getD i none):=by
 unfold bh bhS
 by_cases h : i < gs.length
 ·rw [List.getD_eq_getElem?_getD,List.getElem?_map,List.getElem?_range h]; rfl
 ·rw [List.getD_eq_getElem?_getD,List.getElem?_map,List.getElem?_eq_none (by rw [List.length_range]; omega),List.getD_eq_getElem?_getD,List.getElem?_eq_none (by omega)]; rfl
theorem LogR.start {n : Nat} {g : Nat→List Nat} {hs ns : List Int} {s : List (Option Nat)} {ls : Nat→List (Option Nat)} (h1 : ∀ z : Nat,(z : Int)∈ns→s.getD z none = none) (h2 : ∀ i h,s.getD i none = some h→h < n) : LogR n g hs 0 (fun _=>s) ls ns :=
 ⟨fun b hb=>absurd hb (by omega),fun b hb=>absurd hb (by omega),fun z hz b _=>h1 z hz,fun b hb=>absurd hb (by omega),fun b _=>h2⟩
theorem LogR.push {n : Nat} {g : Nat→List Nat} {hs ns ns' : List Int} {L : Nat} {ss ls : Nat→List (Option Nat)} {gs s' : List (Option Nat)} (R : LogR n g hs L ss ls ns) (Hd : fG g (ss L) gs) (k : ∀ i : Nat,(i : Int) ∉ ns→s'.getD i none = (bh hs gs).getD i none) (m : ∀ z∈ns',z∈ns)
  (f : ∀ z : Nat,(z : Int)∈ns'→s'.getD z none = none) (l : ∀ i h,s'.getD i none = some h→h < n) : LogR n g hs (L + 1) (jY ss (L + 1) s') (jY ls L gs) ns':=by
 have eS : ∀ b,b ≤ L→jY ss (L + 1) s' b = ss b:=fun b hb=>fU (by omega)
 have notin : ∀ b,b ≤ L→∀ i,(ss b).getD i none ≠ none→(i : Int) ∉ ns:=fun b hb i h z=>h (R.fresh i z b hb)
 refine ⟨fun b hb=>?_,fun b hb i h=>?_,fun z hz b hb=>?_,fun b hb i h1 h2 c hc1 hc2=>?_,fun b hb i h e=>?_⟩
 ·rw [eS b (by omega)]
  by_cases e : b = L
  ·subst e; rw [fT]; exact Hd
  ·rw [fU e]; exact R.tie b (by omega)
 ·rw [eS b (by omega)] at h
  by_cases e : b = L
  ·subst e
   rw [fT,fT,k i (notin b (Nat.le_refl _) i h),wE]
  ·rw [fU e,eS (b + 1) (by omega)]; exact R.next b (by omega) i h
 ·by_cases e : b = L + 1
  ·rw [e,fT]; exact f z hz
  ·rw [fU e]; exact R.fresh z (m _ hz) b (by omega)
 ·rw [eS b (by omega)] at h1
  by_cases e : c = L + 1
  ·subst e
   by_cases e2 : b = L
   ·subst e2; exact h2
   ·rw [eS (b + 1) (by omega)] at h2
    have z:=R.out b (by omega) i h1 h2 L (by omega) (Nat.le_refl _)
    rw [fT,k i (notin b (by omega) i h1),wE,Hd.non i z]; rfl
  ·rw [fU e]
   rw [eS (b + 1) (by omega)] at h2
   exact R.out b (by omega) i h1 h2 c hc1 (by omega)
 ·by_cases e' : b = L + 1
  ·rw [e',fT] at e; exact l i h e
  ·rw [fU e'] at e; exact R.lt b (by omega) i h e
end K61
namespace K61
open PySem L2
abbrev sIn : Stmt:=top 42
theorem cA.put {n : Nat} {g : Nat→List Nat} {s : List (Option Nat)} {i x : Nat} (h : cA n g s) (hi : i < s.length) (hx : x < n) (hc : s.count (some x) < (g x).length) : cA n g (s.set i (some x)):=by
 refine ⟨fun y hy=>?_,fun y hy=>?_⟩
 ·rcases List.mem_or_eq_of_mem_set hy with z | z
  ·exact h.1 y z
  ·cases z; exact hx
 ·rw [List.count_set hi]
  have:=h.2 y hy
  by_cases e : x = y
  ·subst e
   split <;> split <;> omega
  ·have e2 : (some x == some y) = false:=by simpa using e
   rw [e2]
   split <;> simp <;> omega
def aBF (p q : Addr) (H H' : Hp) : Prop:=∀ b o,H b = some o→b ≠ p→b ≠ q→H' b = some o
def eX (ns : List Int) (s : List (Option Nat)) : Prop:=ns.Nodup∧∀ z∈ns,∃ i : Nat,z = (i : Int)∧i < s.length∧s.getD i none = none
theorem eX.none {ns : List Int} {s : List (Option Nat)} (h : eX ns s) {z : Nat} (hz : (z : Int)∈ns) : s.getD z none = none:=by
 obtain ⟨i,e,_,k⟩:=h.2 _ hz
 obtain rfl : z = i:=by omega
 exact k
section
variable {P : Program} {w : World} {K : PySem.W.Frag} {mg : Str→Option Value} {base : Heap}
theorem scIn : aY ["_law_pot_here", "_law_outs", "_law_homes", "_law_stand", "_law_fresh", "_law_found", "_law_i", "_law_house"] ["_law_pot_here", "_law_outs", "_law_homes", "_law_stand", "_law_fresh"] (aI sIn):=⟨rfl,rfl,rfl,by decide +kernel,rfl,by decide +kernel,by decide +kernel⟩
def spIn : Sp:=fun vs H Q _=>∃ (p O a S Fr : Addr) (as : List Addr) (n : Nat) (g : Nat→List Nat) (hs : List Int) (s : List (Option Nat)) (ns : List Int),vs = [.ref p,.ref O,.ref a,.ref S,.ref Fr]∧aN H p∧cH H O as n g∧Off as n p∧Off as n Fr∧Fr ≠ p∧2 ≤ n∧n ≤ 32∧H a = some (.tup (HV hs))∧H S = some (.tup (SV s))∧H Fr = some (.lst (HV ns))∧s.length = hs.length∧s.length ≤ 16∧cA n g s∧eX ns s ∧
 ∀ (r : Addr) (s' : List (Option Nat)) (ns' : List Int) (H' : Hp),H' r = some (.tup (SV s'))→s'.length = s.length→cA n g s'→eX ns' s'→(∀ i : Nat,(i : Int) ∉ ns→s'.getD i none = s.getD i none)→(∀ z∈ns',z∈ns)→H' Fr = some (.lst (HV ns'))→aBF p Fr H H'→aN H' p→Q (.ref r) H'
theorem aEa {f : Addr} {fd : FuncData} (F : Fun K "_law_let_in" "_law_let_in" sIn f fd) (B : Bl mg) (T : Cal P w K mg base CX0 1 "_law_take" ["_law_pot_here", "_law_many"] eW) : FnOk P w K mg base CX0 2 f fd ["_law_pot_here", "_law_outs", "_law_homes", "_law_stand", "_law_fresh"] spIn:=by
 refine F.ok scIn (fun vs H Q E h=>?_) (fun cdv A outer s0 H vs Q E hr h=>?_)
 ·obtain ⟨p,O,a,S,Fr,as,n,g,hs,s,ns,rfl,_⟩:=h
  rfl
 ·obtain ⟨p,O,a,S,Fr,as,n,g,hs,s,ns0,rfl,hp,hO,offp,offF,nFp,n2,n32,ha,hS,hF,sl,l16,R,FL,q⟩:=h
  have hu : (A.deeper (PyProof.Rows.envOfC "_law_let_in" (aI sIn) s0.heap.objs.size f cdv)).units + 1 < cLine:=by have:=hr.un; omega
  refine' ⟨_,aH (aV (i:=5) scIn.nd rfl (Or.inl rfl) (bT lH (by rfl) B.lst PyProof.Rows.boot_list (aA (pv 3) aE)))
   (aH (bW PassesOwn.never rfl (cF (bT lH (by rfl) B.lst PyProof.Rows.boot_list (aA (pv 4) aE))) (aM (i:=6) scIn.nd rfl (Or.inl rfl))
    (aH (aV (i:=7) scIn.nd rfl (Or.inl rfl) (aS T hr aU (aA (pv 0) (aA (aQ lV (by rfl) B.len PySem.boot_len (aA (pv 1) aE)) aE))))
    (aK (bN (PW.pt (iZ (aZ hU (pv 7) (aO bP (pv 2) (pv 6) (fun _ _=>rfl)) (aX _))
      (iZ (aZ iG (eA PySem.F.plainAttrs_list PySem.F.slot_list_count PySem.F.type_list_count sY (pv 5) (aA (pv 7) aE)) (aQ aT (by rfl) B.len PySem.boot_len (aA (dA hu (pv 1) (pv 7) (fun _ _=>rfl)) aE)) (aX _))
      (iQ (aZ cT (aS T hr aU (aA (pv 0) (aA aJ aE))) aJ (aX _))))))
     (aH (fH (pv 7) (jA (pv 5) (pv 6) fQ))
     (aK (bR (eA PySem.F.plainAttrs_list PySem.F.slot_list_remove PySem.F.type_list_remove zZ (pv 4) (aA (pv 6) aE)))))
     bE))))
   (aK (bB (bT eK (by rfl) B.tup PyProof.Rows.boot_tuple (aA (pv 5) aE))))),?_⟩
  refine ⟨_,rfl,S,_,rfl,.inr (SqT.of hS),fun Fo hFo=>?_⟩
  refine ⟨_,rfl,Fr,_,rfl,.inl (SqL.of (aG hFo _ _ hF)),fun L hL=>?_⟩
  have nFoL : Fo ≠ L:=aF aB hL
  have hLH : H L = none:=(aG hFo).free hL
  have nFoF : Fo ≠ Fr:=(aF hF hFo).symm
  have nLF : L ≠ Fr:=(aF hF hLH).symm
  have nFop : Fo ≠ p:=by rintro rfl; exact hp.some hFo
  have nLp : L ≠ p:=by rintro rfl; exact hp.some hLH
  have sm0 : Same H (upd (upd H Fo (.lst (SV s))) L (.lst (HV ns0))):=(aG hFo).trans (aG hL)
  have nap : a ≠ p:=by rintro rfl; obtain ⟨u,v,e,_⟩:=hp; rw [e] at ha; cases ha
  have naF : a ≠ Fr:=by rintro rfl; rw [hF] at ha; cases ha
  have ns16 : ns0.length ≤ 16:=by
   have : (ns0.map Int.toNat).length ≤ (List.range s.length).length:=by
    refine pF ?_ fun x hx=>?_
    ·refine List.pairwise_map.mpr (List.Pairwise.imp_of_mem ?_ FL.1)
     intro u v hu' hv hne e
     obtain ⟨i,rfl,_⟩:=FL.2 u hu'
     obtain ⟨j,rfl,_⟩:=FL.2 v hv
     omega
    ·obtain ⟨u,hu',rfl⟩:=List.mem_map.mp hx
     obtain ⟨i,rfl,hi,_⟩:=FL.2 u hu'
     rw [List.mem_range]; omega
   rw [List.length_map,List.length_range] at this
   omega
  let J : Nat→List Int→List (Option Nat)→Hp→Prop:=fun k ns st Hc=>aBF p Fr H Hc∧aN Hc p∧Hc L = some (.lst (HV ns0))∧Hc Fr = some (.lst (HV ns))∧Hc Fo = some (.lst (SV st))∧eX ns st∧(∀ j z,k ≤ j→ns0[j]? = some z→z∈ns)∧st.length = s.length∧cA n g st∧(∀ i : Nat,(i : Int) ∉ ns0→st.getD i none = s.getD i none)∧∀ z∈ns,z∈ns0
  have stepP : ∀ k ns st Hc u v,J k ns st Hc→0 ≤ u→0 ≤ v→v < 2147483647→J k ns st (upd Hc p (.lst [.int u,.int v])):=by
   rintro k ns st Hc u v ⟨o1,o2,o3,o4,o5,o6⟩ u0 v0 v1
   refine ⟨fun b o e h1 h2=>by rw [aD h1]; exact o1 b o e h1 h2,aN.upd u0 v0 v1,by rw [aD nLp]; exact o3,by rw [aD nFp]; exact o4,by rw [aD nFop]; exact o5,o6⟩
  have stepK : ∀ k ns st Hc,J k ns st Hc→J (k + 1) ns st Hc:=by
   rintro k ns st Hc ⟨o1,o2,o3,o4,o5,o6,o7,o8⟩
   exact ⟨o1,o2,o3,o4,o5,o6,fun j z hj=>o7 j z (by omega),o8⟩
  have outs : ∀ k ns st Hc,J k ns st Hc→cH Hc O as n g:=by
   rintro k ns st Hc ⟨o1,_⟩
   have nOp : O ≠ p:=by rintro rfl; obtain ⟨u,v,e,_⟩:=hp; obtain ⟨o,this⟩:=hO.dict; rw [e] at this; cases this
   have nOF : O ≠ Fr:=by rintro rfl; obtain ⟨o,this⟩:=hO.dict; rw [hF] at this; cases this
   exact ⟨let ⟨o,e⟩:=hO.dict; ⟨o,o1 _ _ e nOp nOF⟩,hO.rows.mono fun j hj e=>o1 _ _ e (offp j hj).symm (offF j hj).symm,hO.inj⟩
  refine ⟨L,rfl,⟨_,SqL.of aB⟩,fP (K:=K) (a:=L) (xs:=HV ns0) (fun k σ Hc=>(∃ v6 v7,σ = [some (.ref p),some (.ref O),some (.ref a),some (.ref S),some (.ref Fr),some (.ref Fo),v6,v7])∧∃ ns st,J k ns st Hc)
   ⟨⟨_,_,rfl⟩,ns0,s,fun b o e _ _=>sm0 _ _ e,hp.same sm0,aB,sm0 _ _ hF,by rw [aD nFoL]; exact aB,FL,fun j z _ e=>List.mem_of_getElem? e,rfl,R,fun _ _=>rfl,fun _ h=>h⟩ (fun k σ Hc _ z=>by obtain ⟨_,ns,st,j⟩:=z; exact SqL.of j.2.2.1) ?_ ?_⟩
  ·rintro k x σ Hc hx ⟨⟨v6,v7,rfl⟩,ns,st,J3⟩
   rw [List.getElem?_map] at hx
   obtain ⟨z,hz,rfl⟩:=Option.map_eq_some_iff.mp hx
   have zin : z∈ns:=J3.2.2.2.2.2.2.1 k z (Nat.le_refl _) hz
   obtain ⟨i,rfl,hi,hnone⟩:=J3.2.2.2.2.2.1.2 z zin
   have sl3 : st.length = s.length:=J3.2.2.2.2.2.2.2.1
   have hOc:=outs _ _ _ _ J3
   refine ⟨_,rfl,_,rfl,O,_,rfl,hOc.dict,p,_,rfl,by rw [cD]; omega,by rw [cD]; omega,J3.2.1,fun d a2 b2 d0 d1 k0 k1 k2=>?_⟩
   rw [cD] at d1
   obtain ⟨x,rfl⟩ : ∃ x : Nat,(x : Int) = d:=⟨d.toNat,by omega⟩
   have xn : x < n:=by omega
   have J4:=stepP _ _ _ _ _ _ J3 k0 k1 k2
   have ha4:=J4.1 _ _ ha nap naF
   have hO4:=outs _ _ _ _ J4
   revert J4 ha4 hO4
   generalize upd Hc p (.lst [.int a2,.int b2]) = H4
   intro J4 ha4 hO4
   refine ⟨_,rfl,_,rfl,_,rfl,a,_,_,_,rfl,rfl,SqT.of ha4,iO (show i < hs.length by omega),rfl,_,rfl,?_⟩
   refine ite2 (fun e1=>?_) (fun e1=>pD ⟨⟨_,_,rfl⟩,_,_,stepK _ _ _ _ J4⟩)
   refine ⟨_,rfl,.inl ⟨rfl,_,SqL.of J4.2.2.2.2.1⟩,_,rfl,Fo,_,_,rfl,rfl,J4.2.2.2.2.1,rfl,wD,_,rfl,_,rfl,O,_,rfl,hO4.get xn,as.getD x 0,NV (g x),rfl,.inl (SqL.of (hO4.rows.2 x xn)),_,_,rfl,rfl,_,rfl,?_⟩
   refine ite2 (fun e2=>?_) (fun e2=>pD ⟨⟨_,_,rfl⟩,_,_,stepK _ _ _ _ J4⟩)
   have cnt : st.count (some x) < (g x).length:=by
    have:=of_decide_eq_true e2
    rw [nP,List.length_map] at this
    omega
   refine ⟨_,rfl,p,3,rfl,by decide,by decide,J4.2.1,fun d2 a3 b3 d20 d21 m0 m1 m2=>⟨rfl,_,rfl,?_⟩⟩
   have J5:=stepP _ _ _ _ _ _ J4 m0 m1 m2
   revert J5
   generalize upd H4 p (.lst [.int a3,.int b3]) = H5
   intro J5
   refine ite2 (fun e3=>?_) (fun e3=>⟨⟨_,_,rfl⟩,_,_,stepK _ _ _ _ J5⟩)
   obtain ⟨o1,o2,o3,o4,o5,o6,o7,o8,o9,o10,o11⟩:=J5
   refine ⟨_,rfl,_,rfl,_,rfl,Fo,_,_,i,rfl,rfl,o5,iT (by rw [List.length_map]; omega),?_⟩
   have eset : (SV st).set i (.int (x : Int)) = SV (st.set i (some x)):=by unfold SV; rw [List.map_set]; rfl
   rw [eset]
   refine ⟨_,rfl,.inl ⟨rfl,_,SqL.of (by rw [aD nFoF.symm]; exact o4)⟩,_,rfl,Fr,ns,(i : Int),rfl,rfl,by rw [aD nFoF.symm]; exact o4,zin,?_⟩
   rw [← List.erase_eq_eraseIdx_of_idxOf (l:=ns) (a:=(i : Int)) rfl]
   have himl : i < st.length:=by omega
   refine ⟨⟨_,_,rfl⟩,ns.erase (i : Int),st.set i (some x),fun b o e h1 h2=>?_,?_,?_,aB,?_,⟨o6.1.erase _,fun z hz=>?_⟩,fun j z hj e=>?_,by rw [List.length_set]; exact o8,o9.put himl xn cnt,fun j hj=>?_,fun z hz=>o11 z (List.mem_of_mem_erase hz)⟩
   ·rw [aD h2,aD (aF e hFo)]; exact o1 b o e h1 h2
   ·obtain ⟨u,v,e,r⟩:=o2
    exact ⟨u,v,by rw [aD nFp.symm,aD nFop.symm]; exact e,r⟩
   ·rw [aD nLF,aD nFoL.symm]; exact o3
   ·rw [aD nFoF,aB]
   ·obtain ⟨z1,z2⟩:=(o6.1.mem_erase_iff).mp hz
    obtain ⟨j,rfl,hj,hjn⟩:=o6.2 z z2
    refine ⟨j,rfl,by rw [List.length_set]; exact hj,?_⟩
    rw [eF himl,if_neg (fun y=>z1 (by rw [y]))]; exact hjn
   ·refine (o6.1.mem_erase_iff).mpr ⟨fun y=>?_,o7 j z (by omega) e⟩
    rw [y] at e
    have hk1:=(List.getElem?_eq_some_iff.mp hz)
    have hj1:=(List.getElem?_eq_some_iff.mp e)
    obtain ⟨hk2,hk3⟩:=hk1
    obtain ⟨hj2,hj3⟩:=hj1
    exact (List.pairwise_iff_getElem.mp FL.1) k j hk2 hj2 (by omega) (by rw [hk3,hj3])
   ·rw [eF himl,if_neg (fun y=>hj (by rw [y]; exact o11 _ zin))]; exact o10 j hj
  ·rintro σ Hc ⟨⟨v6,v7,rfl⟩,ns,st,J3⟩
   obtain ⟨o1,o2,o3,o4,o5,o6,o7,o8,o9,o10,o11⟩:=J3
   exact ⟨_,rfl,Fo,_,rfl,.inl ⟨SqL.of o5,fun r hr=>q r st ns _ aB o8 o9 o6 o10 o11 (aG hr _ _ o4) (fun b o e h1 h2=>aG hr _ _ (o1 b o e h1 h2)) (o2.same (aG hr))⟩⟩
end
end K61
namespace K61
open PySem L2
abbrev sLog : Stmt:=top 43
def xV (s l : List (Option Nat)) : Prop:=l.length = s.length∧(∀ i,s.getD i none = none→l.getD i none = none)∧∀ i h,s.getD i none = some h→∃ o,l.getD i none = some o∧o ≠ h
def cI (H : Hp) (SA LA : Addr) (sas las : List Addr) (m L : Nat) (ss ls : Nat→List (Option Nat)) : Prop :=
 H SA = some (.lst (sas.map V.ref))∧H LA = some (.lst (las.map V.ref))∧Holds H sas (L + 1) (fun b=>.tup (SV (ss b)))∧Holds H las L (fun b=>.tup (SV (ls b)))∧(∀ b,b ≤ L→(ss b).length = m)∧∀ b,b < L→xV (ss b) (ls b)
def KTu (H H' : Hp) : Prop:=∀ b xs,H b = some (.tup xs)→H' b = some (.tup xs)
theorem KTu.trans {H H1 H2 : Hp} (a : KTu H H1) (b : KTu H1 H2) : KTu H H2:=fun c o h=>b c o (a c o h)
theorem KTu.of {H H' : Hp} (s : Same H H') : KTu H H':=fun b xs e=>s _ _ e
theorem KTu.ofE {H H' : Hp} {p : Addr} (s : aL p H H') (hp : aN H p) : KTu H H':=fun b xs e=>s _ _ e (by rintro rfl; obtain ⟨u,v,z,_⟩:=hp; rw [z] at e; cases e)
theorem KTu.upd {H : Hp} {c : Addr} {o : HO} {ys : List V} (h : H c = some (.lst ys)) : KTu H (upd H c o):=fun b xs e=>by rw [aD (by rintro rfl; rw [h] at e; cases e)]; exact e
abbrev setF:=jY
theorem dY {f : Nat→List (Option Nat)} {k : Nat} {x : List (Option Nat)} : setF f k x k = x:=fT
theorem iY {f : Nat→List (Option Nat)} {k j : Nat} {x : List (Option Nat)} (h : j ≠ k) : setF f k x j = f j:=fU h
theorem rL {H H' : Hp} {as : List Addr} {L : Nat} {f : Nat→List (Option Nat)} {r : Addr} {x : List (Option Nat)} (h : Holds H as L (fun b=>.tup (SV (f b)))) (kt : KTu H H') (hr : H' r = some (.tup (SV x))) : Holds H' (as ++ [r]) (L + 1) (fun b=>.tup (SV (setF f L x b))):=by
 refine Holds.snoc ⟨h.1,fun j hj=>?_⟩ (by rw [dY]; exact hr)
 show _ = some (HO.tup (SV (setF f L x j)))
 rw [iY (by omega)]
 exact kt _ _ (h.2 j hj)
theorem cI.push {H H' : Hp} {SA LA r r2 : Addr} {sas las : List Addr} {m L : Nat} {ss ls : Nat→List (Option Nat)} {gs s' : List (Option Nat)} (h : cI H SA LA sas las m L ss ls) (kt : KTu H H') (hS : H' SA = some (.lst ((sas ++ [r2]).map V.ref))) (hL : H' LA = some (.lst ((las ++ [r]).map V.ref)))
  (hr : H' r = some (.tup (SV gs))) (hr2 : H' r2 = some (.tup (SV s'))) (hm : s'.length = m) (mv : xV (ss L) gs) : cI H' SA LA (sas ++ [r2]) (las ++ [r]) m (L + 1) (setF ss (L + 1) s') (setF ls L gs):=by
 obtain ⟨h1,h2,h3,h4,h5,h6⟩:=h
 refine ⟨hS,hL,rL h3 kt hr2,rL h4 kt hr,fun b hb=>?_,fun b hb=>?_⟩
 ·by_cases e : b = L + 1
  ·rw [e,dY]; exact hm
  ·rw [iY e]; exact h5 b (by omega)
 ·rw [iY (show b ≠ L + 1 by omega)]
  by_cases e : b = L
  ·rw [e,dY]; exact mv
  ·rw [iY e]; exact h6 b (by omega)
def kJ (s : List (Option Nat)) : Prop:=∀ h,some h∈s→h < 32
def lW (L : Nat) (ss ls : Nat→List (Option Nat)) : Prop:=(∀ b,b ≤ L→kJ (ss b))∧∀ b,b < L→kJ (ls b)
theorem cA.small {n : Nat} {g : Nat→List Nat} {s : List (Option Nat)} (h : cA n g s) (n32 : n ≤ 32) : kJ s:=fun x hx=>Nat.lt_of_lt_of_le (h.1 x hx) n32
theorem lW.push {L : Nat} {ss ls : Nat→List (Option Nat)} {gs s' : List (Option Nat)} (h : lW L ss ls) (h1 : kJ s') (h2 : kJ gs) : lW (L + 1) (setF ss (L + 1) s') (setF ls L gs):=by
 refine ⟨fun b hb=>?_,fun b hb=>?_⟩
 ·by_cases e : b = L + 1
  ·rw [e,dY]; exact h1
  ·rw [iY e]; exact h.1 b (by omega)
 ·by_cases e : b = L
  ·rw [e,dY]; exact h2
  ·rw [iY e]; exact h.2 b (by omega)
theorem kX {sas : List Addr} {k : Nat} (h : sas.length = k + 1) : atI (sas.map V.ref) (-1) = some (.ref (sas.getD k 0)):=by
 rcases List.eq_nil_or_concat sas with e | ⟨l,x,e⟩
 ·subst e; cases h
 ·subst e
  rw [List.concat_eq_append] at h ⊢
  have hl : l.length = k:=by rw [List.length_append] at h; simpa using h
  rw [List.map_append,bL hl,if_pos rfl]
  exact gO _ _
theorem aBf {k : Nat} : ixN (k + 1) (-1) = some k:=by
 unfold ixN
 rw [if_neg (by decide),if_pos (by omega)]
 congr 1; omega
theorem fG.moves {n : Nat} {g : Nat→List Nat} {s gs : List (Option Nat)} (Hd : fG g s gs) (G : Good n g) (R : cA n g s) : xV s gs:=by
 refine ⟨Hd.len,Hd.non,fun i h e=>?_⟩
 obtain ⟨o,o1,o2⟩:=Hd.tie i h e
 exact ⟨o,o1,(G.lt h (R.1 h (cE e).2) o o2).2⟩
theorem eX.behind {g : Nat→List Nat} {ns hs : List Int} {s gs : List (Option Nat)} (h : eX ns s) (Hd : fG g s gs) : eX ns (bh hs gs):=by
 refine ⟨h.1,fun z hz=>?_⟩
 obtain ⟨i,e,hi,hn⟩:=h.2 z hz
 refine ⟨i,e,by rw [uD,Hd.len]; exact hi,?_⟩
 rcases aBE (hs:=hs) (gs:=gs) i with y | y
 ·exact y
 ·rw [y]; exact Hd.non i hn
def nun (s : List (Option Nat)) (k : Nat) : List Nat:=(List.range k).filter fun i=>(s.getD i none).isNone
theorem uF {s : List (Option Nat)} {k : Nat} : nun s (k + 1) = nun s k ++ (if (s.getD k none).isNone = true then [k] else []):=by
 unfold nun
 rw [List.range_succ,List.filter_append]
 congr 1
 by_cases e : (s.getD k none).isNone = true
 ·rw [if_pos e,List.filter_cons_of_pos (p:=fun i=>(s.getD i none).isNone) e,List.filter_nil]
 ·rw [if_neg e,List.filter_cons_of_neg (p:=fun i=>(s.getD i none).isNone) e,List.filter_nil]
theorem aCy {s : List (Option Nat)} {k : Nat} : (nun s k).length ≤ k:=by
 unfold nun
 refine Nat.le_trans (List.length_filter_le _ _) ?_
 rw [List.length_range]; exact Nat.le_refl _
theorem aAw {s : List (Option Nat)} : eX ((nun s s.length).map fun (i : Nat)=>(i : Int)) s:=by
 refine ⟨?_,fun z hz=>?_⟩
 ·refine List.pairwise_map.mpr (List.Pairwise.imp ?_ (List.Pairwise.filter _ List.nodup_range))
  intro a b hab e
  exact hab (by omega)
 ·obtain ⟨i,hi,rfl⟩:=List.mem_map.mp hz
  obtain ⟨h1,h2⟩:=List.mem_filter.mp hi
  exact ⟨i,rfl,List.mem_range.mp h1,Option.isNone_iff_eq_none.mp h2⟩
theorem aDv {js : List Nat} : HV (js.map fun (i : Nat)=>(i : Int)) = NV js:=by unfold HV NV; rw [List.map_map]; rfl
section
variable {P : Program} {w : World} {K : PySem.W.Frag} {mg : Str→Option Value} {base : Heap}
theorem mP : aY ["_law_pot_here", "_law_outs", "_law_homes", "_law_stand", "_law_most", "_law_fresh", "_law_beats", "_law_stands", "_law_log", "_law_beat"] ["_law_pot_here", "_law_outs", "_law_homes", "_law_stand", "_law_most"] (aI sLog):=⟨rfl,rfl,rfl,by decide +kernel,rfl,by decide +kernel,by decide +kernel⟩
def xW : Sp:=fun vs H Q _=>∃ (p O a S : Addr) (as : List Addr) (n : Nat) (g : Nat→List Nat) (hs : List Int) (s : List (Option Nat)),vs = [.ref p,.ref O,.ref a,.ref S,.int 30]∧aN H p∧cH H O as n g∧Off as n p∧Good n g∧2 ≤ n∧n ≤ 32∧H a = some (.tup (HV hs))∧H S = some (.tup (SV s))∧s.length = hs.length∧s.length ≤ 16∧cA n g s ∧
 ∀ (t SA LA : Addr) (sas las : List Addr) (L : Nat) (ss ls : Nat→List (Option Nat)) (H' : Hp),H' t = some (.tup [.ref SA,.ref LA])→cI H' SA LA sas las s.length L ss ls→lW L ss ls→(∃ ns,LogR n g hs L ss ls ns)→L ≤ 30→aL p H H'→aN H' p→H SA = none→H LA = none→Q (.ref t) H'
theorem aDw {f : Addr} {fd : FuncData} (F : Fun K "_law_any_log" "_law_any_log" sLog f fd) (B : Bl mg) (T : Cal P w K mg base CX0 1 "_law_take" ["_law_pot_here", "_law_many"] eW)
  (AH : Cal P w K mg base CX0 3 "_law_any_handing" ["_law_pot_here", "_law_outs", "_law_stand"] xU) (BE : Cal P w K mg base CX0 1 "_law_behind" ["_law_homes", "_law_stand", "_law_gone"] xS) (LI : Cal P w K mg base CX0 2 "_law_let_in" ["_law_pot_here", "_law_outs", "_law_homes", "_law_stand", "_law_fresh"] spIn) :
  FnOk P w K mg base CX0 4 f fd ["_law_pot_here", "_law_outs", "_law_homes", "_law_stand", "_law_most"] xW:=by
 refine F.ok mP (fun vs H Q E h=>?_) (fun cdv A outer s0 H vs Q E hr h=>?_)
 ·obtain ⟨p,O,a,S,as,n,g,hs,s,rfl,_⟩:=h
  rfl
 ·obtain ⟨p,O,a,S,as,n,g,hs,s,rfl,hp,hO,offp,G,n2,n32,ha,hS,sl,l16,R,q⟩:=h
  have hr1 : Room 1 (A.deeper (PyProof.Rows.envOfC "_law_any_log" (aI sLog) s0.heap.objs.size f cdv)):=hr.mono (by decide)
  have hr2 : Room 2 (A.deeper (PyProof.Rows.envOfC "_law_any_log" (aI sLog) s0.heap.objs.size f cdv)):=hr.mono (by decide)
  refine' ⟨_,aH (eB (i:=5) (g:=gTup K 2 (cS (bG 0) (cS (bG 1) gNil))) (tt:=tB (tIsN (tVar 1))) (te:=tVar 0) (NB:=["_law_i", "_law_house"]) (src:=[none,none]) (bZ (by kernel_rfl)) rfl (kS rfl B.enum (aA (pv 3) aE)) ?g ?t ?e mP.nd rfl rfl rfl)
   (aH (aV (i:=6) mP.nd rfl (Or.inl rfl) (aS T hr1 aU (aA (pv 0) (aA (bA bX (pv 4) aJ) aE))))
   (aH (aV (i:=7) mP.nd rfl (Or.inl rfl) (cG (aA (pv 3) aE)))
   (aH (aV (i:=8) mP.nd rfl (Or.inl rfl) (cG aE))
   (aH (bW PassesOwn.never rfl (cB rfl B.range (aA (pv 6) aE)) (aM (i:=9) mP.nd rfl (Or.inl rfl))
    (aH (bR (eA PySem.F.plainAttrs_list PySem.F.slot_list_append PySem.F.type_list_append dD (pv 8) (aA (aS AH hr aU (aA (pv 0) (aA (pv 1) (aA (aO aR (pv 7) (dH cX aJ) (fun _ _=>rfl)) aE)))) aE)))
    (aH (bR (eA PySem.F.plainAttrs_list PySem.F.slot_list_append PySem.F.type_list_append dD (pv 7) (aA (aS BE hr1 aU (aA (pv 2) (aA (aO aR (pv 7) (dH cX aJ) (fun _ _=>rfl)) (aA (aO aR (pv 8) (dH cX aJ) (fun _ _=>rfl)) aE)))) aE)))
    (aK (bN (PW.pt (iZ (aZ iG (bA bX (pv 9) aJ) (pv 6) (aX _)) (iQ (aZ cT (aS T hr1 aU (aA (pv 0) (aA aJ aE))) aJ (aX _)))))
     (aK (fH (aS LI hr2 aU (aA (pv 0) (aA (pv 1) (aA (pv 2) (aA (aO aR (pv 7) (dH cX aJ) (fun _ _=>rfl)) (aA (pv 5) aE)))))) (jA (pv 7) (dH cX aJ) fQ)))
     bE)))))
   (aK (bB (fK (aA (pv 7) (aA (pv 8) aE))))))))),?_⟩
  case g=>exact fun cl C s₃ H₃ fp=>dE (n:=2) rfl (bD (aM (i:=0) nbIH rfl (Or.inl rfl) (Or.inr rfl)) (bD (aM (i:=1) nbIH rfl (Or.inl rfl) (Or.inr rfl)) cM))
  case t=>exact fun cl C s₃ H₃ fp=>eN (iC (nR (pv 1)))
  case e=>exact fun cl C s₃ H₃ fp=>pv 0
  refine ⟨_,rfl,S,_,rfl,SqT.of hS,fun D hD=>?_⟩
  refine iJ (K:=K) (a:=S) (xs:=SV s) (fun i ys σ H3=>(∃ u v,σ = [u,v])∧ys = NV (nun s i)∧Same H H3∧H3 D = some (.lst ys)) ⟨⟨_,_,rfl⟩,rfl,aG hD,aB⟩ (fun i ys σ H3 _ z=>SqT.of (z.2.2.1 _ _ hS)) ?_ ?_
  ·rintro i x t ys σ H3 Kt Kf hx ⟨⟨u,v,rfl⟩,rfl,sm,hD3⟩ ht kt kf
   obtain ⟨hi,rfl⟩:=pE hx
   refine ⟨_,_,rfl,SqT.of aB,rfl,_,_,rfl,_,_,rfl,rfl,?_⟩
   refine ⟨_,rfl,_,rfl,?_⟩
   refine ite2 (fun e=>?_) (fun e=>?_)
   ·have e' : (s.getD i none).isNone = true:=by
     cases ho : s.getD i none with
     | none=>rfl
     | some h=>rw [ho] at e; exact absurd (of_decide_eq_true e) (by intro z; cases z)
    refine ⟨_,rfl,kt _ _ _ (aG ht _ _ hD3) ?_ ⟨⟨_,_,rfl⟩,?_,fun b u e=>?_,aB⟩⟩
    ·rw [List.length_map]; exact Nat.lt_of_le_of_lt aCy (Nat.lt_of_lt_of_le (show i < 17 by omega) (by decide))
    ·rw [uF,if_pos e']
     unfold NV; rw [List.map_append]; rfl
    ·rw [aD (aF e hD)]
     exact aG ht _ _ (sm _ _ e)
   ·have e' : ¬ (s.getD i none).isNone = true:=by
     cases ho : s.getD i none with
     | none=>rw [ho] at e; exact absurd (decide_eq_true rfl) e
     | some h=>intro z; cases z
    exact kf _ _ ⟨⟨_,_,rfl⟩,by rw [uF,if_neg e',List.append_nil],sm.trans (aG ht),aG ht _ _ hD3⟩
  ·rintro ys σ H3 ⟨_,rfl,sm3,hD3⟩
   rw [show (SV s).length = s.length from List.length_map _,← aDv] at hD3
   have FL0:=aAw (s:=s)
   revert FL0 hD3
   generalize ((nun s s.length).map fun (i : Nat)=>(i : Int)) = ns0
   intro hD3 FL0
   have po3 : aN H3 p:=hp.same sm3
   have nDp : D ≠ p:=by rintro rfl; exact hp.some hD
   refine ⟨_,rfl,_,rfl,_,_,rfl,rfl,p,_,rfl,by decide,by decide,po3,fun bt a2 b2 d0 d1 k0 k1 k2=>?_⟩
   have d1' : bt < 31:=d1
   have se4 : aL p H (upd H3 p (.lst [.int a2,.int b2])):=(aL.of sm3).trans aL.upd
   have po4 : aN (upd H3 p (.lst [.int a2,.int b2])) p:=aN.upd k0 k1 k2
   have hD4 : (upd H3 p (.lst [.int a2,.int b2])) D = some (.lst (HV ns0)):=by rw [aD nDp]; exact hD3
   revert se4 po4 hD4
   generalize upd H3 p (.lst [.int a2,.int b2]) = H4
   intro se4 po4 hD4
   refine ⟨_,rfl,by show 1 ≤ sizeLine; decide,fun SA hSA=>⟨by show 0 ≤ sizeLine; decide,fun LA hLA=>?_⟩⟩
   have nSL : SA ≠ LA:=aF aB hLA
   have hLA4 : H4 LA = none:=(aG hSA).free hLA
   have hSAH : H SA = none:=se4.free po4.some hSA
   have hLAH : H LA = none:=se4.free po4.some hLA4
   have nSp : SA ≠ p:=by rintro rfl; exact hp.some hSAH
   have nLp : LA ≠ p:=by rintro rfl; exact hp.some hLAH
   have nDS : D ≠ SA:=aF hD4 hSA
   have nDL : D ≠ LA:=aF hD4 hLA4
   have nap : a ≠ p:=by rintro rfl; obtain ⟨u,v,e,_⟩:=hp; rw [e] at ha; cases ha
   have sm5:=(aG (o:=.lst [.ref S]) hSA).trans (aG (o:=.lst []) hLA)
   have nSpp : S ≠ p:=by rintro rfl; obtain ⟨u,v,e,_⟩:=hp; rw [e] at hS; cases hS
   let J : Nat→Hp→Prop:=fun i Hc=>aL p H Hc∧aN Hc p∧∃ ns sas las ss ls,Hc D = some (.lst (HV ns))∧cI Hc SA LA sas las s.length i ss ls∧cA n g (ss i)∧eX ns (ss i)∧lW i ss ls∧LogR n g hs i ss ls ns
   have J0 : J 0 (upd (upd H4 SA (.lst [.ref S])) LA (.lst [])):=by
    refine ⟨se4.trans (aL.of sm5),po4.same sm5,ns0,[S],[],fun _=>s,fun _=>[],sm5 _ _ hD4,⟨by rw [aD nSL]; exact aB,aB,⟨rfl,fun j hj=>?_⟩,Holds.nil,fun b _=>rfl,fun b hb=>absurd hb (by omega)⟩,R,FL0,⟨fun b _=>R.small n32,fun b hb=>absurd hb (by omega)⟩,LogR.start (fun z hz=>FL0.none hz) fun i h e=>R.1 h (cE e).2⟩
    have : j = 0:=by omega
    subst this
    exact sm5 _ _ (se4 _ _ hS nSpp)
   refine ⟨_,rfl,bt,rfl,by omega,by omega,cW (n:=bt.toNat) (lo:=0) (fun i σ Hc=>(∃ v9,σ = [some (.ref p),some (.ref O),some (.ref a),some (.ref S),some (.int 30),some (.ref D),some (.int bt),some (.ref SA),some (.ref LA),v9])∧J i Hc) ⟨⟨_,rfl⟩,J0⟩ ?_ ?_⟩
   ·rintro i σ Hc hi ⟨⟨v9,rfl⟩,seC,poC,ns,sas,las,ss,ls,hDC,LG,RC,FC,SC,LR⟩
    obtain ⟨g1,g2,g3,g4,g5,g6⟩:=LG
    have LG : cI Hc SA LA sas las s.length i ss ls:=⟨g1,g2,g3,g4,g5,g6⟩
    have sli : (ss i).length = s.length:=g5 i (Nat.le_refl _)
    have hOC : cH Hc O as n g:=hO.sameE seC hp offp
    have haC:=seC _ _ ha nap
    refine ⟨_,rfl,.inl ⟨rfl,_,SqL.of g2⟩,_,rfl,_,rfl,_,rfl,_,rfl,SA,_,_,_,rfl,rfl,SqL.of g1,kX g3.1,p,O,sas.getD i 0,as,n,g,ss i,rfl,poC,hOC,offp,G,n32,g3.2 i (by omega),by omega,RC,fun r gs H1 h1 Hd se1 po1=>?_⟩
    have gl : gs.length = s.length:=by rw [Hd.len]; exact sli
    have hLA1 : H1 LA = some (.lst (las.map V.ref)):=se1 _ _ g2 nLp
    refine ⟨LA,_,_,rfl,rfl,hLA1,by rw [List.length_map,g4.1]; exact Nat.lt_of_lt_of_le (show i < 31 by omega) (by decide),?_⟩
    have seH1 : aL p H H1:=seC.trans se1
    have kt1 : KTu Hc H1:=KTu.ofE se1 poC
    have se2 : aL p H (upd H1 LA (.lst (las.map V.ref ++ [.ref r]))):=bY seH1 hLAH
    have kt2 : KTu Hc (upd H1 LA (.lst (las.map V.ref ++ [.ref r]))):=kt1.trans (KTu.upd hLA1)
    have po2 : aN (upd H1 LA (.lst (las.map V.ref ++ [.ref r]))) p:=by obtain ⟨u,v,e,z⟩:=po1; exact ⟨u,v,by rw [aD nLp.symm]; exact e,z⟩
    have hS2 : (upd H1 LA (.lst (las.map V.ref ++ [.ref r]))) SA = some (.lst (sas.map V.ref)):=by rw [aD nSL]; exact se1 _ _ g1 nSp
    have hL2 : (upd H1 LA (.lst (las.map V.ref ++ [.ref r]))) LA = some (.lst ((las ++ [r]).map V.ref)):=by rw [aB,List.map_append]; rfl
    have hr2' : (upd H1 LA (.lst (las.map V.ref ++ [.ref r]))) r = some (.tup (SV gs)):=KTu.upd hLA1 _ _ h1
    have hD2 : (upd H1 LA (.lst (las.map V.ref ++ [.ref r]))) D = some (.lst (HV ns)):=by rw [aD nDL]; exact se1 _ _ hDC nDp
    revert se2 kt2 po2 hS2 hL2 hr2' hD2
    generalize upd H1 LA (.lst (las.map V.ref ++ [.ref r])) = H2
    intro se2 kt2 po2 hS2 hL2 hr2' hD2
    have ll : (las ++ [r]).length = i + 1:=by rw [List.length_append,g4.1]; rfl
    have lastr : atI ((las ++ [r]).map V.ref) (-1) = some (.ref r):=by rw [kX ll,bL g4.1,if_pos rfl]
    refine ⟨_,rfl,.inl ⟨rfl,_,SqL.of hS2⟩,_,rfl,_,rfl,_,rfl,SA,_,_,_,rfl,rfl,SqL.of hS2,kX g3.1,_,rfl,_,rfl,LA,_,_,_,rfl,rfl,SqL.of hL2,lastr,a,r,_,hs,gs,rfl,kt2 _ _ haC,hr2',by omega,by omega,fun r2 H3 sm3 h3=>?_⟩
    have hS3:=sm3 _ _ hS2
    refine ⟨SA,_,_,rfl,rfl,hS3,by rw [List.length_map,g3.1]; exact Nat.lt_of_lt_of_le (show i + 1 < 32 by omega) (by decide),?_⟩
    have se4' : aL p H (upd H3 SA (.lst (sas.map V.ref ++ [.ref r2]))):=bY (se2.trans (aL.of sm3)) hSAH
    have kt4 : KTu Hc (upd H3 SA (.lst (sas.map V.ref ++ [.ref r2]))):=(kt2.trans (KTu.of sm3)).trans (KTu.upd hS3)
    have po4' : aN (upd H3 SA (.lst (sas.map V.ref ++ [.ref r2]))) p:=by obtain ⟨u,v,e,z⟩:=po2.same sm3; exact ⟨u,v,by rw [aD nSp.symm]; exact e,z⟩
    have hS4 : (upd H3 SA (.lst (sas.map V.ref ++ [.ref r2]))) SA = some (.lst ((sas ++ [r2]).map V.ref)):=by rw [aB,List.map_append]; rfl
    have hL4 : (upd H3 SA (.lst (sas.map V.ref ++ [.ref r2]))) LA = some (.lst ((las ++ [r]).map V.ref)):=by rw [aD nSL.symm]; exact sm3 _ _ hL2
    have hr4 : (upd H3 SA (.lst (sas.map V.ref ++ [.ref r2]))) r = some (.tup (SV gs)):=KTu.upd hS3 _ _ (sm3 _ _ hr2')
    have hr24 : (upd H3 SA (.lst (sas.map V.ref ++ [.ref r2]))) r2 = some (.tup (SV (bh hs gs))):=KTu.upd hS3 _ _ h3
    have hD4' : (upd H3 SA (.lst (sas.map V.ref ++ [.ref r2]))) D = some (.lst (HV ns)):=by rw [aD nDS]; exact sm3 _ _ hD2
    revert se4' kt4 po4' hS4 hL4 hr4 hr24 hD4'
    generalize upd H3 SA (.lst (sas.map V.ref ++ [.ref r2])) = H5
    intro se5 kt5 po5 hS5 hL5 hr5 hr25 hD5
    have mv:=Hd.moves G RC
    have R5 : cA n g (bh hs gs):=Hd.right G RC uD (fun i=>aBE i)
    have F5 : eX ns (bh hs gs):=FC.behind Hd
    have Sg : kJ gs:=(Hd.right G RC rfl (fun i=>.inr rfl)).small n32
    have bl : (bh hs gs).length = s.length:=by rw [uD]; exact gl
    have LR5:=LR.push Hd (s':=bh hs gs) (fun _ _=>rfl) (fun _ h=>h) (fun z hz=>F5.none hz) fun i h e=>R5.1 h (cE e).2
    have J5 : J (i + 1) H5:=⟨se5,po5,ns,_,_,_,_,hD5,LG.push kt5 hS5 hL5 hr5 hr25 bl mv,by rw [dY]; exact R5,by rw [dY]; exact F5,SC.push (R5.small n32) Sg,LR5⟩
    refine ⟨_,rfl,_,_,rfl,rfl,_,rfl,_,_,rfl,rfl,_,rfl,?_⟩
    refine ite2 (fun e1=>?_) (fun e1=>pD ⟨⟨_,rfl⟩,J5⟩)
    refine ⟨_,rfl,p,2,rfl,by decide,by decide,po5,fun d6 a6 b6 p6 q6 r6 s6 t6=>⟨rfl,_,rfl,?_⟩⟩
    have kt6 : KTu H5 (upd H5 p (.lst [.int a6,.int b6])):=KTu.ofE aL.upd po5
    have se6 : aL p H5 (upd H5 p (.lst [.int a6,.int b6])):=aL.upd
    have po6 : aN (upd H5 p (.lst [.int a6,.int b6])) p:=aN.upd r6 s6 t6
    revert kt6 se6 po6
    generalize upd H5 p (.lst [.int a6,.int b6]) = H6
    intro kt6 se6 po6
    have hS6:=se6 _ _ hS5 nSp
    have hL6:=se6 _ _ hL5 nLp
    have hD6:=se6 _ _ hD5 nDp
    refine ite2 (fun e2=>?_) (fun e2=>⟨⟨_,rfl⟩,se5.trans se6,po6,ns,_,_,_,_,hD6,LG.push (kt5.trans kt6) hS6 hL6 (kt6 _ _ hr5) (kt6 _ _ hr25) bl mv,by rw [dY]; exact R5,by rw [dY]; exact F5,SC.push (R5.small n32) Sg,LR5⟩)
    have ll2 : (sas ++ [r2]).length = i + 1 + 1:=by rw [List.length_append,g3.1]; rfl
    have lastr2 : atI ((sas ++ [r2]).map V.ref) (-1) = some (.ref r2):=by rw [kX ll2,bL g3.1,if_pos rfl]
    have hO6 : cH H6 O as n g:=hO.sameE (se5.trans se6) hp offp
    refine ⟨_,rfl,_,rfl,_,rfl,_,rfl,_,rfl,SA,_,_,_,rfl,rfl,SqL.of hS6,lastr2,_,rfl,p,O,a,r2,D,as,n,g,hs,bh hs gs,ns,rfl,po6,hO6,offp,hO.offN hD,nDp,n2,n32,kt6 _ _ (kt5 _ _ haC),kt6 _ _ hr25,hD6,by omega,by omega,R5,F5,fun r3 s' ns' H7 h7 l7 R7 F7 k7 m7 hD7 sf7 po7=>?_⟩
    have hS7:=sf7 _ _ hS6 nSp nDS.symm
    have hL7:=sf7 _ _ hL6 nLp nDL.symm
    have kt7 : KTu H6 H7:=fun b xs e=>sf7 _ _ e (by rintro rfl; obtain ⟨u,v,z,_⟩:=po6; rw [z] at e; cases e) (by rintro rfl; rw [hD6] at e; cases e)
    have se7 : aL p H H7:=fun b o e hne=>sf7 _ _ (se6 _ _ (se5 _ _ e hne) hne) hne (aF e hD)
    refine ⟨_,rfl,_,rfl,SA,_,_,i + 1,rfl,rfl,hS7,by rw [List.length_map,ll2]; exact aBf,?_⟩
    have eset : ((sas ++ [r2]).map V.ref).set (i + 1) (.ref r3) = (sas ++ [r3]).map V.ref:=by
     rw [List.map_append,List.map_append,List.set_append_right _ _ (by rw [List.length_map,g3.1]; exact Nat.le_refl _),List.length_map,g3.1,Nat.sub_self]
     rfl
    rw [eset]
    refine ⟨⟨_,rfl⟩,bY se7 hSAH,?_,ns',_,_,_,_,by rw [aD nDS]; exact hD7,LG.push (((kt5.trans kt6).trans kt7).trans (KTu.upd hS7)) aB (by rw [aD nSL.symm]; exact hL7) (KTu.upd hS7 _ _ (kt7 _ _ (kt6 _ _ hr5))) (KTu.upd hS7 _ _ h7) (by omega) mv,by rw [dY]; exact R7,by rw [dY]; exact F7,SC.push (R7.small n32) Sg,LR.push Hd k7 m7 (fun z hz=>F7.none hz) fun i h e=>R7.1 h (cE e).2⟩
    obtain ⟨u,v,e,z⟩:=po7
    exact ⟨u,v,by rw [aD nSp.symm]; exact e,z⟩
   ·rintro σ Hc ⟨⟨v9,rfl⟩,seC,poC,ns,sas,las,ss,ls,hDC,LG,RC,FC,SC,LR⟩
    refine ⟨_,rfl,_,rfl,by show 2 ≤ sizeLine; decide,fun t ht=>?_⟩
    obtain ⟨g1,g2,g3,g4,g5,g6⟩:=LG
    have sn:=aG (o:=.tup [.ref SA,.ref LA]) ht
    exact q t SA LA sas las bt.toNat ss ls _ aB ⟨sn _ _ g1,sn _ _ g2,g3.mono fun j _ e=>sn _ _ e,g4.mono fun j _ e=>sn _ _ e,g5,g6⟩ SC ⟨ns,LR⟩ (by omega) (seC.trans (aL.of sn)) (poC.same sn) hSAH hLAH
end
end K61
namespace K61
open PySem L2
abbrev kG : Stmt:=top 2
abbrev iU : Stmt:=top 3
abbrev qI : Stmt:=top 12
abbrev xX : Stmt:=top 15
theorem kC {K : PySem.W.Frag} : PySem.W.kitOne K (.type "int") (.type "int") = some true:=by kernel_rfl
theorem jH {K : PySem.W.Frag} : PySem.W.kitOne K (.type "int") (.type "bool") = some false:=by kernel_rfl
theorem rR {K : PySem.W.Frag} : PySem.W.kitOne K (.type "list") (.type "list") = some true:=by kernel_rfl
def inR (lo hi i : Int) : Bool:=decide (lo ≤ i) && decide (i ≤ hi)
theorem gY {lo hi i : Int} : inR lo hi i = true↔lo ≤ i∧i ≤ hi:=by unfold inR; rw [Bool.and_eq_true,decide_eq_true_iff,decide_eq_true_iff]
def gT : Sp:=fun vs H Q _=>∃ i : Int,vs = [.int i]∧Q (.bl true) H
def eV : Sp:=fun vs H Q _=>∃ i lo hi : Int,vs = [.int i,.int lo,.int hi]∧Q (.bl (inR lo hi i)) H
def cJ (m L : Nat) (ss : Nat→List (Option Nat)) (i b : Int) : Bool:=inR 0 ((L : Int) - 1) b && (inR 0 ((m : Int) - 1) i && ((ss b.toNat).getD i.toNat none).isSome)
def kY : Sp:=fun vs H Q _=>∃ (SA LA : Addr) (sas las : List Addr) (m L : Nat) (ss ls : Nat→List (Option Nat)) (i b : Int),vs = [.ref SA,.ref LA,.int i,.int b]∧cI H SA LA sas las m L ss ls∧Q (.bl (cJ m L ss i b)) H
def eG (m L : Nat) (ss : Nat→List (Option Nat)) (i b : Int) (h : Nat) : Bool:=cJ m L ss i b && decide ((ss b.toNat).getD i.toNat none = some h)
def uG : Sp:=fun vs H Q _=>∃ (SA LA : Addr) (sas las : List Addr) (m L : Nat) (ss ls : Nat→List (Option Nat)) (i b : Int) (h : Nat),vs = [.ref SA,.ref LA,.int i,.int b,.int h]∧cI H SA LA sas las m L ss ls∧Q (.bl (eG m L ss i b h)) H
theorem dC {as : List Addr} {k : Nat} (h : k < as.length) : atI (as.map V.ref) (k : Int) = some (.ref (as.getD k 0)):=by
 refine bQ ?_
 rw [List.getElem?_map,List.getElem?_eq_getElem h,List.getD_eq_getElem?_getD,List.getElem?_eq_getElem h]
 rfl
theorem iP {m L : Nat} {ss : Nat→List (Option Nat)} {i b : Int} (h : cJ m L ss i b = true) : ∃ (j c : Nat) (x : Nat),i = j∧b = c∧j < m∧c < L∧(ss c).getD j none = some x:=by
 unfold cJ at h
 rw [Bool.and_eq_true,Bool.and_eq_true,gY,gY] at h
 obtain ⟨h1,h2,h3⟩:=h
 obtain ⟨x,hx⟩:=Option.isSome_iff_exists.mp h3
 exact ⟨i.toNat,b.toNat,x,by omega,by omega,by omega,by omega,hx⟩
theorem jS {m L : Nat} {ss : Nat→List (Option Nat)} {j c x : Nat} (hj : j < m) (hc : c < L) (h : (ss c).getD j none = some x) : cJ m L ss j c = true:=by
 unfold cJ
 rw [Bool.and_eq_true,Bool.and_eq_true,gY,gY]
 refine ⟨⟨by omega,by omega⟩,⟨by omega,by omega⟩,?_⟩
 rw [Int.toNat_natCast,Int.toNat_natCast,h]; rfl
section
variable {P : Program} {w : World} {K : PySem.W.Frag} {mg : Str→Option Value} {base : Heap}
theorem pZ : aY ["thing"] ["thing"] (aI kG):=⟨rfl,rfl,rfl,by decide +kernel,rfl,by decide +kernel,by decide +kernel⟩
theorem nI {f : Addr} {fd : FuncData} (F : Fun K "is_whole" "is_whole" kG f fd) (B : Bl mg) : FnOk P w K mg base CX0 1 f fd ["thing"] gT:=by
 refine F.ok pZ (fun vs H Q E h=>?_) (fun cdv A outer s H vs Q E hr h=>?_)
 ·obtain ⟨i,rfl,_⟩:=h
  rfl
 ·obtain ⟨i,rfl,k⟩:=h
  refine ⟨_,aK (bB (eI (aQ eU (by rfl) B.isi PyProof.Rows.boot_isinstance (aA (pv 0) (aA (fV (v:=.ty "int") rfl B.int PyProof.Rows.boot_int rfl) aE)))
   (eT (yE (aQ eU (by rfl) B.isi PyProof.Rows.boot_isinstance (aA (pv 0) (aA (fV (v:=.ty "bool") rfl B.bool PyProof.Rows.boot_bool rfl) aE))))))),?_⟩
  refine ⟨_,rfl,_,_,_,.type "int",true,rfl,⟨rfl,kC⟩,.of (.int _),true,rfl,?_⟩
  exact ⟨_,rfl,_,_,_,.type "int",false,rfl,⟨rfl,jH⟩,.of (.int _),false,rfl,k⟩
theorem nJ : aY ["thing", "least", "most"] ["thing", "least", "most"] (aI iU):=⟨rfl,rfl,rfl,by decide +kernel,rfl,by decide +kernel,by decide +kernel⟩
theorem lR {f : Addr} {fd : FuncData} (F : Fun K "is_whole_within" "is_whole_within" iU f fd) (W : Cal P w K mg base CX0 1 "is_whole" ["thing"] gT) : FnOk P w K mg base CX0 2 f fd ["thing", "least", "most"] eV:=by
 refine F.ok nJ (fun vs H Q E h=>?_) (fun cdv A outer s H vs Q E hr h=>?_)
 ·obtain ⟨i,lo,hi,rfl,_⟩:=h
  rfl
 ·obtain ⟨i,lo,hi,rfl,k⟩:=h
  refine ⟨_,aK (bB (eI (aS W hr aU (aA (pv 0) aE)) (eT (sJ nS nS (pv 1) (pv 0) (pv 2))))),?_⟩
  refine ⟨_,rfl,i,rfl,true,rfl,_,rfl,_,rfl,_,_,rfl,rfl,_,rfl,?_⟩
  show if decide (lo ≤ i) = true then _ else _
  have k' : Q (.bl (decide (lo ≤ i) && decide (i ≤ hi))) H:=k
  by_cases h : lo ≤ i
  ·rw [decide_eq_true h] at k' ⊢
   exact ⟨_,rfl,_,_,rfl,rfl,k'⟩
  ·rw [decide_eq_false h] at k' ⊢
   exact k'
theorem aBg : aY ["stands", "log", "letter", "beat"] ["stands", "log", "letter", "beat"] (aI qI):=⟨rfl,rfl,rfl,by decide +kernel,rfl,by decide +kernel,by decide +kernel⟩
theorem aAx {f : Addr} {fd : FuncData} (F : Fun K "is_handed_on" "is_handed_on" qI f fd) (B : Bl mg) (W : Cal P w K mg base CX0 2 "is_whole_within" ["thing", "least", "most"] eV) : FnOk P w K mg base CX0 3 f fd ["stands", "log", "letter", "beat"] kY:=by
 refine F.ok aBg (fun vs H Q E h=>?_) (fun cdv A outer s H vs Q E hr h=>?_)
 ·obtain ⟨SA,LA,sas,las,m,L,ss,ls,i,b,rfl,_⟩:=h
  rfl
 ·obtain ⟨SA,LA,sas,las,m,L,ss,ls,i,b,rfl,LG,k⟩:=h
  obtain ⟨g1,g2,g3,g4,g5,g6⟩:=LG
  refine' ⟨_,aH (bN (dS (cV (aS W hr aU (aA (pv 3) (aA aJ (aA (bA jB (aQ aT (by rfl) B.len PySem.boot_len (aA (pv 1) aE)) aJ) aE)))))) (aK (bB hJ)) bE)
   (aK (bB (eI (aS W hr aU (aA (pv 2) (aA aJ (aA (bA jB (aQ aT (by rfl) B.len PySem.boot_len (aA (aO aR (pv 0) (pv 3) (fun _ _=>rfl)) aE)) aJ) aE))))
    (eT (aCQ (vG (aO bP (aO aR (pv 0) (pv 3) (fun _ _=>rfl)) (pv 2) (fun _ _=>rfl)))))))),?_⟩
  refine ⟨_,rfl,_,rfl,LA,_,rfl,.inl (SqL.of g2),_,_,rfl,rfl,b,0,_,rfl,_,rfl,?_⟩
  have ell : ((((las.map V.ref).length : Nat) : Int) - 1) = (L : Int) - 1:=by rw [List.length_map,g4.1]
  unfold cJ at k
  refine ite2 (fun e=>?_) (fun e=>?_)
  ·have e' : inR 0 ((L : Int) - 1) b = false:=by
    rw [← ell]; simpa using e
   rw [e',Bool.false_and] at k
   exact k
  ·have e' : inR 0 ((L : Int) - 1) b = true:=by
    rw [← ell]; simpa using e
   rw [e',Bool.true_and] at k
   obtain ⟨b0,b1⟩:=gY.mp e'
   obtain ⟨c,rfl⟩ : ∃ c : Nat,b = c:=⟨b.toNat,by omega⟩
   have hc : c < L:=by omega
   have sl : (ss c).length = m:=g5 c (by omega)
   have hS:=g3.2 c (by omega)
   have eml : ((((SV (ss c)).length : Nat) : Int) - 1) = (m : Int) - 1:=by rw [List.length_map,sl]
   rw [Int.toNat_natCast] at k
   refine ⟨_,rfl,_,rfl,_,rfl,SA,_,_,_,rfl,rfl,SqL.of g1,dC (by rw [g3.1]; omega),sas.getD c 0,_,rfl,.inr (SqT.of hS),_,_,rfl,rfl,i,0,_,rfl,_,rfl,?_⟩
   refine ite2 (fun e2=>?_) (fun e2=>?_)
   ·have e3 : inR 0 ((m : Int) - 1) i = true:=by rw [← eml]; exact e2
    rw [e3,Bool.true_and] at k
    obtain ⟨i0,i1⟩:=gY.mp e3
    obtain ⟨j,rfl⟩ : ∃ j : Nat,i = j:=⟨i.toNat,by omega⟩
    rw [Int.toNat_natCast] at k
    refine ⟨_,rfl,_,rfl,SA,_,_,_,rfl,rfl,SqL.of g1,dC (by rw [g3.1]; omega),_,rfl,sas.getD c 0,_,_,_,rfl,rfl,SqT.of hS,dQ (by omega),?_⟩
    have ee : (!decide (stV ((ss c).getD j none) = V.non)) = ((ss c).getD j none).isSome:=by
     cases (ss c).getD j none with
     | none=>rw [decide_eq_true (show stV none = V.non from rfl)]; rfl
     | some x=>rw [decide_eq_false (show ¬ stV (some x) = V.non from fun z=>by cases z)]; rfl
    show Q (V.bl (!decide (stV ((ss c).getD j none) = V.non))) H
    rw [ee]
    exact k
   ·have e3 : inR 0 ((m : Int) - 1) i = false:=by rw [← eml]; simpa using e2
    rw [e3,Bool.false_and] at k
    exact k
theorem aDx : aY ["stands", "log", "letter", "beat", "house"] ["stands", "log", "letter", "beat", "house"] (aI xX):=⟨rfl,rfl,rfl,by decide +kernel,rfl,by decide +kernel,by decide +kernel⟩
theorem aCz {f : Addr} {fd : FuncData} (F : Fun K "is_sent_from" "is_sent_from" xX f fd) (HO : Cal P w K mg base CX0 3 "is_handed_on" ["stands", "log", "letter", "beat"] kY) : FnOk P w K mg base CX0 4 f fd ["stands", "log", "letter", "beat", "house"] uG:=by
 refine F.ok aDx (fun vs H Q E h=>?_) (fun cdv A outer s H vs Q E hr h=>?_)
 ·obtain ⟨SA,LA,sas,las,m,L,ss,ls,i,b,hh,rfl,_⟩:=h
  rfl
 ·obtain ⟨SA,LA,sas,las,m,L,ss,ls,i,b,hh,rfl,LG,k⟩:=h
  obtain ⟨g1,g2,g3,g4,g5,g6⟩:=LG
  refine' ⟨_,aH (bN (dS (cV (aS HO hr aU (aA (pv 0) (aA (pv 1) (aA (pv 2) (aA (pv 3) aE))))))) (aK (bB hJ)) bE)
   (aK (bB (eI (cN cT (aO bP (aO aR (pv 0) (pv 3) (fun _ _=>rfl)) (pv 2) (fun _ _=>rfl)) (pv 4) (aX _))
    (eT (cN hU (aO bP (aO aR (pv 1) (pv 3) (fun _ _=>rfl)) (pv 2) (fun _ _=>rfl)) (pv 4) (aX _)))))),?_⟩
  refine ⟨_,rfl,_,rfl,_,rfl,_,rfl,SA,LA,sas,las,m,L,ss,ls,i,b,rfl,⟨g1,g2,g3,g4,g5,g6⟩,_,rfl,?_⟩
  unfold eG at k
  refine ite2 (fun e=>?_) (fun e=>?_)
  ·have e' : cJ m L ss i b = false:=by simpa using e
   rw [e',Bool.false_and] at k
   exact k
  ·have e' : cJ m L ss i b = true:=by simpa using e
   rw [e',Bool.true_and] at k
   obtain ⟨j,c,x,rfl,rfl,hj,hc,hx⟩:=iP e'
   rw [Int.toNat_natCast,Int.toNat_natCast,hx] at k
   have sl : (ss c).length = m:=g5 c (by omega)
   have at1 : atI (SV (ss c)) (j : Int) = some (.int (x : Int)):=by rw [dQ (by omega),hx]; rfl
   obtain ⟨mv1,mv2,mv3⟩:=g6 c hc
   obtain ⟨o,ho,hne⟩:=mv3 j x hx
   have at2 : atI (SV (ls c)) (j : Int) = some (.int (o : Int)):=by rw [dQ (by omega),ho]; rfl
   refine ⟨_,rfl,_,rfl,SA,_,_,_,rfl,rfl,SqL.of g1,dC (by rw [g3.1]; omega),_,rfl,sas.getD c 0,_,_,_,rfl,rfl,SqT.of (g3.2 c (by omega)),at1,_,rfl,rfl,_,rfl,?_⟩
   refine ite2 (fun e2=>?_) (fun e2=>?_)
   ·have e3 : x = hh:=by have:=V.int.inj (of_decide_eq_true e2); omega
    refine ⟨_,rfl,_,rfl,LA,_,_,_,rfl,rfl,SqL.of g2,dC (by rw [g4.1]; omega),_,rfl,las.getD c 0,_,_,_,rfl,rfl,SqT.of (g4.2 c hc),at2,_,rfl,rfl,?_⟩
    rw [decide_eq_true (show some x = some hh by rw [e3])] at k
    rw [decide_eq_false (show ¬ V.int (o : Int) = V.int (hh : Int) from fun z=>hne (by have:=V.int.inj z; omega))]
    exact k
   ·have e3 : ¬ some x = some hh:=fun z=>e2 (decide_eq_true (by cases z; rfl))
    rw [decide_eq_false e3] at k
    exact k
end
end K61
namespace K61
open PySem L2
abbrev pH : Stmt:=top 14
abbrev mQ : Stmt:=top 44
def cU (m L : Nat) (ss ls : Nat→List (Option Nat)) (b h0 : Nat) (zs : List Int) : Nat→Option Nat
 | 0=>some h0
 | k + 1=>match cU m L ss ls b h0 zs k with
  | none=>none
  | some h=>if eG m L ss (zs.getD k 0) ((b + k : Nat) : Int) h = true then some (((ls (b + k)).getD (zs.getD k 0).toNat none).getD 0) else none
theorem lX {m L : Nat} {ss ls : Nat→List (Option Nat)} {b h0 : Nat} {zs : List Int} {k h : Nat} (e : cU m L ss ls b h0 zs k = some h) (s : eG m L ss (zs.getD k 0) ((b + k : Nat) : Int) h = true) : cU m L ss ls b h0 zs (k + 1) = some (((ls (b + k)).getD (zs.getD k 0).toNat none).getD 0):=by
 unfold cU
 rw [e]
 exact if_pos s
theorem jZ {m L : Nat} {ss ls : Nat→List (Option Nat)} {b h0 : Nat} {zs : List Int} {k h : Nat} (e : cU m L ss ls b h0 zs k = some h) (s : ¬ eG m L ss (zs.getD k 0) ((b + k : Nat) : Int) h = true) : ∀ j,cU m L ss ls b h0 zs (k + 1 + j) = none
 | 0=>by
  show cU m L ss ls b h0 zs (k + 1) = none
  unfold cU
  rw [e]
  exact if_neg s
 | j + 1=>by
  have ih:=jZ e s j
  show cU m L ss ls b h0 zs (k + 1 + j + 1) = none
  unfold cU
  rw [ih]
theorem rM {m L : Nat} {ss ls : Nat→List (Option Nat)} {b h0 : Nat} {zs : List Int} {k h : Nat} (e : cU m L ss ls b h0 zs (k + 1) = some h) : ∃ h',eG m L ss (zs.getD k 0) ((b + k : Nat) : Int) h' = true:=by
 unfold cU at e
 split at e
 ·cases e
 ·rename_i h' _
  by_cases s : eG m L ss (zs.getD k 0) ((b + k : Nat) : Int) h' = true
  ·exact ⟨h',s⟩
  ·rw [if_neg s] at e; cases e
def endB (hs : List Int) (zs : List Int) : Option Nat→Bool
 | none=>false
 | some h=>decide ((h : Int) = hs.getD (zs.getD (zs.length - 1) 0).toNat 0)
def jN (hs : List Int) (m L : Nat) (ss ls : Nat→List (Option Nat)) (i b : Int) (zs : List Int) : Bool :=
 cJ m L ss i b && (!zs.isEmpty && (!decide (zs.getD 0 0 = i) && endB hs zs (cU m L ss ls b.toNat (((ss b.toNat).getD i.toNat none).getD 0) zs zs.length)))
theorem cI.same {H H' : Hp} {SA LA : Addr} {sas las : List Addr} {m L : Nat} {ss ls : Nat→List (Option Nat)} (h : cI H SA LA sas las m L ss ls) (s : Same H H') : cI H' SA LA sas las m L ss ls:=by
 obtain ⟨g1,g2,g3,g4,g5,g6⟩:=h
 exact ⟨s _ _ g1,s _ _ g2,g3.mono fun j _ e=>s _ _ e,g4.mono fun j _ e=>s _ _ e,g5,g6⟩
theorem jO {m L : Nat} {ss : Nat→List (Option Nat)} {i b : Int} {h : Nat} (s : eG m L ss i b h = true) : ∃ (j c : Nat),i = j∧b = c∧j < m∧c < L∧(ss c).getD j none = some h:=by
 unfold eG at s
 rw [Bool.and_eq_true,decide_eq_true_iff] at s
 obtain ⟨j,c,x,rfl,rfl,h1,h2,h3⟩:=iP s.1
 have:=s.2
 rw [Int.toNat_natCast,Int.toNat_natCast] at this
 exact ⟨j,c,rfl,rfl,h1,h2,this⟩
theorem aCA {m L : Nat} {ss : Nat→List (Option Nat)} {j c h : Nat} (hj : j < m) (hc : c < L) (e : (ss c).getD j none = some h) : eG m L ss j c h = true:=by
 unfold eG
 rw [jS hj hc e,Bool.true_and,Int.toNat_natCast,Int.toNat_natCast]
 exact decide_eq_true e
theorem gZ {zs : List Int} (h : zs ≠ []) : atI (HV zs) (-1) = some (.int (zs.getD (zs.length - 1) 0)):=by
 rcases List.eq_nil_or_concat zs with e | ⟨l,x,e⟩
 ·exact absurd e h
 ·subst e
  rw [List.concat_eq_append]
  have : (l ++ [x]).getD ((l ++ [x]).length - 1) 0 = x:=by
   rw [List.getD_eq_getElem?_getD,List.length_append]
   simp
  rw [this]
  unfold HV
  rw [List.map_append]
  exact gO _ _
theorem rN {zs : List Int} : iI eqV (HV zs) [] = zs.isEmpty:=by cases zs <;> rfl
section
variable {P : Program} {w : World} {K : PySem.W.Frag} {mg : Str→Option Value} {base : Heap}
theorem kK : aY ["homes", "stands", "log", "letter", "beat", "thing", "house", "later", "one"] ["homes", "stands", "log", "letter", "beat", "thing"] (aI pH):=⟨rfl,rfl,rfl,by decide +kernel,rfl,by decide +kernel,by decide +kernel⟩
def qJ : Sp:=fun vs H Q _=>∃ (a SA LA Z : Addr) (sas las : List Addr) (m L : Nat) (ss ls : Nat→List (Option Nat)) (hs zs : List Int) (i b : Int),vs = [.ref a,.ref SA,.ref LA,.int i,.int b,.ref Z]∧H a = some (.tup (HV hs))∧hs.length = m∧cI H SA LA sas las m L ss ls∧H Z = some (.lst (HV zs)) ∧
 ∀ H',Same H H'→Q (.bl (jN hs m L ss ls i b zs)) H'
theorem aBh {f : Addr} {fd : FuncData} (F : Fun K "is_chain" "is_chain" pH f fd) (B : Bl mg) (HO : Cal P w K mg base CX0 3 "is_handed_on" ["stands", "log", "letter", "beat"] kY) (ST : Cal P w K mg base CX0 4 "is_sent_from" ["stands", "log", "letter", "beat", "house"] uG) :
  FnOk P w K mg base CX0 5 f fd ["homes", "stands", "log", "letter", "beat", "thing"] qJ:=by
 refine F.ok kK (fun vs H Q E h=>?_) (fun cdv A outer s H vs Q E hr h=>?_)
 ·obtain ⟨a,SA,LA,Z,sas,las,m,L,ss,ls,hs,zs,i,b,rfl,_⟩:=h
  rfl
 ·obtain ⟨a,SA,LA,Z,sas,las,m,L,ss,ls,hs,zs,i,b,rfl,ha,hl,LG,hZ,q⟩:=h
  have hr3 : Room 3 (A.deeper (PyProof.Rows.envOfC "is_chain" (aI pH) s.heap.objs.size f cdv)):=hr.mono (by decide)
  refine' ⟨_,aH (bN (PW.pt (eY (dS (cV (aS HO hr3 aU (aA (pv 1) (aA (pv 2) (aA (pv 3) (aA (pv 4) aE)))))))
     (eY (dS (cV (aQ eU (by rfl) B.isi PyProof.Rows.boot_isinstance (aA (pv 5) (aA (fV (v:=.ty "list") rfl B.lst PyProof.Rows.boot_list rfl) aE)))))
     (gA (aZ cT (aQ aT (by rfl) B.len PySem.boot_len (aA (pv 5) aE)) aJ (aX _)))))) (aK (bB hJ)) bE)
   (aH (aV (i:=6) kK.nd rfl (Or.inl rfl) (aO bP (aO aR (pv 1) (pv 4) (fun _ _=>rfl)) (pv 3) (fun _ _=>rfl)))
   (aH (bW PassesOwn.never rfl (vV rfl B.enum (aA (pv 5) aE)) (dE (n:=2) rfl (bD (aM (i:=7) kK.nd rfl (Or.inl rfl)) (bD (aM (i:=8) kK.nd rfl (Or.inl rfl)) cM)))
    (aH (bN (dS (cV (aS ST hr aU (aA (pv 1) (aA (pv 2) (aA (pv 8) (aA (bA bX (pv 4) (pv 7)) (aA (pv 6) aE)))))))) (aK (bB hJ)) bE)
    (aK (aV (i:=6) kK.nd rfl (Or.inl rfl) (aO bP (aO aR (pv 2) (bA bX (pv 4) (pv 7)) (fun _ _=>rfl)) (pv 8) (fun _ _=>rfl))))))
   (aK (bB (eI (cN hU (aO aR (pv 5) aJ (fun _ _=>rfl)) (pv 3) (aX _))
    (eT (cN cT (pv 6) (aO bP (pv 0) (aO aR (pv 5) (dH cX aJ) (fun _ _=>rfl)) (fun _ _=>rfl)) (aX _)))))))),?_⟩
  refine ⟨_,rfl,_,rfl,_,rfl,_,rfl,SA,LA,sas,las,m,L,ss,ls,i,b,rfl,LG,_,rfl,?_⟩
  unfold jN at q
  refine ite2 (fun e=>?_) (fun e=>?_)
  ·have e' : cJ m L ss i b = false:=by simpa using e
   rw [e',Bool.false_and] at q
   exact fO (q H (Same.refl _))
  have e' : cJ m L ss i b = true:=by simpa using e
  rw [e',Bool.true_and] at q
  obtain ⟨j,c,x,rfl,rfl,hj,hc,hx⟩:=iP e'
  rw [Int.toNat_natCast,Int.toNat_natCast,hx] at q
  refine ⟨_,rfl,_,_,_,.type "list",true,rfl,⟨rfl,rR⟩,.of (.lst hZ),true,rfl,?_⟩
  refine ite2 (fun e=>absurd e (by decide)) (fun _=>?_)
  refine ⟨_,rfl,Z,_,rfl,.inl (SqL.of hZ),rfl,_,rfl,?_⟩
  refine ite2 (fun e=>?_) (fun e=>?_)
  ·have e2 : zs = []:=by
    have:=V.int.inj (of_decide_eq_true e)
    rw [List.length_map] at this
    exact List.eq_nil_of_length_eq_zero (by omega)
   rw [e2] at q
   exact q H (Same.refl _)
  have zne : zs ≠ []:=by
   rintro rfl
   exact e (decide_eq_true rfl)
  have zem : zs.isEmpty = false:=by cases zs with | nil=>exact absurd rfl zne | cons _ _=>rfl
  rw [zem,Bool.not_false,Bool.true_and] at q
  obtain ⟨g1,g2,g3,g4,g5,g6⟩:=LG
  have LG : cI H SA LA sas las m L ss ls:=⟨g1,g2,g3,g4,g5,g6⟩
  have sl : (ss c).length = m:=g5 c (by omega)
  have at1 : atI (SV (ss c)) (j : Int) = some (.int (x : Int)):=by rw [dQ (by omega),hx]; rfl
  refine ⟨_,rfl,_,rfl,SA,_,_,_,rfl,rfl,SqL.of g1,dC (by rw [g3.1]; omega),_,rfl,sas.getD c 0,_,_,_,rfl,rfl,SqT.of (g3.2 c (by omega)),at1,?_⟩
  have qf : ∀ k h,cU m L ss ls c x zs k = some h→¬ eG m L ss (zs.getD k 0) ((c + k : Nat) : Int) h = true→k < zs.length→∀ H',Same H H'→Q (.bl false) H':=by
   intro k h e1 e2 hk H' sm
   have e3:=jZ e1 e2 (zs.length - (k + 1))
   rw [show k + 1 + (zs.length - (k + 1)) = zs.length by omega] at e3
   have q':=q H' sm
   have ex : (some x).getD 0 = x:=rfl
   rw [ex,e3] at q'
   unfold endB at q'
   rw [Bool.and_false] at q'
   exact q'
  refine ⟨_,rfl,Z,_,rfl,hZ,?_⟩
  refine sZ (K:=K) (a:=Z) (xs:=HV zs) (fun k σ H3=>(∃ v7 v8 h,σ = [some (.ref a),some (.ref SA),some (.ref LA),some (.int j),some (.int c),some (.ref Z),some (.int (h : Nat)),v7,v8]∧cU m L ss ls c x zs k = some h)∧Same H H3) ⟨⟨_,_,x,rfl,rfl⟩,Same.refl _⟩ (fun k σ H3 _ z=>SqL.of (z.2 _ _ hZ)) ?_ ?_
  ·rintro k v t σ H3 hv ⟨⟨v7,v8,h,rfl,hw⟩,sm⟩ ht
   rw [List.getElem?_map] at hv
   obtain ⟨z,hz,rfl⟩:=Option.map_eq_some_iff.mp hv
   have hk : k < zs.length:=(List.getElem?_eq_some_iff.mp hz).1
   have zk : zs.getD k 0 = z:=by rw [List.getD_eq_getElem?_getD,hz]; rfl
   have sm4 : Same H (upd H3 t (.tup [.int (k : Int),.int z])):=sm.trans (aG ht)
   have LG4:=LG.same sm4
   refine ⟨_,_,rfl,SqT.of aB,rfl,_,_,rfl,_,_,rfl,rfl,?_⟩
   refine ⟨_,rfl,_,rfl,_,rfl,_,rfl,_,rfl,_,_,rfl,rfl,_,rfl,SA,LA,sas,las,m,L,ss,ls,z,(c : Int) + (k : Int),h,rfl,LG4,_,rfl,?_⟩
   have ck : (c : Int) + (k : Int) = ((c + k : Nat) : Int):=by omega
   refine ite2 (fun e2=>?_) (fun e2=>?_)
   ·refine qf k h hw ?_ hk _ sm4
    rw [zk,← ck]
    simpa using e2
   ·have e3 : eG m L ss z ((c : Int) + (k : Int)) h = true:=by simpa using e2
    have e4:=e3
    rw [ck] at e4
    obtain ⟨j2,c2,ez,ec,hj2,hc2,hx2⟩:=jO e4
    have ec' : c2 = c + k:=by omega
    subst ec'
    subst ez
    obtain ⟨mv1,mv2,mv3⟩:=g6 (c + k) hc2
    obtain ⟨o,ho,hne⟩:=mv3 j2 h hx2
    have sl2 : (ss (c + k)).length = m:=g5 (c + k) (by omega)
    have at2 : atI (SV (ls (c + k))) (j2 : Int) = some (.int (o : Int)):=by rw [dQ (by omega),ho]; rfl
    have rat : atI (las.map V.ref) ((c : Int) + (k : Int)) = some (.ref (las.getD (c + k) 0)):=by rw [ck]; exact dC (by rw [g4.1]; exact hc2)
    refine ⟨_,rfl,_,rfl,_,rfl,_,_,rfl,rfl,LA,_,_,_,rfl,rfl,SqL.of (sm4 _ _ g2),rat,_,rfl,las.getD (c + k) 0,_,_,_,rfl,rfl,SqT.of (sm4 _ _ (g4.2 (c + k) hc2)),at2,⟨_,_,o,rfl,?_⟩,sm4⟩
    rw [lX hw (by rw [zk]; exact e4),zk,Int.toNat_natCast,ho]
    rfl
  ·rintro σ H3 ⟨⟨v7,v8,h,rfl,hw⟩,sm⟩
   rw [show (HV zs).length = zs.length from List.length_map _] at hw
   have q':=q H3 sm
   have ex : (some x).getD 0 = x:=rfl
   rw [ex,hw] at q'
   have zl : 0 < zs.length:=List.length_pos_iff.mpr zne
   have at0 : atI (HV zs) 0 = some (.int (zs.getD 0 0)):=iO (i:=0) zl
   refine ⟨_,rfl,Z,_,_,_,rfl,rfl,SqL.of (sm _ _ hZ),at0,_,rfl,rfl,_,rfl,?_⟩
   refine ite2 (fun e2=>?_) (fun e2=>?_)
   ·have e3 : decide (zs.getD 0 0 = (j : Int)) = false:=by
     refine decide_eq_false fun z=>?_
     rw [z] at e2
     simp at e2
    rw [e3,Bool.not_false,Bool.true_and] at q'
    obtain ⟨k,hk⟩ : ∃ k,zs.length = k + 1:=⟨zs.length - 1,by omega⟩
    have hw2:=hw
    rw [hk] at hw2
    obtain ⟨h',s'⟩:=rM hw2
    obtain ⟨j2,c2,ez,ec,hj2,hc2,hx2⟩:=jO s'
    have el : zs.getD (zs.length - 1) 0 = (j2 : Int):=by rw [hk]; exact ez
    unfold endB at q'
    rw [el,Int.toNat_natCast] at q'
    refine ⟨_,rfl,_,rfl,_,rfl,_,rfl,Z,_,_,_,rfl,rfl,SqL.of (sm _ _ hZ),gZ zne,a,_,_,_,rfl,rfl,SqT.of (sm _ _ ha),by rw [el]; exact iO (by omega),rfl,?_⟩
    have ed : decide (V.int (h : Int) = V.int (hs.getD j2 0)) = decide ((h : Int) = hs.getD j2 0):=by
     rw [Bool.eq_iff_iff,decide_eq_true_iff,decide_eq_true_iff]
     exact ⟨V.int.inj,fun z=>by rw [z]⟩
    rw [ed]
    exact q'
   ·have e3 : decide (zs.getD 0 0 = (j : Int)) = true:=by
     refine decide_eq_true ?_
     have : decide (V.int (zs.getD 0 0) = V.int (j : Int)) = true:=by simpa using e2
     exact V.int.inj (of_decide_eq_true this)
    rw [e3] at q'
    exact q'
end
end K61
namespace K61
open PySem L2
theorem wF {o : Option Nat} {h : Int} : scal (stV o) (.int h) = true:=by cases o <;> rfl
theorem iR {x y : Int} : decide (V.int x = V.int y) = decide (x = y):=by
 rw [Bool.eq_iff_iff,decide_eq_true_iff,decide_eq_true_iff]
 exact ⟨V.int.inj,fun z=>by rw [z]⟩
section
variable {P : Program} {w : World} {K : PySem.W.Frag} {mg : Str→Option Value} {base : Heap}
theorem jP : aY ["_law_homes", "_law_stands", "_law_log", "_law_i", "_law_beat", "_law_thing", "_law_house", "_law_k", "_law_one"] ["_law_homes", "_law_stands", "_law_log", "_law_i", "_law_beat", "_law_thing"] (aI mQ):=⟨rfl,rfl,rfl,by decide +kernel,rfl,by decide +kernel,by decide +kernel⟩
def nQ : Sp:=fun vs H Q _=>∃ (a SA LA Z : Addr) (sas las : List Addr) (m L : Nat) (ss ls : Nat→List (Option Nat)) (hs zs : List Int) (j c : Nat),vs = [.ref a,.ref SA,.ref LA,.int j,.int c,.ref Z]∧H a = some (.tup (HV hs))∧hs.length = m∧cI H SA LA sas las m L ss ls∧H Z = some (.lst (HV zs))∧j < m ∧
 ∀ H',Same H H'→Q (.bl (jN hs m L ss ls j c zs)) H'
theorem aAy {f : Addr} {fd : FuncData} (F : Fun K "_law_is_chain" "_law_is_chain" mQ f fd) (B : Bl mg) : FnOk P w K mg base CX0 1 f fd ["_law_homes", "_law_stands", "_law_log", "_law_i", "_law_beat", "_law_thing"] nQ:=by
 refine F.ok jP (fun vs H Q E h=>?_) (fun cdv A outer s H vs Q E hr h=>?_)
 ·obtain ⟨a,SA,LA,Z,sas,las,m,L,ss,ls,hs,zs,j,c,rfl,_⟩:=h
  rfl
 ·obtain ⟨a,SA,LA,Z,sas,las,m,L,ss,ls,hs,zs,j,c,rfl,ha,hl,LG,hZ,hj,q⟩:=h
  have hu : (A.deeper (PyProof.Rows.envOfC "_law_is_chain" (aI mQ) s.heap.objs.size f cdv)).units + 2 < cLine:=by have:=hr.un; omega
  refine' ⟨_,aH (bN (PW.pt (eY (aZ nV (pv 4) (aQ aT (by rfl) B.len PySem.boot_len (aA (pv 2) aE)) (aX _))
     (eY (iC (nR (aO bP (aO aR (pv 1) (pv 4) (fun _ _=>rfl)) (pv 3) (fun _ _=>rfl))))
     (eY (aZ (zH (e:=eqV) hu) (pv 5) (cG aE) (aX _))
     (gA (aZ cT (aO aR (pv 5) aJ (fun _ _=>rfl)) (pv 3) (aX _))))))) (aK (bB hJ)) bE)
   (aH (aV (i:=6) jP.nd rfl (Or.inl rfl) (aO bP (aO aR (pv 1) (pv 4) (fun _ _=>rfl)) (pv 3) (fun _ _=>rfl)))
   (aH (bW PassesOwn.never rfl (vV rfl B.enum (aA (pv 5) aE)) (dE (n:=2) rfl (bD (aM (i:=7) jP.nd rfl (Or.inl rfl)) (bD (aM (i:=8) jP.nd rfl (Or.inl rfl)) cM)))
    (aH (bN (PW.pt (eY (aZ nV (bA bX (pv 4) (pv 7)) (aQ aT (by rfl) B.len PySem.boot_len (aA (pv 2) aE)) (aX _))
      (eY (dS (aAF nS iG aJ (pv 8) (aQ aT (by rfl) B.len PySem.boot_len (aA (pv 0) aE))))
      (gA (aZ hU (aO bP (aO aR (pv 1) (bA bX (pv 4) (pv 7)) (fun _ _=>rfl)) (pv 8) (fun _ _=>rfl)) (pv 6) (aX _)))))) (aK (bB hJ)) bE)
    (aK (aV (i:=6) jP.nd rfl (Or.inl rfl) (aO bP (aO aR (pv 2) (bA bX (pv 4) (pv 7)) (fun _ _=>rfl)) (pv 8) (fun _ _=>rfl))))))
   (aK (bB (cN cT (pv 6) (aO bP (pv 0) (aO aR (pv 5) (dH cX aJ) (fun _ _=>rfl)) (fun _ _=>rfl)) (aX _)))))),?_⟩
  obtain ⟨g1,g2,g3,g4,g5,g6⟩:=LG
  have LG : cI H SA LA sas las m L ss ls:=⟨g1,g2,g3,g4,g5,g6⟩
  refine ⟨_,rfl,_,rfl,LA,_,rfl,.inl (SqL.of g2),_,_,rfl,rfl,_,rfl,?_⟩
  have ell : (((las.map V.ref).length : Nat) : Int) = (L : Int):=by rw [List.length_map,g4.1]
  unfold jN at q
  refine ite2 (fun e=>?_) (fun e=>?_)
  ·have e' : cJ m L ss j c = false:=by
    have:=of_decide_eq_true e
    rw [ell] at this
    unfold cJ
    have z : inR 0 ((L : Int) - 1) (c : Int) = false:=by
     rw [Bool.eq_false_iff]; intro z; have:=gY.mp z; omega
    rw [z]; rfl
   rw [e',Bool.false_and] at q
   exact fO (q H (Same.refl _))
  have hc : c < L:=by
   have : ¬ ((((las.map V.ref).length : Nat) : Int) ≤ (c : Int)):=fun z=>e (decide_eq_true z)
   rw [ell] at this; omega
  have sl : (ss c).length = m:=g5 c (by omega)
  refine ⟨_,rfl,_,rfl,SA,_,_,_,rfl,rfl,SqL.of g1,dC (by rw [g3.1]; omega),_,rfl,sas.getD c 0,_,_,_,rfl,rfl,SqT.of (g3.2 c (by omega)),dQ (by omega),_,rfl,?_⟩
  refine ite2 (fun e2=>?_) (fun e2=>?_)
  ·have hn : (ss c).getD j none = none:=qF (of_decide_eq_true e2 : stV ((ss c).getD j none) = stV none)
   have e' : cJ m L ss j c = false:=by
    unfold cJ
    rw [Int.toNat_natCast,Int.toNat_natCast,hn,Option.isSome_none,Bool.and_false,Bool.and_false]
   rw [e',Bool.false_and] at q
   exact fO (q H (Same.refl _))
  obtain ⟨x,hx⟩ : ∃ x,(ss c).getD j none = some x:=by
   cases z : (ss c).getD j none with
   | none=>exact absurd (decide_eq_true (by rw [z]; rfl)) e2
   | some x=>exact ⟨x,rfl⟩
  rw [jS hj hc hx,Bool.true_and,Int.toNat_natCast,Int.toNat_natCast,hx] at q
  refine ⟨_,rfl,by show 0 ≤ sizeLine; decide,fun L0 hL0=>⟨Z,L0,_,_,rfl,rfl,SqL.of (aG hL0 _ _ hZ),SqL.of aB,fun i _ hi=>absurd hi (by simp),_,rfl,?_⟩⟩
  have sm0 : Same H (upd H L0 (.lst [])):=aG hL0
  revert sm0
  generalize upd H L0 (.lst []) = H0
  intro sm0
  refine ite2 (fun e3=>?_) (fun e3=>?_)
  ·have e4 : zs.isEmpty = true:=by rw [← rN]; exact e3
   rw [e4] at q
   exact fO (q H0 sm0)
  have zem : zs.isEmpty = false:=by
   rw [← rN]
   have : ¬ iI eqV (HV zs) [] = true:=e3
   simpa using this
  have zne : zs ≠ []:=by rintro rfl; cases zem
  have zl : 0 < zs.length:=List.length_pos_iff.mpr zne
  have at0 : atI (HV zs) 0 = some (.int (zs.getD 0 0)):=iO (i:=0) zl
  rw [zem,Bool.not_false,Bool.true_and] at q
  refine ⟨_,rfl,Z,_,_,_,rfl,rfl,SqL.of (sm0 _ _ hZ),at0,_,rfl,rfl,_,rfl,?_⟩
  refine ite2 (fun e5=>?_) (fun e5=>?_)
  ·have e6 : decide (zs.getD 0 0 = (j : Int)) = true:=by rw [← iR]; exact e5
   rw [e6] at q
   exact q H0 sm0
  have e6 : decide (zs.getD 0 0 = (j : Int)) = false:=by
   rw [← iR]
   have : ¬ decide (V.int (zs.getD 0 0) = V.int (j : Int)) = true:=e5
   simpa using this
  rw [e6,Bool.not_false,Bool.true_and] at q
  have at1 : atI (SV (ss c)) (j : Int) = some (.int (x : Int)):=by rw [dQ (by omega),hx]; rfl
  refine ⟨_,rfl,_,rfl,SA,_,_,_,rfl,rfl,SqL.of (sm0 _ _ g1),dC (by rw [g3.1]; omega),_,rfl,sas.getD c 0,_,_,_,rfl,rfl,SqT.of (sm0 _ _ (g3.2 c (by omega))),at1,?_⟩
  have qf : ∀ k h,cU m L ss ls c x zs k = some h→¬ eG m L ss (zs.getD k 0) ((c + k : Nat) : Int) h = true→k < zs.length→∀ H',Same H H'→Q (.bl false) H':=by
   intro k h e1 e2 hk H' sm
   have e3:=jZ e1 e2 (zs.length - (k + 1))
   rw [show k + 1 + (zs.length - (k + 1)) = zs.length by omega] at e3
   have q':=q H' sm
   have ex : (some x).getD 0 = x:=rfl
   rw [ex,e3] at q'
   exact q'
  refine ⟨_,rfl,Z,_,rfl,sm0 _ _ hZ,?_⟩
  refine sZ (K:=K) (a:=Z) (xs:=HV zs) (fun k σ H3=>(∃ v7 v8 h,σ = [some (.ref a),some (.ref SA),some (.ref LA),some (.int j),some (.int c),some (.ref Z),some (.int (h : Nat)),v7,v8]∧cU m L ss ls c x zs k = some h)∧Same H H3) ⟨⟨_,_,x,rfl,rfl⟩,sm0⟩ (fun k σ H3 _ z=>SqL.of (z.2 _ _ hZ)) ?_ ?_
  ·rintro k v t σ H3 hv ⟨⟨v7,v8,h,rfl,hw⟩,sm⟩ ht
   rw [List.getElem?_map] at hv
   obtain ⟨z,hz,rfl⟩:=Option.map_eq_some_iff.mp hv
   have hk : k < zs.length:=(List.getElem?_eq_some_iff.mp hz).1
   have zk : zs.getD k 0 = z:=by rw [List.getD_eq_getElem?_getD,hz]; rfl
   have sm4 : Same H (upd H3 t (.tup [.int (k : Int),.int z])):=sm.trans (aG ht)
   have LG4:=LG.same sm4
   have ck : (c : Int) + (k : Int) = ((c + k : Nat) : Int):=by omega
   refine ⟨_,_,rfl,SqT.of aB,rfl,_,_,rfl,_,_,rfl,rfl,?_⟩
   refine ⟨_,rfl,_,rfl,_,_,rfl,rfl,_,rfl,LA,_,rfl,.inl (SqL.of (sm4 _ _ g2)),_,_,rfl,rfl,_,rfl,?_⟩
   have nos : ∀ (c' : Prop),(∀ (j2 c2 : Nat),z = j2→c2 = c + k→j2 < m→c2 < L→(ss c2).getD j2 none = some h→False)→Q (.bl false) (upd H3 t (.tup [.int (k : Int),.int z])):=by
    intro _ hno
    refine qf k h hw (fun s'=>?_) hk _ sm4
    rw [zk] at s'
    obtain ⟨j2,c2,ez,ec,hj2,hc2,hx2⟩:=jO s'
    exact hno j2 c2 ez (by omega) hj2 hc2 hx2
   refine ite2 (fun e7=>?_) (fun e7=>?_)
   ·refine fO (nos True fun j2 c2 _ ec _ hc2 _=>?_)
    have:=of_decide_eq_true e7
    rw [ell] at this
    omega
   have hck : c + k < L:=by
    have : ¬ ((((las.map V.ref).length : Nat) : Int) ≤ (c : Int) + (k : Int)):=fun z=>e7 (decide_eq_true z)
    rw [ell] at this; omega
   have sl2 : (ss (c + k)).length = m:=g5 (c + k) (by omega)
   refine ⟨_,rfl,_,_,rfl,rfl,_,rfl,?_⟩
   refine ite2 (fun e8=>?_) (fun e8=>?_)
   ·have z0 : 0 ≤ z:=of_decide_eq_true e8
    obtain ⟨j2,rfl⟩ : ∃ j2 : Nat,z = j2:=⟨z.toNat,by omega⟩
    refine ⟨_,rfl,a,_,rfl,.inr (SqT.of (sm4 _ _ ha)),_,_,rfl,rfl,_,rfl,?_⟩
    have ehl : (((HV hs).length : Nat) : Int) = (m : Int):=by rw [List.length_map,hl]
    refine ite2 (fun e9=>?_) (fun e9=>?_)
    ·refine fO (nos True fun j3 c2 ej _ hj3 _ _=>?_)
     have : ¬ ((j2 : Int) < (((HV hs).length : Nat) : Int)):=by simpa using e9
     rw [ehl] at this
     omega
    ·have hj2 : j2 < m:=by
      have : ((j2 : Int) < (((HV hs).length : Nat) : Int)):=by simpa using e9
      rw [ehl] at this
      omega
     have rat : atI (sas.map V.ref) ((c : Int) + (k : Int)) = some (.ref (sas.getD (c + k) 0)):=by rw [ck]; exact dC (by rw [g3.1]; omega)
     refine ⟨_,rfl,_,rfl,_,rfl,_,_,rfl,rfl,SA,_,_,_,rfl,rfl,SqL.of (sm4 _ _ g1),rat,_,rfl,sas.getD (c + k) 0,_,_,_,rfl,rfl,SqT.of (sm4 _ _ (g3.2 (c + k) (by omega))),dQ (by omega),_,rfl,wF,_,rfl,?_⟩
     refine ite2 (fun e10=>?_) (fun e10=>?_)
     ·refine nos True fun j3 c2 ej ec _ _ hx3=>?_
      have ej' : j3 = j2:=by omega
      subst ej'
      subst ec
      have e11 : ¬ stV ((ss (c + k)).getD j3 none) = V.int (h : Int):=by simpa using e10
      rw [hx3] at e11
      exact e11 rfl
     ·have e11 : stV ((ss (c + k)).getD j2 none) = V.int (h : Int):=by simpa using e10
      have hx2 : (ss (c + k)).getD j2 none = some h:=qF (e11 : stV ((ss (c + k)).getD j2 none) = stV (some h))
      obtain ⟨mv1,mv2,mv3⟩:=g6 (c + k) hck
      obtain ⟨o,ho,hne⟩:=mv3 j2 h hx2
      have at2 : atI (SV (ls (c + k))) (j2 : Int) = some (.int (o : Int)):=by rw [dQ (by omega),ho]; rfl
      have rat2 : atI (las.map V.ref) ((c : Int) + (k : Int)) = some (.ref (las.getD (c + k) 0)):=by rw [ck]; exact dC (by rw [g4.1]; exact hck)
      refine ⟨_,rfl,_,rfl,_,rfl,_,_,rfl,rfl,LA,_,_,_,rfl,rfl,SqL.of (sm4 _ _ g2),rat2,_,rfl,las.getD (c + k) 0,_,_,_,rfl,rfl,SqT.of (sm4 _ _ (g4.2 (c + k) hck)),at2,⟨_,_,o,rfl,?_⟩,sm4⟩
      rw [lX hw (by rw [zk]; exact aCA hj2 hck hx2),zk,Int.toNat_natCast,ho]
      rfl
   ·refine ⟨_,rfl,fO (fO (nos True fun j2 c2 ej _ _ _ _=>?_))⟩
    have : ¬ (0 ≤ z):=fun y=>e8 (decide_eq_true y)
    omega
  ·rintro σ H3 ⟨⟨v7,v8,h,rfl,hw⟩,sm⟩
   rw [show (HV zs).length = zs.length from List.length_map _] at hw
   have q':=q H3 sm
   have ex : (some x).getD 0 = x:=rfl
   rw [ex,hw] at q'
   obtain ⟨k,hk⟩ : ∃ k,zs.length = k + 1:=⟨zs.length - 1,by omega⟩
   have hw2:=hw
   rw [hk] at hw2
   obtain ⟨h',s'⟩:=rM hw2
   obtain ⟨j2,c2,ez,ec,hj2,hc2,hx2⟩:=jO s'
   have el : zs.getD (zs.length - 1) 0 = (j2 : Int):=by rw [hk]; exact ez
   unfold endB at q'
   rw [el,Int.toNat_natCast] at q'
   refine ⟨_,rfl,_,rfl,_,rfl,_,rfl,Z,_,_,_,rfl,rfl,SqL.of (sm _ _ hZ),gZ zne,a,_,_,_,rfl,rfl,SqT.of (sm _ _ ha),by rw [el]; exact iO (by omega),rfl,?_⟩
   rw [iR]
   exact q'
end
end K61
namespace L2
open PySem PySem.Spec PyProof.Rows
section
variable {X : Cx} {e se : Expr} {te : TE} {lo hi : Option Expr} {tl th ts : TO} {pos p2 : Pos}
end
end L2
namespace K61
open PySem L2
abbrev rZ : Stmt:=top 45
theorem nbW6 : (["_law_j", "_law_here", "_law_house", "_law_at", "_law_beat", "_law_i"] : List Str).Nodup:=by decide +kernel
section
variable {P : Program} {w : World} {K : PySem.W.Frag} {mg : Str→Option Value} {base : Heap}
theorem kL : aY ["_law_pot_here", "_law_homes", "_law_stands", "_law_log", "_law_i", "_law_beat", "_law_found", "_law_house", "_law_at", "_law_some"] ["_law_pot_here", "_law_homes", "_law_stands", "_law_log", "_law_i", "_law_beat"] (aI rZ):=⟨rfl,rfl,rfl,by decide +kernel,rfl,by decide +kernel,by decide +kernel⟩
def uH : Sp:=fun vs H Q _=>∃ (p a SA LA : Addr) (sas las : List Addr) (m L : Nat) (ss ls : Nat→List (Option Nat)) (hs : List Int) (j c : Nat),vs = [.ref p,.ref a,.ref SA,.ref LA,.int j,.int c]∧aN H p∧H a = some (.tup (HV hs))∧hs.length = m∧cI H SA LA sas las m L ss ls∧j < m∧m ≤ 16∧L ≤ 30∧SA ≠ p∧LA ≠ p ∧
 ∀ (r : Addr) (zs : List Int) (H' : Hp),H' r = some (.lst (HV zs))→zs.length ≤ 30→H r = none→aL p H H'→aN H' p→Q (.ref r) H'
theorem cI.sameE {H H' : Hp} {p SA LA : Addr} {sas las : List Addr} {m L : Nat} {ss ls : Nat→List (Option Nat)} (h : cI H SA LA sas las m L ss ls) (s : aL p H H') (hp : aN H p) (n1 : SA ≠ p) (n2 : LA ≠ p) : cI H' SA LA sas las m L ss ls:=by
 obtain ⟨g1,g2,g3,g4,g5,g6⟩:=h
 have kt : KTu H H':=KTu.ofE s hp
 exact ⟨s _ _ g1 n1,s _ _ g2 n2,g3.mono fun j _ e=>kt _ _ e,g4.mono fun j _ e=>kt _ _ e,g5,g6⟩
theorem aCB {f : Addr} {fd : FuncData} (F : Fun K "_law_walked" "_law_walked" rZ f fd) (B : Bl mg) (T : Cal P w K mg base CX0 1 "_law_take" ["_law_pot_here", "_law_many"] eW) : FnOk P w K mg base CX0 2 f fd ["_law_pot_here", "_law_homes", "_law_stands", "_law_log", "_law_i", "_law_beat"] uH:=by
 refine F.ok kL (fun vs H Q E h=>?_) (fun cdv A outer s H vs Q E hr h=>?_)
 ·obtain ⟨p,a,SA,LA,sas,las,m,L,ss,ls,hs,j,c,rfl,_⟩:=h
  rfl
 ·obtain ⟨p,a,SA,LA,sas,las,m,L,ss,ls,hs,j,c,rfl,hp,ha,hl,LG,hj,m16,L30,nSp,nLp,q⟩:=h
  have hu : (A.deeper (PyProof.Rows.envOfC "_law_walked" (aI rZ) s.heap.objs.size f cdv)).units + 2 < cLine:=by have:=hr.un; omega
  refine' ⟨_,aH (aV (i:=6) kL.nd rfl (Or.inl rfl) (cG aE))
   (aH (bN (PW.pt (eY (aZ nV (pv 5) (aQ aT (by rfl) B.len PySem.boot_len (aA (pv 3) aE)) (aX _))
     (gA (iC (nR (aO bP (aO aR (pv 2) (pv 5) (fun _ _=>rfl)) (pv 4) (fun _ _=>rfl))))))) (aK (bB (pv 6))) bE)
   (aH (aV (i:=7) kL.nd rfl (Or.inr rfl) (aO bP (aO aR (pv 2) (pv 5) (fun _ _=>rfl)) (pv 4) (fun _ _=>rfl)))
   (aH (bW PassesOwn.never rfl (lD rfl B.range (aA (pv 5) (aA (aQ aT (by rfl) B.len PySem.boot_len (aA (pv 3) aE)) aE))) (aM (i:=8) kL.nd rfl (Or.inr rfl))
    (aH (eB (i:=9) (g:=gTup K 2 (cS (bG 0) (cS (bG 1) gNil))) (tt:=tAnd (iH (tOp rEq (tVar 1) (tVar 2))) (tOr (iH (tOp (rI0 fun i j=>.bl (decide (j < i))) (tVar 3) (tVar 4))) (iH (tOp rNe (tVar 0) (tVar 5))))) (te:=tVar 0) (NB:=["_law_j", "_law_here", "_law_house", "_law_at", "_law_beat", "_law_i"]) (src:=[none,none,some 7,some 8,some 5,some 4]) (bZ (by kernel_rfl)) rfl (kS rfl B.enum (aA (aO aR (pv 2) (pv 8) (fun _ _=>rfl)) aE)) ?g ?t ?e kL.nd rfl rfl rfl)
    (aH (bN (aZ (zH (e:=eqV) hu) (pv 9) (cG aE) (aX _)) (aK (bB (pv 6))) bE)
    (aH (bR (eA PySem.F.plainAttrs_list PySem.F.slot_list_append PySem.F.type_list_append dD (pv 6) (aA (aO aR (pv 9) (aS T hr aU (aA (pv 0) (aA (aQ aT (by rfl) B.len PySem.boot_len (aA (pv 9) aE)) aE))) (fun _ _=>rfl)) aE)))
    (aH (aV (i:=7) kL.nd rfl (Or.inr rfl) (aO bP (aO aR (pv 3) (pv 8) (fun _ _=>rfl)) (aO aR (pv 6) (dH cX aJ) (fun _ _=>rfl)) (fun _ _=>rfl)))
    (aK (bN (PW.pt (iZ (aZ cT (pv 7) (aO bP (pv 1) (aO aR (pv 6) (dH cX aJ) (fun _ _=>rfl)) (fun _ _=>rfl)) (aX _)) (iQ (aZ nU (aS T hr aU (aA (pv 0) (aA aJ aE))) aJ (aX _))))) (aK (bB (pv 6))) bE)))))))
   (aK (bB (pv 6)))))),?_⟩
  case g=>exact fun cl C s₃ H₃ fp=>dE (n:=2) rfl (bD (aM (i:=0) nbW6 rfl (Or.inl rfl) (Or.inr rfl)) (bD (aM (i:=1) nbW6 rfl (Or.inl rfl) (Or.inr rfl)) cM))
  case t=>exact fun cl C s₃ H₃ fp=>eN (PW.pt (iZ (aZ cT (pv 1) (pv 2) (aX _)) (iQ (PW.pt (eY (aZ nU (pv 3) (pv 4) (aX _)) (gA (aZ hU (pv 0) (pv 5) (aX _))))))))
  case e=>exact fun cl C s₃ H₃ fp=>pv 0
  obtain ⟨g1,g2,g3,g4,g5,g6⟩:=LG
  have LG : cI H SA LA sas las m L ss ls:=⟨g1,g2,g3,g4,g5,g6⟩
  have nap : a ≠ p:=by rintro rfl; obtain ⟨u,v,e,_⟩:=hp; rw [e] at ha; cases ha
  refine ⟨by show 0 ≤ sizeLine; decide,fun Fo hFo=>?_⟩
  have nFp : Fo ≠ p:=by rintro rfl; exact hp.some hFo
  have sm0 : Same H (upd H Fo (.lst [])):=aG hFo
  have hF0 : (upd H Fo (.lst [])) Fo = some (.lst (HV [])):=aB
  revert sm0 hF0
  generalize upd H Fo (.lst []) = H0
  intro sm0 hF0
  have ell : (((las.map V.ref).length : Nat) : Int) = (L : Int):=by rw [List.length_map,g4.1]
  refine ⟨_,rfl,_,rfl,LA,_,rfl,.inl (SqL.of (sm0 _ _ g2)),_,_,rfl,rfl,_,rfl,?_⟩
  refine ite2 (fun e=>fO ⟨_,rfl,q Fo [] H0 hF0 (by decide) hFo (aL.of sm0) (hp.same sm0)⟩) (fun e=>?_)
  have hc : c < L:=by
   have : ¬ ((((las.map V.ref).length : Nat) : Int) ≤ (c : Int)):=fun z=>e (decide_eq_true z)
   rw [ell] at this; omega
  have sl : (ss c).length = m:=g5 c (by omega)
  refine ⟨_,rfl,_,rfl,SA,_,_,_,rfl,rfl,SqL.of (sm0 _ _ g1),dC (by rw [g3.1]; omega),_,rfl,sas.getD c 0,_,_,_,rfl,rfl,SqT.of (sm0 _ _ (g3.2 c (by omega))),dQ (by omega),_,rfl,?_⟩
  refine ite2 (fun e=>⟨_,rfl,q Fo [] H0 hF0 (by decide) hFo (aL.of sm0) (hp.same sm0)⟩) (fun e2=>?_)
  obtain ⟨x,hx⟩ : ∃ x,(ss c).getD j none = some x:=by
   cases z : (ss c).getD j none with
   | none=>exact absurd (decide_eq_true (by rw [z]; rfl)) e2
   | some x=>exact ⟨x,rfl⟩
  have at1 : atI (SV (ss c)) (j : Int) = some (.int (x : Int)):=by rw [dQ (by omega),hx]; rfl
  refine ⟨_,rfl,_,rfl,SA,_,_,_,rfl,rfl,SqL.of (sm0 _ _ g1),dC (by rw [g3.1]; omega),_,rfl,sas.getD c 0,_,_,_,rfl,rfl,SqT.of (sm0 _ _ (g3.2 c (by omega))),at1,?_⟩
  refine ⟨_,rfl,_,rfl,LA,_,rfl,.inl (SqL.of (sm0 _ _ g2)),c,_,rfl,⟨by omega,by omega,by rw [ell]; omega,by rw [ell]; omega⟩,?_⟩
  have en : ((((las.map V.ref).length : Nat) : Int) - (c : Int)).toNat = L - c:=by rw [ell]; omega
  refine cW (lo:=(c : Int)) (fun k σ H3=>(∃ v8 v9 h,σ = [some (.ref p),some (.ref a),some (.ref SA),some (.ref LA),some (.int j),some (.int c),some (.ref Fo),some (.int (h : Nat)),v8,v9])∧aL p H H3∧aN H3 p∧∃ zs,H3 Fo = some (.lst (HV zs))∧zs.length = k) ⟨⟨_,_,x,rfl⟩,aL.of sm0,hp.same sm0,[],hF0,rfl⟩ ?_ ?_
  ·rintro k σ H3 hk ⟨⟨v8,v9,h,rfl⟩,se3,po3,zs,hF3,zl⟩
   rw [en] at hk
   have ck : (c : Int) + (k : Int) = ((c + k : Nat) : Int):=by omega
   have hck : c + k < L:=by omega
   have sl2 : (ss (c + k)).length = m:=g5 (c + k) (by omega)
   have LG3:=LG.sameE se3 hp nSp nLp
   obtain ⟨f1,f2,f3,f4,f5,f6⟩:=LG3
   have rat : atI (sas.map V.ref) ((c : Int) + (k : Int)) = some (.ref (sas.getD (c + k) 0)):=by rw [ck]; exact dC (by rw [g3.1]; omega)
   have hS3:=f3.2 (c + k) (by omega)
   refine ⟨_,rfl,_,rfl,SA,_,_,_,rfl,rfl,SqL.of f1,rat,sas.getD (c + k) 0,_,rfl,SqT.of hS3,fun D hD=>?_⟩
   refine iJ (K:=K) (a:=sas.getD (c + k) 0) (xs:=SV (ss (c + k))) (fun i ys σ H4=>(∃ u v,σ = [u,v,some (.int (h : Int)),some (.int ((c : Int) + (k : Int))),some (.int c),some (.int j)])∧Same H3 H4∧H4 D = some (.lst ys)∧∃ js,ys = NV js∧js.length ≤ i∧∀ y∈js,y < m∧(ss (c + k)).getD y none = some h)
    ⟨⟨_,_,rfl⟩,aG hD,aB,[],rfl,Nat.le_refl _,fun y hy=>(nomatch hy)⟩ (fun i ys σ H4 _ z=>SqT.of (z.2.1 _ _ hS3)) ?_ ?_
   ·rintro i v t ys σ H4 Kt Kf hv ⟨⟨u,v',rfl⟩,sm4,hD4,js,rfl,jl,jm⟩ ht kt kf
    obtain ⟨hi,rfl⟩:=pE hv
    have skip : Same H3 (upd H4 t (.tup [.int (i : Int),stV ((ss (c + k)).getD i none)])):=sm4.trans (aG ht)
    refine ⟨_,_,rfl,SqT.of aB,rfl,_,_,rfl,_,_,rfl,rfl,?_⟩
    refine ⟨_,rfl,_,rfl,wF,_,rfl,?_⟩
    have no : Kf [some (.int (i : Int)),some (stV ((ss (c + k)).getD i none)),some (.int (h : Int)),some (.int ((c : Int) + (k : Int))),some (.int c),some (.int j)] (upd H4 t (.tup [.int (i : Int),stV ((ss (c + k)).getD i none)])):=kf _ _ ⟨⟨_,_,rfl⟩,skip,aG ht _ _ hD4,js,rfl,by omega,jm⟩
    refine ite2 (fun e5=>?_) (fun e5=>pD no)
    have hh : (ss (c + k)).getD i none = some h:=qF (of_decide_eq_true e5 : stV ((ss (c + k)).getD i none) = stV (some h))
    have yes : Kt (.int (i : Int)) [some (.int (i : Int)),some (stV ((ss (c + k)).getD i none)),some (.int (h : Int)),some (.int ((c : Int) + (k : Int))),some (.int c),some (.int j)] (upd H4 t (.tup [.int (i : Int),stV ((ss (c + k)).getD i none)])):=by
     refine kt _ _ _ (aG ht _ _ hD4) ?_ ⟨⟨_,_,rfl⟩,fun b u e=>?_,aB,js ++ [i],?_,by rw [List.length_append]; simp; omega,fun y hy=>?_⟩
     ·rw [List.length_map]; exact Nat.lt_of_le_of_lt jl (Nat.lt_of_lt_of_le (show i < 17 by omega) (by decide))
     ·rw [aD (aF e hD)]
      exact skip _ _ e
     ·unfold NV; rw [List.map_append]; rfl
     ·rcases List.mem_append.mp hy with z | z
      ·exact jm y z
      ·rw [List.mem_singleton.mp z]; exact ⟨by omega,hh⟩
    refine ⟨_,rfl,_,rfl,_,_,rfl,rfl,_,rfl,?_⟩
    refine ite2 (fun e6=>fO ⟨_,rfl,yes⟩) (fun e6=>?_)
    refine ⟨_,rfl,_,rfl,rfl,_,rfl,?_⟩
    exact ite2 (fun e7=>⟨_,rfl,yes⟩) (fun e7=>no)
   ·rintro ys σ H4 ⟨_,sm4,hD4,js,rfl,jl,jm⟩
    rw [show (SV (ss (c + k))).length = (ss (c + k)).length from List.length_map _,sl2] at jl
    have hF4 : H4 Fo = some (.lst (HV zs)):=sm4 _ _ hF3
    have nDp : D ≠ p:=by rintro rfl; exact po3.some hD
    have nDF : D ≠ Fo:=(aF hF3 hD).symm
    refine ⟨_,rfl,by show 0 ≤ sizeLine; decide,fun L0 hL0=>⟨D,L0,_,_,rfl,rfl,SqL.of (aG hL0 _ _ hD4),SqL.of aB,fun i _ hi=>absurd hi (by simp),_,rfl,?_⟩⟩
    have sm5 : Same H3 (upd H4 L0 (.lst [])):=sm4.trans (aG hL0)
    have hD5 : (upd H4 L0 (.lst [])) D = some (.lst (NV js)):=aG hL0 _ _ hD4
    revert sm5 hD5
    generalize upd H4 L0 (.lst []) = H5
    intro sm5 hD5
    have po5:=po3.same sm5
    have hF5:=sm5 _ _ hF3
    refine ite2 (fun e5=>⟨_,rfl,q Fo zs H5 hF5 (by omega) hFo (se3.trans (aL.of sm5)) po5⟩) (fun e5=>?_)
    have jne : 0 < js.length:=by
     cases js with
     | nil=>exact absurd rfl e5
     | cons y ys=>simp
    refine ⟨_,rfl,.inl ⟨rfl,_,SqL.of hF5⟩,_,rfl,_,rfl,_,rfl,D,_,rfl,.inl (SqL.of hD5),p,_,rfl,by rw [List.length_map]; omega,by rw [List.length_map]; omega,po5,fun d a2 b2 d0 d1 k0 k1 k2=>?_⟩
    rw [List.length_map] at d1
    obtain ⟨dn,rfl⟩ : ∃ dn : Nat,(dn : Int) = d:=⟨d.toNat,by omega⟩
    have hdn : dn < js.length:=by omega
    obtain ⟨ym,yh⟩:=jm _ (jM hdn)
    have aty : atI (NV js) (dn : Int) = some (.int ((js.getD dn 0 : Nat) : Int)):=oZ hdn
    revert ym yh aty
    generalize js.getD dn 0 = y
    intro ym yh aty
    have se6 : aL p H (upd H5 p (.lst [.int a2,.int b2])):=(se3.trans (aL.of sm5)).trans aL.upd
    have po6 : aN (upd H5 p (.lst [.int a2,.int b2])) p:=aN.upd k0 k1 k2
    have hD6 : (upd H5 p (.lst [.int a2,.int b2])) D = some (.lst (NV js)):=by rw [aD nDp]; exact hD5
    have hF6 : (upd H5 p (.lst [.int a2,.int b2])) Fo = some (.lst (HV zs)):=by rw [aD nFp]; exact hF5
    revert se6 po6 hD6 hF6
    generalize upd H5 p (.lst [.int a2,.int b2]) = H6
    intro se6 po6 hD6 hF6
    refine ⟨D,_,_,_,rfl,rfl,SqL.of hD6,aty,Fo,_,_,rfl,rfl,hF6,by rw [List.length_map,zl]; exact Nat.lt_of_lt_of_le (show k < 31 by omega) (by decide),?_⟩
    have se7 : aL p H (upd H6 Fo (.lst (HV zs ++ [.int (y : Int)]))):=bY se6 hFo
    have po7 : aN (upd H6 Fo (.lst (HV zs ++ [.int (y : Int)]))) p:=by obtain ⟨u,v,e,z⟩:=po6; exact ⟨u,v,by rw [aD nFp.symm]; exact e,z⟩
    have hF7 : (upd H6 Fo (.lst (HV zs ++ [.int (y : Int)]))) Fo = some (.lst (HV (zs ++ [(y : Int)]))):=by rw [aB]; unfold HV; rw [List.map_append]; rfl
    revert se7 po7 hF7
    generalize upd H6 Fo (.lst (HV zs ++ [.int (y : Int)])) = H7
    intro se7 po7 hF7
    have LG7:=LG.sameE se7 hp nSp nLp
    obtain ⟨f1,f2,f3,f4,f5,f6⟩:=LG7
    obtain ⟨mv1,mv2,mv3⟩:=g6 (c + k) hck
    obtain ⟨o,ho,hne⟩:=mv3 y h yh
    have at2 : atI (SV (ls (c + k))) (y : Int) = some (.int (o : Int)):=by rw [dQ (by omega),ho]; rfl
    have rat2 : atI (las.map V.ref) ((c : Int) + (k : Int)) = some (.ref (las.getD (c + k) 0)):=by rw [ck]; exact dC (by rw [g4.1]; exact hck)
    have atl : atI (HV (zs ++ [(y : Int)])) (-1) = some (.int (y : Int)):=by unfold HV; rw [List.map_append]; exact gO _ _
    have ha7:=se7 _ _ ha nap
    have zl2 : (zs ++ [(y : Int)]).length = k + 1:=by rw [List.length_append,zl]; rfl
    refine ⟨_,rfl,_,rfl,LA,_,_,_,rfl,rfl,SqL.of f2,rat2,_,rfl,_,rfl,Fo,_,_,_,rfl,rfl,SqL.of hF7,atl,las.getD (c + k) 0,_,_,_,rfl,rfl,SqT.of (f4.2 (c + k) hck),at2,?_⟩
    refine ⟨_,rfl,_,rfl,_,rfl,_,rfl,Fo,_,_,_,rfl,rfl,SqL.of hF7,atl,a,_,_,_,rfl,rfl,SqT.of ha7,iO (by omega),rfl,_,rfl,?_⟩
    refine ite2 (fun e8=>?_) (fun e8=>pD ⟨⟨_,_,o,rfl⟩,se7,po7,_,hF7,zl2⟩)
    refine ⟨_,rfl,p,4,rfl,by decide,by decide,po7,fun d8 a8 b8 p8 q8 r8 s8 t8=>⟨_,_,rfl,rfl,_,rfl,?_⟩⟩
    have hF8 : (upd H7 p (.lst [.int a8,.int b8])) Fo = some (.lst (HV (zs ++ [(y : Int)]))):=by rw [aD nFp]; exact hF7
    exact ite2 (fun e9=>⟨_,rfl,q Fo _ _ hF8 (by omega) hFo (se7.trans aL.upd) (aN.upd r8 s8 t8)⟩) (fun e9=>⟨⟨_,_,o,rfl⟩,se7.trans aL.upd,aN.upd r8 s8 t8,_,hF8,zl2⟩)
  ·rintro σ H3 ⟨⟨v8,v9,h,rfl⟩,se3,po3,zs,hF3,zl⟩
   rw [en] at zl
   exact ⟨_,rfl,q Fo zs H3 hF3 (by omega) hFo se3 po3⟩
end
end K61
namespace K61
open PySem L2 NetM
def tsTo (g : Nat→List Nat) (k : Nat) : Ts:=(List.range k).flatMap fun h=>(g h).map fun o=>(ci h,ci o)
abbrev tsOf (n : Nat) (g : Nat→List Nat) : Ts:=tsTo g n
theorem iE {g : Nat→List Nat} {k : Nat} : tsTo g (k + 1) = tsTo g k ++ (g k).map fun o=>(ci k,ci o):=by
 unfold tsTo
 rw [List.range_succ,List.flatMap_append]
 simp
theorem kM {n : Nat} {g : Nat→List Nat} {t : Int × Int} : t∈tsOf n g↔∃ h o,h < n∧o∈g h∧t = (ci h,ci o):=by
 unfold tsOf tsTo
 rw [List.mem_flatMap]
 constructor
 ·rintro ⟨h,hh,z⟩
  obtain ⟨o,ho,rfl⟩:=List.mem_map.mp z
  exact ⟨h,o,List.mem_range.mp hh,ho,rfl⟩
 ·rintro ⟨h,o,hh,ho,rfl⟩
  exact ⟨h,List.mem_range.mpr hh,List.mem_map.mpr ⟨o,ho,rfl⟩⟩
theorem T_ts {n : Nat} {g : Nat→List Nat} {a b : Nat} : T (tsOf n g) a b↔a < n∧b∈g a:=by
 unfold T
 rw [kM]
 constructor
 ·rintro ⟨h,o,hh,ho,e⟩
  obtain rfl : a = h:=Int.ofNat.inj (congrArg Prod.fst e)
  obtain rfl : b = o:=Int.ofNat.inj (congrArg Prod.snd e)
  exact ⟨hh,ho⟩
 ·rintro ⟨h1,h2⟩
  exact ⟨a,b,h1,h2,rfl⟩
theorem uI {g : Nat→List Nat} : ∀ k,(∀ h,h < k→(g h).Nodup)→(tsTo g k).Nodup
 | 0,_=>by simp [tsTo]
 | k + 1,h=>by
  rw [iE]
  refine List.nodup_append.mpr ⟨uI k fun x hx=>h x (by omega),?_,?_⟩
  ·exact List.Pairwise.map _ (fun a b hab e=>hab (Int.ofNat.inj (congrArg Prod.snd e))) (List.nodup_iff_pairwise_ne.mp (h k (by omega)))
  ·intro x hx y hy e
   subst e
   obtain ⟨h',o,hh,_,rfl⟩:=kM.mp hx
   obtain ⟨o',_,e⟩:=List.mem_map.mp hy
   have:=Int.ofNat.inj (congrArg Prod.fst e)
   omega
theorem uJ {g : Nat→List Nat} {x : Nat} : ∀ k,((tsTo g k).filter fun t=>decide (t.1 = ci x)).length = if x < k then (g x).length else 0
 | 0=>by simp [tsTo]
 | k + 1=>by
  rw [iE,List.filter_append,List.length_append,uJ k]
  by_cases e : x = k
  ·subst e
   rw [if_neg (Nat.lt_irrefl _),if_pos (Nat.lt_succ_self _),List.filter_eq_self.mpr,List.length_map,Nat.zero_add]
   intro t ht
   obtain ⟨o,_,rfl⟩:=List.mem_map.mp ht
   simp
  ·rw [List.filter_eq_nil_iff.mpr,List.length_nil,Nat.add_zero]
   ·by_cases h : x < k
    ·rw [if_pos h,if_pos (by omega)]
    ·rw [if_neg h,if_neg (by omega)]
   ·intro t ht z
    obtain ⟨o,_,rfl⟩:=List.mem_map.mp ht
    exact e (Int.ofNat.inj (of_decide_eq_true z)).symm
theorem pI {x : Nat} : ∀ {l : List Nat},l.Nodup→((l.map fun o=>ci o).filter fun t=>decide (t = ci x)).length = if x∈l then 1 else 0
 | [],_=>by simp
 | y :: l,h=>by
  have ih:=pI (x:=x) (List.nodup_cons.mp h).2
  have hy:=(List.nodup_cons.mp h).1
  rw [List.map_cons,List.filter_cons]
  by_cases e : y = x
  ·subst e
   rw [if_pos (by simp),List.length_cons,ih,if_neg hy,if_pos (by simp)]
  ·rw [if_neg (show ¬ decide (ci y = ci x) = true from fun z=>e (Int.ofNat.inj (of_decide_eq_true z))),ih]
   have : x∈y :: l↔x∈l:=by
    rw [List.mem_cons]
    exact ⟨fun z=>z.elim (fun q=>absurd q.symm e) id,.inr⟩
   simp only [this]
theorem aAz {g : Nat→List Nat} {x : Nat} : ∀ k,(∀ h,h < k→(g h).Nodup)→((tsTo g k).filter fun t=>decide (t.2 = ci x)).length = inn g k x
 | 0,_=>by simp [tsTo,inn]
 | k + 1,h=>by
  rw [iE,List.filter_append,List.length_append,aAz k fun y hy=>h y (by omega)]
  unfold inn
  rw [List.range_succ,List.countP_append]
  congr 1
  have e1 : List.countP (fun o=>decide (x∈g o)) [k] = if x∈g k then 1 else 0:=by rw [List.countP_singleton]; simp
  rw [e1,← pI (h k (by omega)),List.filter_map,List.length_map,List.filter_map,List.length_map]
  rfl
theorem aCC {n : Nat} {g : Nat→List Nat} (lt : ∀ a,a < n→∀ o∈g a,o < n) {a b : Nat} (ha : a < n) (h : Rc g a b) : b < n∧∃ k,Walk (tsOf n g) k a b:=by
 induction h with
 | refl=>exact ⟨ha,0,rfl⟩
 | step _ t ih =>
  obtain ⟨hb,k,w⟩:=ih
  exact ⟨lt _ hb _ t,k + 1,_,w,T_ts.mpr ⟨hb,t⟩⟩
theorem wG {h : Int} {n : Nat} : (∃ x : Nat,h = ci x)∨h < 0:=by
 by_cases z : 0 ≤ h
 ·exact .inl ⟨h.toNat,(Int.toNat_of_nonneg z).symm⟩
 ·exact .inr (by omega)
theorem aCD {n : Nat} {g : Nat→List Nat} (G : Good n g) (C : Con n g) (n1 : 2 ≤ n) (n2 : n ≤ 32) : Fine n (tsOf n g):=by
 have neg1 : ∀ h : Int,h < 0→(tsOf n g).filter (fun t=>decide (t.1 = h)) = []:=fun h hh=>List.filter_eq_nil_iff.mpr fun t ht z=>by
  obtain ⟨x,o,_,_,rfl⟩:=kM.mp ht
  have z' : ((x : Nat) : Int) = h:=of_decide_eq_true z
  omega
 have neg2 : ∀ h : Int,h < 0→(tsOf n g).filter (fun t=>decide (t.2 = h)) = []:=fun h hh=>List.filter_eq_nil_iff.mpr fun t ht z=>by
  obtain ⟨x,o,_,_,rfl⟩:=kM.mp ht
  have z' : ((o : Nat) : Int) = h:=of_decide_eq_true z
  omega
 have inn0 : ∀ x,¬ x < n→inn g n x = 0:=fun x hx=>by
  unfold inn
  rw [List.countP_eq_zero]
  intro o ho z
  exact hx (G.lt o (List.mem_range.mp ho) x (of_decide_eq_true z)).1
 refine ⟨n1,n2,uI n G.nd,fun t ht=>?_,fun t ht=>?_,fun h=>?_,fun h=>?_,fun a b ha hb=>(aCC (fun x hx o ho=>(G.lt x hx o ho).1) ha (C a b ha hb)).2⟩
 ·obtain ⟨x,o,hx,ho,rfl⟩:=kM.mp ht
  have:=(G.lt x hx o ho).1
  exact ⟨⟨Int.natCast_nonneg _,Int.ofNat_lt.mpr hx⟩,⟨Int.natCast_nonneg _,Int.ofNat_lt.mpr this⟩⟩
 ·obtain ⟨x,o,hx,ho,rfl⟩:=kM.mp ht
  have:=(G.lt x hx o ho).2
  exact fun e=>this (Int.ofNat.inj e).symm
 ·rcases wG (h:=h) (n:=n) with ⟨x,rfl⟩ | z
  ·rw [uJ,aAz n G.nd]
   by_cases hx : x < n
   ·rw [if_pos hx]; exact G.bal x hx
   ·rw [if_neg hx,inn0 x hx]
  ·rw [neg1 h z,neg2 h z]
 ·rcases wG (h:=h) (n:=n) with ⟨x,rfl⟩ | z
  ·rw [uJ]
   by_cases hx : x < n
   ·rw [if_pos hx]; exact G.le x hx
   ·rw [if_neg hx]; decide
  ·rw [neg1 h z]; decide
def revT (ts : Ts) : Ts:=ts.map fun t=>(t.2,t.1)
theorem xY {ts : Ts} {a b : Nat} : T (revT ts) a b↔T ts b a:=by
 unfold T revT
 rw [List.mem_map]
 constructor
 ·rintro ⟨⟨x,y⟩,h,e⟩
  have e1:=congrArg Prod.fst e
  have e2:=congrArg Prod.snd e
  dsimp only at e1 e2
  subst e1 e2
  exact h
 ·exact fun h=>⟨_,h,rfl⟩
theorem uK {ts : Ts} : ∀ {k a b : Nat},Walk (revT ts) k a b→Walk ts k b a
 | 0,_,_,e=>e.symm
 | k + 1,a,b,⟨c,w,t⟩=>Walk.cons (xY.mp t) (uK w)
theorem lY {ts : Ts} : ∀ {k a b : Nat},Walk ts k a b→Walk (revT ts) k b a
 | 0,_,_,e=>e.symm
 | k + 1,a,b,⟨c,w,t⟩=>Walk.cons (xY.mpr t) (lY w)
theorem wH {ts : Ts} {h : Int} : ((revT ts).filter fun t=>decide (t.1 = h)).length = (ts.filter fun t=>decide (t.2 = h)).length:=by
 unfold revT; rw [List.filter_map,List.length_map]; rfl
theorem aCE {ts : Ts} {h : Int} : ((revT ts).filter fun t=>decide (t.2 = h)).length = (ts.filter fun t=>decide (t.1 = h)).length:=by
 unfold revT; rw [List.filter_map,List.length_map]; rfl
theorem aBi {n : Nat} {ts : Ts} (F : Fine n ts) : Fine n (revT ts):=by
 refine ⟨F.n1,F.n2,?_,fun t ht=>?_,fun t ht=>?_,fun h=>?_,fun h=>?_,fun a b ha hb=>?_⟩
 ·exact List.Pairwise.map _ (fun a b hab e=>hab (Prod.ext (congrArg Prod.snd e) (congrArg Prod.fst e))) (List.nodup_iff_pairwise_ne.mp F.nd)
 ·obtain ⟨u,hu,rfl⟩:=List.mem_map.mp ht
  exact ⟨(F.rg u hu).2,(F.rg u hu).1⟩
 ·obtain ⟨u,hu,rfl⟩:=List.mem_map.mp ht
  exact fun e=>F.ne u hu e.symm
 ·rw [wH,aCE]; exact (F.bal h).symm
 ·rw [wH,← F.bal h]; exact F.most h
 ·obtain ⟨k,w⟩:=F.con b a hb ha
  exact ⟨k,lY w⟩
theorem aCF {n : Nat} {ts : Ts} (F : Fine n ts) {a b : Nat} (ha : a < n) (hb : b < n) : far (revT ts) a b = far ts b a:=by
 have h:=F.fars hb ha
 exact tI ⟨lY h.1,fun k w=>h.2 k (uK w)⟩
end K61
namespace K61
open PySem L2 NetM
section
variable {n : Nat} {g : Nat→List Nat} {hs ns : List Int} {m L : Nat} {ss ls : Nat→List (Option Nat)}
theorem LogR.goes (R : LogR n g hs L ss ls ns) {b i h : Nat} (hb : b < L) (e : (ss b).getD i none = some h) : ∃ o,(ls b).getD i none = some o∧T (tsOf n g) h o:=by
 obtain ⟨o,e1,e2⟩:=(R.tie b hb).tie i h e
 exact ⟨o,e1,T_ts.mpr ⟨R.lt b (Nat.le_of_lt hb) i h e,e2⟩⟩
theorem LogR.track (R : LogR n g hs L ss ls ns) : ∀ (d b i h o h' : Nat),(ss b).getD i none = some h→(ls b).getD i none = some o→b + 1 + d ≤ L→(ss (b + 1 + d)).getD i none = some h'→Walk (tsOf n g) d o h'
 | d,b,i,h,o,h',e1,e2,hl,e3=>by
  have nx:=R.next b (by omega) i (by rw [e1]; intro z; cases z)
  rw [e2] at nx
  have ne : (ss (b + 1)).getD i none ≠ none:=fun z=>by
   have:=R.out b (by omega) i (by rw [e1]; intro z; cases z) z (b + 1 + d) (by omega) hl
   rw [e3] at this; cases this
  have so : (ss (b + 1)).getD i none = some o:=by
   rw [nx] at ne ⊢
   show (if (o : Int) = hs.getD i 0 then none else some o) = some o
   by_cases z : (o : Int) = hs.getD i 0
   ·exact absurd (if_pos z) ne
   ·exact if_neg z
  cases d with
  | zero =>
   rw [Nat.add_zero,so] at e3
   exact Option.some.inj e3
  | succ d =>
   obtain ⟨o',e4,t⟩:=R.goes (b:=b + 1) (by omega) so
   have:=R.track d (b + 1) i o o' h' so e4 (by omega) (by rw [show b + 1 + 1 + d = b + 1 + (d + 1) by omega]; exact e3)
   exact Walk.cons t this
theorem LogR.once (R : LogR n g hs L ss ls ns) {b c i h h' o : Nat} (hb : b < L) (hc : c < L) (e1 : (ss b).getD i none = some h) (e2 : (ls b).getD i none = some o) (ho : (o : Int) = hs.getD i 0) (e3 : (ss c).getD i none = some h') : c ≤ b:=by
 by_cases z : c ≤ b
 ·exact z
 ·have nx:=R.next b hb i (by rw [e1]; intro z; cases z)
  rw [e2] at nx
  have n0 : (ss (b + 1)).getD i none = none:=nx.trans (if_pos ho)
  have:=R.out b hb i (by rw [e1]; intro z; cases z) n0 c (by omega) (by omega)
  rw [e3] at this; cases this
theorem uL (R : LogR n g hs L ss ls ns) {c h0 : Nat} {zs : List Int} : ∀ {k h : Nat},cU m L ss ls c h0 zs k = some h→Walk (tsOf n g) k h0 h∧(0 < k→∃ i x : Nat,zs.getD (k - 1) 0 = i∧i < m∧c + (k - 1) < L∧(ss (c + (k - 1))).getD i none = some x∧(ls (c + (k - 1))).getD i none = some h∧T (tsOf n g) x h)
 | 0,h,e=>⟨Option.some.inj e,fun z=>absurd z (by omega)⟩
 | k + 1,h,e=>by
  cases e0 : cU m L ss ls c h0 zs k with
  | none=>unfold cU at e; rw [e0] at e; cases e
  | some x =>
   by_cases s : eG m L ss (zs.getD k 0) ((c + k : Nat) : Int) x = true
   ·have e':=lX e0 s
    rw [e'] at e
    obtain ⟨i,b,h1,h2,h3,h4,h5⟩:=jO s
    obtain rfl : c + k = b:=by omega
    obtain ⟨o,e1,t⟩:=R.goes h4 h5
    have ho : h = o:=by
     rw [h1,Int.toNat_natCast,e1] at e
     exact (Option.some.inj e).symm
    subst ho
    exact ⟨⟨x,(uL R e0).1,t⟩,fun _=>⟨i,x,h1,h3,h4,h5,e1,t⟩⟩
   ·have:=jZ e0 s 0
    rw [Nat.add_zero] at this
    rw [this] at e; cases e
structure Chn (n : Nat) (g : Nat→List Nat) (hs : List Int) (m L : Nat) (ss ls : Nat→List (Option Nat)) (j c M d o h0 : Nat) : Prop where
 M1 : 0 < M
 one : M = 1→d ≠ j
 dm : d < m
 cl : c < L
 s0 : (ss c).getD j none = some h0
 o0 : (ls c).getD j none = some o
 en : c + (M - 1) < L
 hm : ∃ x e : Nat,(ss (c + (M - 1))).getD d none = some x∧(ls (c + (M - 1))).getD d none = some e∧(e : Int) = hs.getD d 0∧T (tsOf n g) x e∧Walk (tsOf n g) M h0 e
theorem aAA (R : LogR n g hs L ss ls ns) {j c : Nat} {zs : List Int} (h : jN hs m L ss ls j c zs = true) : ∃ d o h0 : Nat,zs.getD (zs.length - 1) 0 = d∧zs ≠ []∧Chn n g hs m L ss ls j c zs.length d o h0:=by
 unfold jN at h
 rw [Bool.and_eq_true,Bool.and_eq_true,Bool.and_eq_true] at h
 obtain ⟨h1,h2,h3,h4⟩:=h
 obtain ⟨j',c',h0,e1,e2,h5,h6,h7⟩:=iP h1
 obtain rfl : j = j':=Int.ofNat.inj e1
 obtain rfl : c = c':=Int.ofNat.inj e2
 have zne : zs ≠ []:=by rintro rfl; cases h2
 have zl : 0 < zs.length:=List.length_pos_iff.mpr zne
 rw [Int.toNat_natCast,Int.toNat_natCast,h7] at h4
 cases ew : cU m L ss ls c ((some h0).getD 0) zs zs.length with
 | none=>rw [ew] at h4; cases h4
 | some e =>
  rw [ew] at h4
  have he:=of_decide_eq_true h4
  obtain ⟨w,k⟩:=uL R ew
  obtain ⟨d,x,q1,q2,q3,q4,q5,q6⟩:=k zl
  obtain ⟨o,e3,_⟩:=R.goes h6 h7
  rw [q1,Int.toNat_natCast] at he
  refine ⟨d,o,h0,q1,zne,zl,fun z1 z2=>?_,q2,h6,h7,e3,q3,x,e,q4,q5,he,q6,w⟩
  rw [z1] at q1
  rw [show (1 : Nat) - 1 = 0 from rfl] at q1
  rw [q1,z2] at h3
  simp at h3
theorem aBj (R : LogR n g hs L ss ls ns) (F : Fine n (tsOf n g)) {j c M o h0 : Nat} (C : Chn n g hs m L ss ls j c M j o h0) : ∃ e : Nat,(e : Int) = hs.getD j 0∧e < n∧far (tsOf n g) o e < M:=by
 obtain ⟨x,e,q1,q2,q3,q4,q5⟩:=C.hm
 have M2 : 2 ≤ M:=by
  have:=C.M1
  by_cases z : M = 1
  ·exact absurd rfl (C.one z)
  ·omega
 have w:=R.track (M - 2) c j h0 o x C.s0 C.o0 (by have:=C.en; omega) (by rw [show c + 1 + (M - 2) = c + (M - 1) by omega]; exact q1)
 have w2 : Walk (tsOf n g) (M - 2 + 1) o e:=⟨x,w,q4⟩
 obtain ⟨o',e1,t⟩:=R.goes C.cl C.s0
 obtain rfl : o = o':=by rw [C.o0] at e1; exact Option.some.inj e1
 have:=F.far_le (F.tlt t).2.1 (F.tlt q4).2.1 w2
 exact ⟨e,q3,(F.tlt q4).2.1,by omega⟩
theorem aCG (R : LogR n g hs L ss ls ns) (F : Fine n (tsOf n g)) {j c M d o h0 c' M' o' h0' : Nat} (C : Chn n g hs m L ss ls j c M d o h0) (C' : Chn n g hs m L ss ls j c' M' d o' h0') (hc : c < c') : ∃ e : Nat,(e : Int) = hs.getD d 0∧e < n∧far (tsOf n g) o e < M:=by
 obtain ⟨x,e,q1,q2,q3,q4,q5⟩:=C.hm
 obtain ⟨x',e',r1,r2,r3,r4,r5⟩:=C'.hm
 have a1:=R.once C.en C'.en q1 q2 q3 r1
 have a2:=R.once C'.en C.en r1 r2 r3 q1
 have b1:=C.M1
 have b2:=C'.M1
 have w:=R.track (c' - c - 1) c j h0 o h0' C.s0 C.o0 (by have:=C'.cl; omega) (by rw [show c + 1 + (c' - c - 1) = c' by omega]; exact C'.s0)
 have w2:=w.trans r5
 obtain ⟨o2,e1,t⟩:=R.goes C.cl C.s0
 obtain rfl : o = o2:=by rw [C.o0] at e1; exact Option.some.inj e1
 have:=F.far_le (F.tlt t).2.1 (F.tlt r4).2.1 w2
 exact ⟨e',r3,(F.tlt r4).2.1,by omega⟩
end
end K61
namespace K61
open PySem L2 NetM
open K12 (zr zp PO prT Zs fX fY fN cL)
abbrev pJ : Stmt:=top 36
abbrev sFar : Stmt:=top 37
abbrev xZ : Stmt:=top 38
theorem nbOH : (["_law_other", "_law_house"] : List Str).Nodup:=by decide +kernel
theorem nvAt {xs : List Nat} {i : Nat} {x : V} (h : (NV xs)[i]? = some x) : ∃ z,xs[i]? = some z∧x = .int (z : Nat):=by
 rw [List.getElem?_map] at h
 obtain ⟨z,hz,rfl⟩:=Option.map_eq_some_iff.mp h
 exact ⟨z,hz,rfl⟩
theorem aBk {K : PySem.W.Frag} {a D : Addr} {xs : List Nat} {g : TG} {tt : TT} {te : TE} {fin : Hp→Prop} {σB : St} {H0 : Hp} (F : Nat→Int × Int) (shape : St→Prop) (ha : H0 a = some (.lst (NV xs))) (hD : H0 D = none) (hn : xs.length ≤ 100000) (h0 : shape σB)
  (hs : ∀ x σ H (R : V→St→Hp→Prop) (Kf : St→Hp→Prop),x∈xs→shape σ→Same H0 H→(∀ σ2 p,shape σ2→H p = none→R (.ref p) σ2 (upd H p (prT (F x))))→g (.int (x : Nat)) σ H fun σ2 H2=>tt σ2 H2 fun b H3=>if b = true then te σ2 H3 fun v H4=>R v σ2 H4 else Kf σ2 H3)
  (hd : ∀ zs H,Same H0 H→H D = some (.lst (zr zs))→PO H zs→zp zs = xs.map F→fin H) : hV (Itl K a) g tt te D fin σB (upd H0 D (.lst [])):=by
 refine dZ (xs:=NV xs) (fun i ys σ H=>shape σ∧Same H0 H∧H D = some (.lst ys)∧∃ zs : Zs,ys = zr zs∧PO H zs∧zp zs = (xs.take i).map F) ⟨h0,aG hD,aB,[],rfl,K12.PO.nil,rfl⟩ (fun i ys σ H _ z=>SqL.of (z.2.1 _ _ ha)) ?_ ?_
 ·rintro i x ys σ H Kt Kf hx ⟨sh,sm,hDl,zs,rfl,po,ep⟩ kt kf
  obtain ⟨z,hz,rfl⟩:=nvAt hx
  have hi : i < xs.length:=(List.getElem?_eq_some_iff.mp hz).1
  have hl : zs.length = i:=by rw [← cL,ep,List.length_map,List.length_take]; omega
  have tk : xs.take (i + 1) = xs.take i ++ [z]:=by rw [List.take_add_one,hz]; rfl
  refine hs z σ H Kt Kf (List.mem_of_getElem? hz) sh sm (fun σ2 p sh2 hp=>?_)
  have nD : D ≠ p:=aF hDl hp
  refine kt _ _ _ (by rw [aD nD]; exact hDl) (by rw [fN,hl]; exact Nat.lt_of_lt_of_le hi (Nat.le_trans hn (by decide))) ⟨sh2,K12.dL (sm.trans (aG hp)) hD,aB,zs ++ [(p,F z)],?_,?_,?_⟩
  ·rw [fX]; rfl
  ·intro y hy
   rcases List.mem_append.mp hy with q | q
   ·have e:=po y q
    rw [aD (bO e hDl (by intro w; cases w)),aD (aF e hp)]; exact e
   ·rw [List.mem_singleton.mp q,aD nD.symm,aB]
  ·rw [fY,ep,tk,List.map_append]; rfl
 ·rintro ys σ H ⟨_,sm,hDl,zs,rfl,po,ep⟩
  rw [show (NV xs).length = xs.length from List.length_map _,List.take_length] at ep
  exact hd zs H sm hDl po ep
section
variable {P : Program} {w : World} {K : PySem.W.Frag} {mg : Str→Option Value} {base : Heap}
theorem qK : aY ["_law_outs", "_law_found", "_law_house"] ["_law_outs"] (aI pJ):=⟨rfl,rfl,rfl,by decide +kernel,rfl,by decide +kernel,by decide +kernel⟩
def qL : Sp:=fun vs H Q _=>∃ (O : Addr) (as : List Addr) (n : Nat) (g : Nat→List Nat),vs = [.ref O]∧cH H O as n g∧Good n g∧n ≤ 32∧∀ (l : Addr) (zs : Zs) (H' : Hp),Same H H'→H l = none→H' l = some (.lst (zr zs))→PO H' zs→zp zs = tsOf n g→Q (.ref l) H'
theorem aAB {n : Nat} {g : Nat→List Nat} (G : Good n g) : ∀ k,k ≤ n→(tsTo g k).length ≤ 8 * k
 | 0,_=>by simp [tsTo]
 | k + 1,h=>by
  rw [iE,List.length_append,List.length_map]
  have:=aAB G k (by omega)
  have:=G.le k (by omega)
  omega
theorem aBl {f : Addr} {fd : FuncData} (F : Fun K "_law_ties" "_law_ties" pJ f fd) : FnOk P w K mg base CX0 1 f fd ["_law_outs"] qL:=by
 refine F.ok qK (fun vs H Q E h=>?_) (fun cdv A outer s H vs Q E hr h=>?_)
 ·obtain ⟨O,as,n,g,rfl,_⟩:=h
  rfl
 ·obtain ⟨O,as,n,g,rfl,hO,G,n32,q⟩:=h
  have hu : (A.deeper (PyProof.Rows.envOfC "_law_ties" (aI pJ) s.heap.objs.size f cdv)).units + 1 < cLine:=by have:=hr.un; omega
  refine' ⟨_,aH (aV (i:=1) qK.nd rfl (Or.inl rfl) (cG aE))
   (aH (bW PassesOwn.never rfl (uB (pv 0)) (aM (i:=2) qK.nd rfl (Or.inr rfl)) (aK (bR (eA PySem.F.plainAttrs_list PySem.F.slot_list_extend PySem.F.type_list_extend qU (pv 1) (aA ?c aE)))))
   (aK (bB (pv 1)))),?_⟩
  case c =>
   refine' cZ (g:=bG 0) (te:=tTup (bV (tVar 1) (bV (tVar 0) tNil))) (NB:=["_law_other", "_law_house"]) (src:=[none,some 2]) (bZ (by kernel_rfl)) rfl (cF (dA hu (pv 0) (pv 2) (fun _ _=>rfl))) ?g ?t ?e
   case g=>exact fun cl C s₃ H₃ fp=>aM (i:=0) nbOH rfl (Or.inl rfl) (Or.inr rfl)
   case t=>exact fun cl C s₃ H₃ fp=>dU
   case e=>exact fun cl C s₃ H₃ fp=>fK (aA (pv 1) (aA (pv 0) aE))
  refine ⟨by show 0 ≤ sizeLine; decide,fun F' hF=>?_⟩
  obtain ⟨o,hd⟩:=hO.dict
  refine ⟨_,rfl,O,_,o,rfl,aG hF _ _ hd,?_⟩
  refine nE (fun i σ H3=>(∃ v,σ = [some (.ref O),some (.ref F'),v])∧Same H H3∧∃ zs : Zs,H3 F' = some (.lst (zr zs))∧PO H3 zs∧zp zs = tsTo g i) ⟨⟨_,rfl⟩,aG hF,[],aB,K12.PO.nil,rfl⟩ (fun i σ H3 _ z=>z.2.1 _ _ hd) ?_ ?_
  ·rintro i k v σ H3 hk ⟨⟨v',rfl⟩,sm,zs,hF3,po,ez⟩
   obtain ⟨hi,rfl⟩:=jX hk
   change bG 2 (V.int (i : Int)) _ _ _
   have hO3:=hO.same sm
   refine ⟨_,rfl,.inl ⟨rfl,_,SqL.of hF3⟩,_,rfl,_,rfl,O,_,rfl,hO3.get hi,as.getD i 0,rfl,⟨_,SqL.of (hO3.rows.2 i hi)⟩,fun D hD=>?_⟩
   have l8:=G.le i hi
   refine aBk (xs:=g i) (fun x=>(ci i,ci x)) (fun σ=>∃ a,σ = [a,some (.int (i : Int))]) (hO3.rows.2 i hi) hD (by omega) ⟨_,rfl⟩ ?_ ?_
   ·rintro x σ H4 R Kf hx ⟨a,rfl⟩ sm4 kr
    exact ⟨_,rfl,_,rfl,by show 2 ≤ sizeLine; decide,fun p hp=>kr _ p ⟨_,rfl⟩ hp⟩
   ·intro zs' H4 sm4 hD4 po4 ez4
    have hF4:=sm4 _ _ hF3
    have nFD : F' ≠ D:=aF hF3 hD
    have lz : (zr zs).length ≤ 256:=by rw [fN,← cL,ez]; have:=aAB G i (by omega); omega
    have lz' : (zr zs').length ≤ 8:=by rw [fN,← cL,ez4,List.length_map]; exact l8
    refine ⟨F',D,_,_,rfl,rfl,hF4,hD4,Nat.le_trans (show (zr zs).length + (zr zs').length ≤ 264 by omega) (by decide),⟨_,rfl⟩,K12.dL (sm.trans sm4) hF,zs ++ zs',by rw [fX]; exact aB,?_,by rw [fY,ez,ez4,iE]⟩
    intro y hy
    have e : H4 y.1 = some (prT y.2):=(List.mem_append.mp hy).elim (fun z=>sm4 _ _ (po y z)) (po4 y)
    rw [aD (bO e hF4 (by intro w; cases w))]; exact e
  ·rintro σ H3 ⟨⟨v',rfl⟩,sm,zs,hF3,po,ez⟩
   rw [cD] at ez
   exact ⟨_,rfl,q F' zs H3 sm hF hF3 po ez⟩
end
end K61
namespace K61
open PySem L2 NetM
open K12 (zr zp PO prT Zs fX fY fN cL)
def dkf (f : Nat→Nat) (xs : List Nat) : List (Key × V):=xs.map fun (x : Nat)=>(Sum.inl (x : Int),V.int ((f x : Nat) : Int))
theorem aCH {f : Nat→Nat} {xs : List Nat} : (dkf f xs).length = xs.length:=List.length_map _
theorem mR {f : Nat→Nat} {x : Nat} : ∀ {xs : List Nat},valV (dkf f xs) (Sum.inl (x : Int)) = if x∈xs then some (.int ((f x : Nat) : Int)) else none
 | []=>rfl
 | y :: ys=>by
  unfold dkf
  rw [List.map_cons]
  by_cases e : y = x
  ·subst e
   rw [eD rfl,if_pos List.mem_cons_self]
  ·have e2 : ¬ ((Sum.inl (y : Int) : Key) = Sum.inl (x : Int)):=fun z=>e (Int.ofNat.inj (Sum.inl.inj z))
   rw [eE e2]
   have ih:=mR (f:=f) (x:=x) (xs:=ys)
   unfold dkf at ih
   rw [ih]
   by_cases h : x∈ys
   ·rw [if_pos h,if_pos (List.mem_cons_of_mem _ h)]
   ·rw [if_neg h,if_neg (fun z=>(List.mem_cons.mp z).elim (fun q=>e q.symm) h)]
theorem aCI {f : Nat→Nat} {x k : Nat} {xs : List Nat} (h : x ∉ xs) : putK (dkf f xs) (Sum.inl (x : Int)) (.int ((k : Nat) : Int)) = dkf (put f x k) (xs ++ [x]):=by
 rw [jE _ (by rw [mR,if_neg h])]
 unfold dkf
 rw [List.map_append,List.map_cons,List.map_nil,fS]
 congr 1
 refine List.map_congr_left fun y hy=>?_
 rw [dG (show y ≠ x from fun z=>h (z ▸ hy))]
def iA (H : Hp) (D : Addr) (n : Nat) (f : Nat→Nat) : Prop:=∃ Rs : List Nat,H D = some (.dK (dkf f Rs))∧∀ x,x < n→x∈Rs
theorem iA.same {H H' : Hp} {D : Addr} {n : Nat} {f : Nat→Nat} (h : iA H D n f) (s : Same H H') : iA H' D n f:=let ⟨R,a,b⟩:=h; ⟨R,s _ _ a,b⟩
theorem iA.get {H : Hp} {D : Addr} {n : Nat} {f : Nat→Nat} (h : iA H D n f) {x : Nat} (hx : x < n) : DGet H D (.int (x : Int)) (some (.int ((f x : Nat) : Int))):=by
 obtain ⟨R,a,b⟩:=h
 have:=DGet.k (k:=Sum.inl (x : Int)) a
 rw [mR,if_pos (b x hx)] at this
 exact this
section
variable {P : Program} {w : World} {K : PySem.W.Frag} {mg : Str→Option Value} {base : Heap}
theorem jV : aY ["_law_outs", "_law_home", "_law_far_here", "_law_row", "_law_at", "_law_house"] ["_law_outs", "_law_home"] (aI sFar):=⟨rfl,rfl,rfl,by decide +kernel,rfl,by decide +kernel,by decide +kernel⟩
def sB : Sp:=fun vs H Q _=>∃ (O : Addr) (as : List Addr) (n : Nat) (g : Nat→List Nat) (s : Nat),vs = [.ref O,.int s]∧cH H O as n g∧Fine n (tsOf n g)∧s < n∧∀ (r : Addr) (H' : Hp),Same H H'→H r = none→iA H' r n (fun x=>far (tsOf n g) x s)→Q (.ref r) H'
theorem aBm {xs : List Nat} {v : Nat} : NV (xs ++ [v]) = NV xs ++ [.int (v : Int)]:=by unfold NV; rw [List.map_append]; rfl
theorem aDy {f : Addr} {fd : FuncData} (F : Fun K "_law_far" "_law_far" sFar f fd) (B : Bl mg) : FnOk P w K mg base CX0 1 f fd ["_law_outs", "_law_home"] sB:=by
 refine F.ok jV (fun vs H Q E h=>?_) (fun cdv A outer s H vs Q E hr h=>?_)
 ·obtain ⟨O,as,n,g,s,rfl,_⟩:=h
  rfl
 ·obtain ⟨O,as,n,g,st,rfl,hO,Fi,hs,k⟩:=h
  have fi:=aBi Fi
  have n1:=fi.n1
  have n2:=fi.n2
  have hu : (A.deeper (PyProof.Rows.envOfC "_law_far" (aI sFar) s.heap.objs.size f cdv)).units + 1 < cLine:=by have:=hr.un; omega
  refine' ⟨_,aH (aV (i:=2) jV.nd rfl (Or.inl rfl) (aB0 (aAT (pv 1) aJ aBZ) rfl rfl (by simp) (by decide)))
   (aH (aV (i:=3) jV.nd rfl (Or.inl rfl) (cG (aA (pv 1) aE)))
   (aH (aV (i:=4) jV.nd rfl (Or.inl rfl) aJ)
   (aH (sG PassesOwn.never (aZ iG (pv 4) (aQ aT (by rfl) B.len PySem.boot_len (aA (pv 3) aE)) (aX _))
    (aH (bW PassesOwn.never rfl (uB (pv 0)) (aM (i:=5) jV.nd rfl (Or.inl rfl))
     (aK (bN (PW.pt (iZ (iC (rC hu (pv 5) (pv 2))) (iQ (aZ lG (aO aR (pv 3) (pv 4) (fun _ _=>rfl)) (dA hu (pv 0) (pv 5) (fun _ _=>rfl)) (by rfl)))))
      (aH (kE hu (pv 2) (pv 5) (bA bX (dA hu (pv 2) (aO aR (pv 3) (pv 4) (fun _ _=>rfl)) (fun _ _=>rfl)) aJ) rfl)
      (aK (bR (eA PySem.F.plainAttrs_list PySem.F.slot_list_append PySem.F.type_list_append dD (pv 3) (aA (pv 5) aE))))) bE)))
    (aK (aV (i:=4) jV.nd rfl (Or.inl rfl) (bA bX (pv 4) aJ)))))
   (aK (bB (pv 2)))))),?_⟩
  obtain ⟨o,hd⟩:=hO.dict
  refine fun D hD=>⟨_,rfl,aB,[(Sum.inl (st : Int),.int 0)],rfl,by show 1 ≤ 15; decide,?_⟩
  rw [dR]
  have e0 : kF [] [(Sum.inl (st : Int),V.int 0)] = dkf (fun _=>0) [st]:=rfl
  rw [e0]
  have smD : Same H (upd H D (.dK (dkf (fun _=>0) [st]))):=aG hD
  refine ⟨_,rfl,by show 1 ≤ sizeLine; decide,fun R hR=>?_⟩
  have nDR : D ≠ R:=aF (H:=upd H D (.dK (dkf (fun _=>0) [st]))) aB hR
  have hR0 : H R = none:=smD.free hR
  refine sI (fun σ H2=>∃ (i : Nat) (Rs : List Nat) (f : Nat→Nat),i ≤ Rs.length∧Bfs n (revT (tsOf n g)) st i Rs f∧(∃ a,σ = [some (.ref O),some (.int st),some (.ref D),some (.ref R),some (.int (i : Int)),a])∧Same H H2∧H2 D = some (.dK (dkf f Rs))∧H2 R = some (.lst (NV Rs)))
   (fun σ _=>n - K12.aBy σ) ⟨0,[st],fun _=>0,Nat.zero_le _,Bfs.start hs,⟨none,rfl⟩,smD.trans (aG hR),by rw [aD nDR,aB],aB⟩ ?_ ?_
  ·rintro σ H2 ⟨i,Rs,f,hi,Bf,⟨a,rfl⟩,sm,hD2,hR2⟩
   have hRn : Rs.length ≤ n:=dX Bf.nd Bf.lt
   refine ⟨_,rfl,_,rfl,R,_,rfl,.inl (SqL.of hR2),_,_,rfl,rfl,_,rfl,?_⟩
   rw [show (NV Rs).length = Rs.length from List.length_map _]
   by_cases hin : i < Rs.length
   ·rw [show decide ((i : Int) < ((Rs.length : Nat) : Int)) = true by simp; omega]
    refine iteT ?_
    have hu' : Rs[i]? = some Rs[i]:=List.getElem?_eq_getElem hin
    generalize Rs[i] = u at hu'
    refine ⟨_,rfl,O,_,o,rfl,sm _ _ hd,?_⟩
    refine nE (fun j σ H3=>∃ (Rs' : List Nat) (f' : Nat→Nat),Bfs n (revT (tsOf n g)) st i Rs' f'∧Rs'[i]? = some u∧(∀ v,v < j→T (revT (tsOf n g)) u v→v∈Rs'∧f' v ≤ f' u + 1) ∧
      (∃ b,σ = [some (.ref O),some (.int st),some (.ref D),some (.ref R),some (.int (i : Int)),b])∧Same H H3∧H3 D = some (.dK (dkf f' Rs'))∧H3 R = some (.lst (NV Rs')))
      ⟨Rs,f,Bf,hu',fun v hv=>absurd hv (by omega),⟨_,rfl⟩,sm,hD2,hR2⟩ (fun j σ H3 _ ⟨_,_,_,_,_,_,sm3,_⟩=>sm3 _ _ hd) ?_ ?_
    ·rintro v k0 v0 σ H3 hk ⟨Rs',f',Bf',hu2,dn,⟨b',rfl⟩,sm3,hD3,hR3⟩
     obtain ⟨hvn,rfl⟩:=jX hk
     change bG 5 (V.int (v : Int)) _ _ _
     have hO3:=hO.same sm3
     have huR : (NV Rs')[i]? = some (.int (u : Int)):=by rw [List.getElem?_map,hu2]; rfl
     have hun' : u∈Rs':=List.mem_of_getElem? hu2
     have hi' : i < Rs'.length:=(List.getElem?_eq_some_iff.mp hu2).1
     have hlen' : Rs'.length ≤ n:=dX Bf'.nd Bf'.lt
     have gD : ∀ x : Nat,DGet H3 D (.int (x : Int)) (if x∈Rs' then some (.int ((f' x : Nat) : Int)) else none):=fun x=>by
      have:=DGet.k (k:=Sum.inl (x : Int)) hD3
      rw [mR] at this
      exact this
     have Tiff : T (revT (tsOf n g)) u v↔u∈g v:=by rw [xY,T_ts]; exact ⟨fun z=>z.2,fun z=>⟨hvn,z⟩⟩
     refine ⟨_,rfl,_,rfl,D,_,rfl,gD v,_,rfl,?_⟩
     by_cases hvR : v∈Rs'
     ·rw [if_pos hvR]
      refine iteF ⟨Rs',f',Bf',hu2,fun x hx t=>?_,⟨_,rfl⟩,sm3,hD3,hR3⟩
      by_cases e : x = v
      ·subst e; exact ⟨hvR,Bf'.bd u hu2 _ hvR⟩
      ·exact dn x (by omega) t
     ·rw [if_neg hvR]
      refine iteT ?_
      refine ⟨_,rfl,_,rfl,R,_,_,_,rfl,rfl,SqL.of hR3,bQ huR,_,rfl,_,rfl,O,_,rfl,hO3.get hvn,as.getD v 0,NV (g v),rfl,.inl (SqL.of (hO3.rows.2 v hvn)),rfl,nL,_,rfl,?_⟩
      rw [mK]
      refine ite2 (fun e=>?_) (fun e=>?_)
      ·have tuv : T (revT (tsOf n g)) u v:=Tiff.mpr (of_decide_eq_true e)
       have g2:=gD u
       rw [if_pos hun'] at g2
       refine ⟨_,rfl,_,rfl,_,rfl,R,_,_,_,rfl,rfl,SqL.of hR3,bQ huR,D,_,rfl,g2,_,_,rfl,rfl,_,rfl,_,rfl,D,_,rfl,DPut.k (k:=Sum.inl (v : Int)) hD3 (by rw [aCH]; exact Nat.lt_of_lt_of_le (show Rs'.length < 33 by omega) (by decide)),?_⟩
       have e1 : putK (dkf f' Rs') (Sum.inl (v : Int)) (V.int (((f' u : Nat) : Int) + 1)) = dkf (put f' v (f' u + 1)) (Rs' ++ [v]):=by
        rw [show ((f' u : Nat) : Int) + 1 = ((f' u + 1 : Nat) : Int) by omega,aCI hvR]
       rw [e1]
       have hR4 : (upd H3 D (.dK (dkf (put f' v (f' u + 1)) (Rs' ++ [v])))) R = some (.lst (NV Rs')):=by rw [aD nDR.symm]; exact hR3
       refine ⟨_,rfl,.inl ⟨rfl,_,SqL.of hR4⟩,_,rfl,R,_,_,rfl,rfl,hR4,by rw [List.length_map]; exact Nat.lt_of_lt_of_le (show Rs'.length < 33 by omega) (by decide),?_⟩
       have nuv : u ≠ v:=fun z=>hvR (z ▸ hun')
       refine ⟨Rs' ++ [v],put f' v (f' u + 1),Bf'.add hu2 hvn tuv hvR,by rw [List.getElem?_append_left hi']; exact hu2,fun x hx t=>?_,⟨_,rfl⟩,K12.dL (K12.dL sm3 hD) hR0,?_,?_⟩
       ·rw [dG nuv]
        by_cases e : x = v
        ·subst e
         exact ⟨by simp,by rw [fS]; exact Nat.le_refl _⟩
        ·obtain ⟨q1,q2⟩:=dn x (by omega) t
         exact ⟨List.mem_append_left _ q1,by rw [dG e]; exact q2⟩
       ·rw [aD nDR,aB]
       ·rw [aB,aBm]
      ·have e' : ¬ u∈g v:=fun z=>e (decide_eq_true z)
       refine ⟨Rs',f',Bf',hu2,fun x hx t=>?_,⟨_,rfl⟩,sm3,hD3,hR3⟩
       by_cases ex : x = v
       ·subst ex; exact absurd (Tiff.mp t) e'
       ·exact dn x (by omega) t
    ·rintro σ H3 ⟨Rs',f',Bf',hu2,dn,⟨b',rfl⟩,sm3,hD3,hR3⟩
     rw [cD] at dn
     have hi' : i < Rs'.length:=(List.getElem?_eq_some_iff.mp hu2).1
     have hlen' : Rs'.length ≤ n:=dX Bf'.nd Bf'.lt
     refine ⟨_,rfl,_,_,rfl,rfl,⟨i + 1,Rs',f',hi',Bf'.next hu2 (fun v t=>dn v (fi.tlt t).2.1 t),⟨_,rfl⟩,sm3,hD3,hR3⟩,?_⟩
     show n - ((i : Int) + 1).toNat < n - ((i : Int)).toNat
     omega
   ·rw [show decide ((i : Int) < ((Rs.length : Nat) : Int)) = false by simp; omega]
    refine iteF ?_
    refine ⟨_,rfl,k D H2 sm hD ⟨Rs,?_,fun x hx=>(Bf.done fi (by omega) hx).1⟩⟩
    have e : dkf f Rs = dkf (fun x=>far (tsOf n g) x st) Rs:=by
     unfold dkf
     refine List.map_congr_left fun x hx=>?_
     have hx':=Bf.lt x hx
     rw [(Bf.done fi (by omega) hx').2,aCF Fi hs hx']
    rw [← e]; exact hD2
  ·rintro σ H2 Q1 Q2 imp ⟨v,e1,v2,e2,p,ys,e3,e4,i1,i2,e5,e6,kk,e7,q⟩
   exact ⟨v,e1,v2,e2,p,ys,e3,e4,i1,i2,e5,e6,kk,e7,imp _ _ q⟩
end
end K61
namespace K61
open PySem L2 NetM
open K12 (zr zp PO prT Zs fX fY fN cL)
theorem aEb : (["_law_home", "_law_outs"] : List Str).Nodup:=by decide +kernel
structure kN (H : Hp) (r : Addr) (ds : List Addr) (n : Nat) (g : Nat→List Nat) : Prop where
 dict : H r = some (.dK (aW ds n))
 rows : ∀ j,j < n→iA H (ds.getD j 0) n (fun x=>far (tsOf n g) x j)
theorem kN.sameE {H H' : Hp} {p r : Addr} {ds : List Addr} {n : Nat} {g : Nat→List Nat} (h : kN H r ds n g) (s : aL p H H') (hp : aN H p) : kN H' r ds n g:=by
 obtain ⟨a,b,e,_⟩:=hp
 exact ⟨s _ _ h.dict (bO h.dict e (by intro z; cases z)),fun j hj=>let ⟨R,x,y⟩:=h.rows j hj; ⟨R,s _ _ x (bO x e (by intro z; cases z)),y⟩⟩
section
variable {P : Program} {w : World} {K : PySem.W.Frag} {mg : Str→Option Value} {base : Heap}
theorem aDz : aY ["_law_outs"] ["_law_outs"] (aI xZ):=⟨rfl,rfl,rfl,by decide +kernel,rfl,by decide +kernel,by decide +kernel⟩
def uM : Sp:=fun vs H Q _=>∃ (O : Addr) (as : List Addr) (n : Nat) (g : Nat→List Nat),vs = [.ref O]∧bC H O as n g∧Fine n (tsOf n g)∧∀ (r : Addr) (ds : List Addr) (H' : Hp),kN H' r ds n g→cH H' O as n g→aL O H H'→H r = none→Q (.ref r) H'
theorem aCJ {f : Addr} {fd : FuncData} (F : Fun K "_law_fars" "_law_fars" xZ f fd) (B : Bl mg) (FA : Cal P w K mg base CX0 1 "_law_far" ["_law_outs", "_law_home"] sB) : FnOk P w K mg base CX0 2 f fd ["_law_outs"] uM:=by
 refine F.ok aDz (fun vs H Q E h=>?_) (fun cdv A outer s H vs Q E hr h=>?_)
 ·obtain ⟨O,as,n,g,rfl,_⟩:=h
  rfl
 ·obtain ⟨O,as,n,g,rfl,hO,Fi,q⟩:=h
  have n2:=Fi.n2
  refine' ⟨_,aK (bB (bT (oN rfl) (by rfl) B.dict PyProof.Rows.boot_dict (aA ?c aE))),?_⟩
  case c =>
   refine' cZ (g:=bG 0) (te:=tTup (bV (tVar 0) (bV (mC sB [] E0 (bV (tVar 1) (bV (tVar 0) tNil))) tNil))) (NB:=["_law_home", "_law_outs"]) (src:=[none,some 0]) (bZ (by kernel_rfl)) rfl (vW (pv 0)) ?g ?t ?e
   case g=>exact fun cl C s₃ H₃ fp=>aM (i:=0) aEb rfl (Or.inl rfl) (Or.inr rfl)
   case t=>exact fun cl C s₃ H₃ fp=>dU
   case e=>exact fun cl C s₃ H₃ fp=>fK (aA (pv 0) (aA (aS FA hr aU (aA (pv 1) (aA (pv 0) aE))) aE))
  refine ⟨_,rfl,O,_,rfl,hO.dict,fun o D hD=>?_⟩
  have hf1 : (upd H O (.frz o (.dK (aW as n)))) O = some (.frz o (.dK (aW as n))):=aB
  have nOas : ∀ j,j < n→as.getD j 0 ≠ O:=fun j hj=>bO (hO.rows.2 j hj) hO.dict (by intro z; cases z)
  have hOF : cH (upd H O (.frz o (.dK (aW as n)))) O as n g:=⟨⟨o,aB⟩,hO.rows.mono fun j hj e=>by rw [aD (nOas j hj)]; exact e,hO.inj⟩
  have sE : aL O H (upd H O (.frz o (.dK (aW as n)))):=aL.upd
  have fr : ∀ b,(upd H O (.frz o (.dK (aW as n)))) b = none→H b = none:=fun b e=>by
   cases z : H b with
   | none=>rfl
   | some u =>
    by_cases eb : b = O
    ·subst eb; rw [hf1] at e; cases e
    ·rw [sE b u z eb] at e; cases e
  generalize upd H O (.frz o (.dK (aW as n))) = H1 at *
  refine aAv (d:=O) (o:=o) (kvs:=aW as n) (fun i ys σ H2=>(∃ a,σ = [a,some (.ref O)])∧Same H1 H2∧H2 D = some (.lst ys)∧∃ ts ds : List Addr,ys = ts.map V.ref∧ds.length = i∧Holds H2 ts i (fun j=>.tup [.int (j : Int),.ref (ds.getD j 0)])∧∀ j,j < i→iA H2 (ds.getD j 0) n (fun x=>far (tsOf n g) x j))
   ⟨⟨_,rfl⟩,aG hD,aB,[],[],rfl,rfl,Holds.nil,fun j hj=>absurd hj (by omega)⟩ (fun i ys σ H2 _ z=>z.2.1 _ _ hf1) ?_ ?_
  ·rintro i k v ys σ H2 Kt Kf hk ⟨⟨a,rfl⟩,sm,hD2,ts,ds,rfl,hdl,hts,hds⟩ kt kf
   obtain ⟨hi,rfl⟩:=jX hk
   change bG 0 (V.int (i : Int)) _ _ _
   refine ⟨_,rfl,_,rfl,_,rfl,O,as,n,g,i,rfl,hOF.same sm,Fi,hi,fun r H3 s3 hr3 F3=>⟨by show 2 ≤ sizeLine; decide,fun t ht=>?_⟩⟩
   have s4:=aG (o:=.tup [.int (i : Int),.ref r]) ht
   have hD4:=s4 _ _ (s3 _ _ hD2)
   have hti:=aB (H:=H3) (a:=t) (o:=.tup [.int (i : Int),.ref r])
   have F4:=F3.same s4
   have s24:=s3.trans s4
   generalize upd H3 t (.tup [.int (i : Int),.ref r]) = H4 at *
   have keep : ∀ b u,H4 b = some u→(∀ xs,u ≠ .lst xs)→(upd H4 D (.lst (ts.map V.ref ++ [.ref t]))) b = some u:=fun b u e z=>by rw [aD (bO e hD4 (z _))]; exact e
   have keepF : ∀ b f,iA H4 b n f→iA (upd H4 D (.lst (ts.map V.ref ++ [.ref t]))) b n f:=fun b f z=>let ⟨R,x,y⟩:=z; ⟨R,keep _ _ x (by intro xs w; cases w),y⟩
   refine kt _ _ _ hD4 (by rw [List.length_map,hts.1]; exact Nat.lt_of_lt_of_le (show i < 33 by omega) (by decide)) ⟨⟨_,rfl⟩,K12.dL (sm.trans s24) hD,aB,ts ++ [t],ds ++ [r],by rw [List.map_append]; rfl,by rw [List.length_append,hdl]; rfl,?_,fun j hj=>?_⟩
   ·refine ⟨by rw [List.length_append,hts.1]; rfl,fun j hj=>?_⟩
    rw [bL hts.1]
    show _ = some (HO.tup [.int (j : Int),.ref ((ds ++ [r]).getD j 0)])
    rw [bL hdl]
    by_cases e : j = i
    ·rw [if_pos e,if_pos e,e]; exact keep _ _ hti (by intro xs w; cases w)
    ·rw [if_neg e,if_neg e]; exact keep _ _ (s24 _ _ (hts.2 j (by omega))) (by intro xs w; cases w)
   ·rw [bL hdl]
    by_cases e : j = i
    ·rw [if_pos e,e]; exact keepF _ _ F4
    ·rw [if_neg e]; exact keepF _ _ ((hds j (by omega)).same s24)
  ·rintro ys σ H2 ⟨_,sm,hD2,ts,ds,rfl,hdl,hts,hds⟩
   rw [cD] at hdl hts hds
   refine ⟨D,ts,aW ds n,rfl,hD2,by unfold aW; rw [hts.1,List.length_map,List.length_range],fun i hi=>?_,?_,fun r hr'=>?_⟩
   ·have hi' : i < n:=by unfold aW at hi; rw [List.length_map,List.length_range] at hi; exact hi
    refine ⟨.inl (i : Int),.ref (ds.getD i 0),?_,hts.2 i hi'⟩
    unfold aW
    rw [List.getElem?_map,List.getElem?_range hi']
    rfl
   ·unfold aW; rw [List.length_map,List.length_range]; omega
   ·rw [kW]
    have s5:=aG (o:=.dK (aW ds n)) hr'
    exact q r ds _ ⟨aB,fun j hj=>(hds j hj).same s5⟩ ((hOF.same sm).same s5) (sE.trans (aL.of (sm.trans s5))) (fr r (sm.free hr'))
end
end K61
namespace K61
open PySem L2 NetM
open K12 (zr zp PO prT Zs dP NT MCal rG nfar)
abbrev sStr : Stmt:=top 16
section
variable {P : Program} {w : World} {K : PySem.W.Frag} {mg : Str→Option Value} {base : Heap}
theorem aEc : aY ["net", "homes", "stands", "log", "letter", "beat", "chain"] ["net", "homes", "stands", "log", "letter", "beat", "chain"] (aI sStr):=⟨rfl,rfl,rfl,by decide +kernel,rfl,by decide +kernel,by decide +kernel⟩
def yA (C : Addr) : Sp:=fun vs H Q _=>∃ (p a SA LA Z : Addr) (sas las : List Addr) (m L : Nat) (ss ls : Nat→List (Option Nat)) (hs zs ns : List Int) (j c n : Nat) (g : Nat→List Nat) (Lp : Addr→Prop),vs = [.ref p,.ref a,.ref SA,.ref LA,.int j,.int c,.ref Z]∧H a = some (.tup (HV hs))∧hs.length = m∧cI H SA LA sas las m L ss ls∧LogR n g hs L ss ls ns∧H Z = some (.lst (HV zs))∧j < m ∧
 dP C H Lp p n (tsOf n g)∧jN hs m L ss ls j c zs = true∧∀ (b : Bool) (H' : Hp),Same H H'→(∀ d o e : Nat,zs.getD (zs.length - 1) 0 = (d : Int)→(ls c).getD j none = some o→hs.getD d 0 = (e : Int)→b = decide (zs.length ≤ far (tsOf n g) o e))→Q (.bl b) H'
theorem aDA {f C : Addr} {fd : FuncData} (F : Fun K "is_straight" "is_straight" sStr f fd) (B : Bl mg) (T : NT K mg C) (CH : Cal P w K mg base CX0 5 "is_chain" ["homes", "stands", "log", "letter", "beat", "thing"] qJ) (MF : MCal P w K mg base CX0 5 C "far" ["self", "one", "other"] (K12.tS C)) :
  FnOk P w K mg base CX0 6 f fd ["net", "homes", "stands", "log", "letter", "beat", "chain"] (yA C):=by
 obtain ⟨fF,fdF,mF,bF,GF⟩:=MF.ex
 refine F.ok aEc (fun vs H Q E h=>?_) (fun cdv A outer s H vs Q E hr h=>?_)
 ·obtain ⟨p,a,SA,LA,Z,sas,las,m,L,ss,ls,hs,zs,ns,j,c,n,g,Lp,rfl,_⟩:=h
  rfl
 ·obtain ⟨p,a,SA,LA,Z,sas,las,m,L,ss,ls,hs,zs,ns,j,c,n,g,Lp,rfl,ha,hl,LG,R,hZ,hj,N,hc,q⟩:=h
  refine ⟨_,aH (bN (dS (cV (aS CH hr aU (aA (pv 1) (aA (pv 2) (aA (pv 3) (aA (pv 4) (aA (pv 5) (aA (pv 6) aE))))))))) cK bE)
   (aK (bB (cN nV (pO (pv 0) T.cl mF GF hr bF .nil aU (aA (aO bP (aO aR (pv 3) (pv 5) (fun _ _=>rfl)) (pv 4) (fun _ _=>rfl)) (aA (aO bP (pv 1) (aO aR (pv 6) (dH cX aJ) (fun _ _=>rfl)) (fun _ _=>rfl)) aE)))
    (aQ aT (by rfl) B.len PySem.boot_len (aA (pv 6) aE)) (aX _)))),?_⟩
  refine ⟨_,rfl,_,rfl,_,rfl,_,rfl,_,rfl,_,rfl,a,SA,LA,Z,sas,las,m,L,ss,ls,hs,zs,j,c,rfl,ha,hl,LG,hZ,fun H1 s1=>⟨_,rfl,?_⟩⟩
  rw [hc]
  refine iteF ?_
  obtain ⟨d,o,h0,zd,zne,Ch⟩:=aAA R hc
  obtain ⟨x,e,q1,q2,q3,q4,q5⟩:=Ch.hm
  have fi:=N.fine
  obtain ⟨o',e1,t⟩:=R.goes Ch.cl Ch.s0
  obtain rfl : o = o':=by rw [Ch.o0] at e1; exact Option.some.inj e1
  have hon:=(fi.tlt t).2.1
  have hen:=(fi.tlt q4).2.1
  have LG1:=LG.same s1
  obtain ⟨g1,g2,g3,g4,g5,g6⟩:=LG1
  have lcl : (ls c).length = m:=by rw [(g6 c Ch.cl).1]; exact g5 c (Nat.le_of_lt Ch.cl)
  have N1:=N.same s1
  obtain ⟨dx,tl,ol,ds,hn,_⟩:=N1.ob
  have at2 : atI (SV (ls c)) (j : Int) = some (.int (o : Int)):=by rw [dQ (by omega),Ch.o0]; rfl
  have at3 : atI (HV hs) (zs.getD (zs.length - 1) 0) = some (.int (e : Int)):=by rw [zd,iO (by have:=Ch.dm; omega),← q3]
  refine ⟨_,rfl,p,dx,_,rfl,hn,nfar _ _ _ _,_,rfl,_,rfl,LA,_,_,_,rfl,rfl,SqL.of g2,dC (by rw [g4.1]; exact Ch.cl),_,rfl,las.getD c 0,_,_,_,rfl,rfl,SqT.of (g4.2 c Ch.cl),at2,
   _,rfl,_,rfl,_,rfl,Z,_,_,_,rfl,rfl,SqL.of (s1 _ _ hZ),gZ zne,a,_,_,_,rfl,rfl,SqT.of (s1 _ _ ha),at3,Lp,p,n,tsOf n g,o,e,rfl,N1,hon,hen,?_⟩
  refine ⟨_,rfl,Z,_,rfl,.inl (SqL.of (s1 _ _ hZ)),_,_,rfl,rfl,q _ H1 s1 fun d' o2 e2 zd' eo ee=>?_⟩
  obtain rfl : d = d':=by rw [zd] at zd'; exact Int.ofNat.inj zd'
  obtain rfl : o = o2:=by rw [Ch.o0] at eo; exact Option.some.inj eo
  obtain rfl : e = e2:=by rw [← q3] at ee; exact Int.ofNat.inj ee
  rw [show (HV zs).length = zs.length from List.length_map _]
  exact decide_eq_decide.mpr (by omega)
end
end K61
namespace K61
open PySem L2 NetM
open K12 (dP NT)
abbrev sLR : Stmt:=top 46
def ekv (es : List Nat) : List (Key × V):=es.map fun (d : Nat)=>(Sum.inl (d : Int),V.bl true)
theorem qM {d : Nat} : ∀ {es : List Nat},valV (ekv es) (Sum.inl (d : Int)) = if d∈es then some (.bl true) else none
 | []=>rfl
 | y :: ys=>by
  unfold ekv
  rw [List.map_cons]
  by_cases e : y = d
  ·subst e
   rw [eD rfl,if_pos List.mem_cons_self]
  ·have e2 : ¬ ((Sum.inl (y : Int) : Key) = Sum.inl (d : Int)):=fun z=>e (Int.ofNat.inj (Sum.inl.inj z))
   rw [eE e2]
   have ih:=qM (d:=d) (es:=ys)
   unfold ekv at ih
   rw [ih]
   by_cases h : d∈ys
   ·rw [if_pos h,if_pos (List.mem_cons_of_mem _ h)]
   ·rw [if_neg h,if_neg (fun z=>(List.mem_cons.mp z).elim (fun q=>e q.symm) h)]
theorem aCK {d : Nat} {es : List Nat} (h : d ∉ es) : putK (ekv es) (Sum.inl (d : Int)) (.bl true) = ekv (es ++ [d]):=by
 rw [jE _ (by rw [qM,if_neg h])]
 unfold ekv
 rw [List.map_append]; rfl
theorem netE {C pn p n : Nat} {H H' : Hp} {Lp : Addr→Prop} {ts : Ts} (N : dP C H Lp pn n ts) (hL : ¬ Lp p) (hp : aN H p) (s : aL p H H') : dP C H' Lp pn n ts :=
 N.keep (fun b o l e=>s b o e (fun z=>hL (z ▸ l))) fun o e=>s _ _ e (by
  rintro rfl
  obtain ⟨dx,tl,ol,ds,hn,_⟩:=N.ob
  obtain ⟨a,b,z,_⟩:=hp
  rw [hn] at z; cases z)
section
variable {P : Program} {w : World} {K : PySem.W.Frag} {mg : Str→Option Value} {base : Heap}
theorem aDB : PySem.W.kitOne K (.type "bool") (.type "bool") = some true:=by kernel_rfl
theorem scLR : aY ["_law_pot_here", "_law_net_here", "_law_fars_here", "_law_homes", "_law_stands", "_law_log", "_law_i", "_law_ends", "_law_beat", "_law_chain", "_law_due", "_law_told"] ["_law_pot_here", "_law_net_here", "_law_fars_here", "_law_homes", "_law_stands", "_law_log", "_law_i"] (aI sLR):=⟨rfl,rfl,rfl,by decide +kernel,rfl,by decide +kernel,by decide +kernel⟩
def spLR (C : Addr) : Sp:=fun vs H Q _=>∃ (p pn r a SA LA : Addr) (ds sas las : List Addr) (m L n : Nat) (g : Nat→List Nat) (ss ls : Nat→List (Option Nat)) (hs ns : List Int) (j : Nat) (Lp : Addr→Prop),vs = [.ref p,.ref pn,.ref r,.ref a,.ref SA,.ref LA,.int j]∧aN H p∧dP C H Lp pn n (tsOf n g)∧¬ Lp p∧kN H r ds n g∧H a = some (.tup (HV hs))∧hs.length = m∧cI H SA LA sas las m L ss ls∧LogR n g hs L ss ls ns∧j < m∧m ≤ 16∧L ≤ 30∧SA ≠ p∧LA ≠ p ∧
 ∀ H',aL p H H'→aN H' p→Q (.bl true) H'
theorem aEd {f C : Addr} {fd : FuncData} (F : Fun K "_law_letter_right" "_law_letter_right" sLR f fd) (B : Bl mg) (WA : Cal P w K mg base CX0 2 "_law_walked" ["_law_pot_here", "_law_homes", "_law_stands", "_law_log", "_law_i", "_law_beat"] uH)
  (CL : Cal P w K mg base CX0 1 "_law_is_chain" ["_law_homes", "_law_stands", "_law_log", "_law_i", "_law_beat", "_law_thing"] nQ) (ST : Cal P w K mg base CX0 6 "is_straight" ["net", "homes", "stands", "log", "letter", "beat", "chain"] (yA C)) :
  FnOk P w K mg base CX0 7 f fd ["_law_pot_here", "_law_net_here", "_law_fars_here", "_law_homes", "_law_stands", "_law_log", "_law_i"] (spLR C):=by
 refine F.ok scLR (fun vs H Q E h=>?_) (fun cdv A outer s H vs Q E hr h=>?_)
 ·obtain ⟨p,pn,r,a,SA,LA,ds,sas,las,m,L,n,g,ss,ls,hs,ns,j,Lp,rfl,_⟩:=h
  rfl
 ·obtain ⟨p,pn,r,a,SA,LA,ds,sas,las,m,L,n,g,ss,ls,hs,ns,j,Lp,rfl,hp,N,hLp,FR,ha,hl,LG,R,hj,m16,L30,nSp,nLp,q⟩:=h
  have h1 : Room 1 _:=hr.mono (by decide)
  have h2 : Room 2 _:=hr.mono (by decide)
  have hu : (A.deeper (PyProof.Rows.envOfC "_law_letter_right" (aI sLR) s.heap.objs.size f cdv)).units + 1 < cLine:=by have:=hr.un; omega
  refine ⟨_,aH (aV (i:=7) scLR.nd rfl (Or.inl rfl) nC)
   (aH (bW PassesOwn.never rfl (cB rfl B.range (aA (aQ aT (by rfl) B.len PySem.boot_len (aA (pv 5) aE)) aE)) (aM (i:=8) scLR.nd rfl (Or.inl rfl))
    (aH (aV (i:=9) scLR.nd rfl (Or.inl rfl) (aS WA h2 aU (aA (pv 0) (aA (pv 3) (aA (pv 4) (aA (pv 5) (aA (pv 6) (aA (pv 8) aE))))))))
    (aK (bN (cV (aS CL h1 aU (aA (pv 3) (aA (pv 4) (aA (pv 5) (aA (pv 6) (aA (pv 8) (aA (pv 9) aE))))))))
     (aH (aV (i:=10) scLR.nd rfl (Or.inl rfl) (cN nV (dA hu (dA hu (pv 2) (aO bP (pv 3) (aO aR (pv 9) (dH cX aJ) (fun _ _=>rfl)) (fun _ _=>rfl)) (fun _ _=>rfl)) (aO bP (aO aR (pv 5) (pv 8) (fun _ _=>rfl)) (pv 6) (fun _ _=>rfl)) (fun _ _=>rfl)) (aQ aT (by rfl) B.len PySem.boot_len (aA (pv 9) aE)) (aX _)))
     (aH (aV (i:=11) scLR.nd rfl (Or.inl rfl) (aS ST hr aU (aA (pv 1) (aA (pv 3) (aA (pv 4) (aA (pv 5) (aA (pv 6) (aA (pv 8) (aA (pv 9) aE)))))))))
     (aH (bN (PW.pt (eY (dS (cV (aQ eU (by rfl) B.isi PyProof.Rows.boot_isinstance (aA (pv 11) (aA (fV (v:=.ty "bool") rfl B.bool PyProof.Rows.boot_bool rfl) aE))))) (gA (aZ hU (pv 11) (pv 10) (aX _))))) cK bE)
     (aH (bN (PW.pt (iZ (cV (pv 11)) (iQ (PW.pt (eY (aZ cT (aO aR (pv 9) (dH cX aJ) (fun _ _=>rfl)) (pv 6) (aX _)) (gA (iC (aC4 hu (aO aR (pv 9) (dH cX aJ) (fun _ _=>rfl)) (pv 7))))))))) cK bE)
     (aK (bN (cV (pv 11)) (aK (kE hu (pv 7) (aO aR (pv 9) (dH cX aJ) (fun _ _=>rfl)) hJ rfl)) bE))))))
     bE))))
   (aK (bB hJ))),?_⟩
  intro En hEn
  have sEn:=aG (o:=.dK []) hEn
  have g2:=sEn _ _ LG.2.1
  have ell : (((las.map V.ref).length : Nat) : Int) = (L : Int):=by rw [List.length_map,LG.2.2.2.1.1]
  refine ⟨_,rfl,LA,_,rfl,.inl (SqL.of g2),L,by rw [ell],by omega,by omega,?_⟩
  refine cW (n:=L) (lo:=0) (fun b σ Hc=>(∃ v8 v9 v10 v11,σ = [some (.ref p),some (.ref pn),some (.ref r),some (.ref a),some (.ref SA),some (.ref LA),some (.int j),some (.ref En),v8,v9,v10,v11])∧aL p H Hc∧aN Hc p∧∃ es : List Nat,Hc En = some (.dK (ekv es))∧es.length ≤ b∧∀ d∈es,∃ c M o h0,c < b∧Chn n g hs m L ss ls j c M d o h0∧∀ e : Nat,hs.getD d 0 = (e : Int)→M ≤ far (tsOf n g) o e)
   ⟨⟨_,_,_,_,rfl⟩,aL.of sEn,hp.same sEn,[],aB,Nat.le_refl _,fun d hd=>nomatch hd⟩ ?_ ?_
  ·rintro b σ Hc hb ⟨⟨v8,v9,v10,v11,rfl⟩,se,po,es,hE,esl,inv⟩
   rw [Int.zero_add]
   have nEp : En ≠ p:=by rintro rfl; exact hp.some hEn
   have nap : a ≠ p:=by rintro rfl; obtain ⟨u,v,e,_⟩:=hp; rw [e] at ha; cases ha
   refine ⟨_,rfl,_,rfl,_,rfl,_,rfl,_,rfl,_,rfl,p,a,SA,LA,sas,las,m,L,ss,ls,hs,j,b,rfl,po,se _ _ ha nap,hl,LG.sameE se hp nSp nLp,hj,m16,L30,nSp,nLp,fun Z zs H1 hZ zl hZn se1 po1=>?_⟩
   have sH1 : aL p H H1:=se.trans se1
   have hE1:=se1 _ _ hE nEp
   have LG1:=LG.sameE sH1 hp nSp nLp
   have ha1:=sH1 _ _ ha nap
   refine ⟨_,rfl,_,rfl,_,rfl,_,rfl,_,rfl,_,rfl,a,SA,LA,Z,sas,las,m,L,ss,ls,hs,zs,j,b,rfl,ha1,hl,LG1,hZ,hj,fun H2 s2=>⟨_,rfl,?_⟩⟩
   have sH2 : aL p H H2:=sH1.trans (aL.of s2)
   have po2:=po1.same s2
   have hE2:=s2 _ _ hE1
   refine ite2 (fun hc=>?_) (fun hc=>⟨⟨_,_,_,_,rfl⟩,sH2,po2,es,hE2,by omega,fun d hd=>let ⟨c,M,o,h0,x,y⟩:=inv d hd; ⟨c,M,o,h0,by omega,y⟩⟩)
   have N2:=netE N hLp hp sH2
   have FR2:=FR.sameE sH2 hp
   have hZ2:=s2 _ _ hZ
   have ha2:=s2 _ _ ha1
   have LG2:=LG1.same s2
   have Fi:=N.fine
   obtain ⟨d,o,h0,zd,zne,Ch⟩:=aAA R hc
   obtain ⟨x,e,q1,q2,q3,q4,q5⟩:=Ch.hm
   obtain ⟨o',e1,t⟩:=R.goes Ch.cl Ch.s0
   obtain rfl : o = o':=by rw [Ch.o0] at e1; exact Option.some.inj e1
   have hon:=(Fi.tlt t).2.1
   have hen:=(Fi.tlt q4).2.1
   obtain ⟨g1,g2',g3,g4,g5,g6⟩:=LG2
   have lcl : (ls b).length = m:=by rw [(g6 b Ch.cl).1]; exact g5 b (Nat.le_of_lt Ch.cl)
   have at2 : atI (SV (ls b)) (j : Int) = some (.int (o : Int)):=by rw [dQ (by omega),Ch.o0]; rfl
   have at3 : atI (HV hs) (zs.getD (zs.length - 1) 0) = some (.int (e : Int)):=by rw [zd,iO (by have:=Ch.dm; omega),← q3]
   have gF : DGet H2 r (.int (e : Int)) (some (.ref (ds.getD e 0))):=by
    have:=DGet.k (k:=Sum.inl (e : Int)) FR2.dict
    rw [kU hen] at this
    exact this
   refine ⟨_,rfl,_,rfl,_,rfl,_,rfl,Z,_,_,_,rfl,rfl,SqL.of hZ2,gZ zne,a,_,_,_,rfl,rfl,SqT.of ha2,at3,r,_,rfl,gF,_,rfl,_,rfl,LA,_,_,_,rfl,rfl,SqL.of g2',dC (by rw [g4.1]; exact Ch.cl),_,rfl,las.getD b 0,_,_,_,rfl,rfl,SqT.of (g4.2 b Ch.cl),at2,ds.getD e 0,_,rfl,(FR2.rows e hen).get hon,_,rfl,Z,_,rfl,.inl (SqL.of hZ2),_,_,rfl,rfl,?_⟩
   refine ⟨_,rfl,_,rfl,_,rfl,_,rfl,_,rfl,_,rfl,_,rfl,pn,a,SA,LA,Z,sas,las,m,L,ss,ls,hs,zs,ns,j,b,n,g,Lp,rfl,ha2,hl,⟨g1,g2',g3,g4,g5,g6⟩,R,hZ2,hj,N2,hc,fun bt H3 s3 hbt=>?_⟩
   have ebt:=hbt d o e zd Ch.o0 q3.symm
   have sH3 : aL p H H3:=sH2.trans (aL.of s3)
   have po3:=po2.same s3
   have hE3:=s3 _ _ hE2
   have hZ3:=s3 _ _ hZ2
   refine ⟨_,rfl,_,_,_,.type "bool",true,rfl,⟨rfl,aDB⟩,.of (.bl _),_,rfl,iteF ?_⟩
   have edue : decide ((((HV zs).length : Nat) : Int) ≤ ((far (tsOf n g) o e : Nat) : Int)) = bt:=by
    rw [ebt,show (HV zs).length = zs.length from List.length_map _]
    exact decide_eq_decide.mpr (by omega)
   refine ⟨_,rfl,_,rfl,rfl,_,rfl,?_⟩
   have eNe : (!decide (V.bl bt = V.bl (decide (((far (tsOf n g) o e : Nat) : Int) ≥ (((HV zs).length : Nat) : Int))))) = false:=by
    rw [show decide (((far (tsOf n g) o e : Nat) : Int) ≥ (((HV zs).length : Nat) : Int)) = bt from edue]
    simp
   refine ite2 (fun z=>absurd z ?_) (fun _=>?_)
   ·intro z
    have z' : (!decide (V.bl bt = V.bl (decide (((far (tsOf n g) o e : Nat) : Int) ≥ (((HV zs).length : Nat) : Int))))) = true:=z
    rw [eNe] at z'; cases z'
   have hdj : bt = true→d ≠ j:=fun hb' z=>by
    subst z
    rw [ebt] at hb'
    obtain ⟨e',w1,w2,w3⟩:=aBj R Fi Ch
    obtain rfl : e = e':=by rw [← q3] at w1; exact (Int.ofNat.inj w1).symm
    have:=of_decide_eq_true hb'
    omega
   have hde : bt = true→d ∉ es:=fun hb' z=>by
    obtain ⟨c',M',o2,h02,w0,C',str⟩:=inv d z
    obtain ⟨e',w1,w2,w3⟩:=aCG R Fi C' Ch w0
    have:=str e' w1.symm
    omega
   cases bt with
   | false =>
    refine ⟨_,rfl,_,rfl,iteF ⟨_,rfl,_,rfl,iteF ?_⟩⟩
    exact ⟨⟨_,_,_,_,rfl⟩,sH3,po3,es,hE3,by omega,fun d hd=>let ⟨c,M,o,h0,x,y⟩:=inv d hd; ⟨c,M,o,h0,by omega,y⟩⟩
   | true =>
    have hd1:=hdj rfl
    have hd2:=hde rfl
    refine ⟨_,rfl,_,rfl,iteT ?_⟩
    refine ⟨_,rfl,_,rfl,Z,_,_,_,rfl,rfl,SqL.of hZ3,gZ zne,_,rfl,rfl,_,rfl,?_⟩
    rw [zd]
    rw [show decide (V.int (d : Int) = V.int (j : Int)) = false from decide_eq_false fun z=>hd1 (Int.ofNat.inj (V.int.inj z))]
    refine iteF ?_
    have gE : DGet H3 En (.int (d : Int)) none:=by
     have:=DGet.k (k:=Sum.inl (d : Int)) hE3
     rw [qM,if_neg hd2] at this
     exact this
    refine ⟨_,rfl,_,rfl,Z,_,_,_,rfl,rfl,SqL.of hZ3,by rw [gZ zne,zd],_,rfl,En,_,rfl,gE,_,rfl,iteF ?_⟩
    refine ⟨_,rfl,_,rfl,iteT ?_⟩
    refine ⟨_,rfl,_,rfl,_,rfl,Z,_,_,_,rfl,rfl,SqL.of hZ3,(by rw [gZ zne,zd]; rfl),En,_,rfl,DPut.k (k:=Sum.inl (d : Int)) hE3 (by unfold ekv; rw [List.length_map]; exact Nat.lt_of_lt_of_le (show es.length < 31 by omega) (by decide)),?_⟩
    rw [aCK hd2]
    refine ⟨⟨_,_,_,_,rfl⟩,K12.bY sH3 hEn,?_,es ++ [d],aB,by rw [List.length_append]; simp; omega,fun d' hd'=>?_⟩
    ·obtain ⟨u,v,e2,z⟩:=po3
     exact ⟨u,v,by rw [aD nEp.symm]; exact e2,z⟩
    ·rcases List.mem_append.mp hd' with z | z
     ·obtain ⟨c,M,o,h0,x,y⟩:=inv d' z
      exact ⟨c,M,o,h0,by omega,y⟩
     ·rw [List.mem_singleton.mp z]
      refine ⟨b,zs.length,o,h0,by omega,Ch,fun e' he'=>?_⟩
      obtain rfl : e = e':=by rw [← q3] at he'; exact Int.ofNat.inj he'
      exact of_decide_eq_true ebt.symm
  ·rintro σ Hc ⟨⟨v8,v9,v10,v11,rfl⟩,se,po,_⟩
   exact q Hc se po
end
end K61
namespace K61
open PySem L2 NetM
open K12 (dP NT Tab oW dI zr zp PO Zs)
abbrev sLaw : Stmt:=top 47
section
variable {P : Program} {w : World} {K : PySem.W.Frag} {mg : Str→Option Value} {base : Heap}
def SqF (K : PySem.W.Frag) (H : Hp) (a : Addr) (xs : List V) : Prop:=(∃ o,H a = some (.frz o (.lst xs)))∨(∀ H' : Hp,SqL K H' a xs)
theorem SqF.seq {H : Hp} {a : Addr} {xs : List V} (h : SqF K H a xs) : SqL K H a xs:=by
 rcases h with ⟨o,h⟩ | h
 ·exact .inl (.inr ⟨o,h⟩)
 ·exact h H
theorem SqF.mono {H H' : Hp} {a : Addr} {xs : List V} (h : SqF K H a xs) (e : ∀ o u,H a = some (.frz o (.lst u))→H' a = some (.frz o (.lst u))) : SqF K H' a xs:=by
 rcases h with ⟨o,h⟩ | h
 ·exact .inl ⟨o,e _ _ h⟩
 ·exact .inr h
def LD (H : Hp) (q : Addr) : Prop:=(∃ xs,H q = some (.lst xs))∨∃ k,H q = some (.dK k)
theorem LD.ne {H : Hp} {q b : Addr} {o : HO} (h : LD H q) (e : H b = some o) (h1 : ∀ xs,o ≠ .lst xs) (h2 : ∀ k,o ≠ .dK k) : b ≠ q:=by
 rintro rfl
 rcases h with ⟨xs,z⟩ | ⟨k,z⟩
 ·rw [e] at z; exact h1 _ (Option.some.inj z)
 ·rw [e] at z; exact h2 _ (Option.some.inj z)
structure Kp (K : PySem.W.Frag) (Pt a : Addr) (xs : List V) (H : Hp) : Prop where
 s : SqF K H a xs
 t : Tab Pt H
theorem Kp.sameE {Pt a q : Addr} {xs : List V} {H H' : Hp} (k : Kp K Pt a xs H) (s : aL q H H') (hq : LD H q) : Kp K Pt a xs H':=by
 refine ⟨k.s.mono fun o u z=>s _ _ z (hq.ne z (by intro x y; cases y) (by intro x y; cases y)),?_⟩
 rcases k.t with z | ⟨c,z,y⟩
 ·exact .inl (s _ _ z (hq.ne z (by intro x y; cases y) (by intro x y; cases y)))
 ·exact .inr ⟨c,s _ _ z (hq.ne z (by intro x y; cases y) (by intro x y; cases y)),s _ _ y (hq.ne y (by intro x y; cases y) (by intro x y; cases y))⟩
theorem Kp.same {Pt a : Addr} {xs : List V} {H H' : Hp} (k : Kp K Pt a xs H) (s : Same H H') : Kp K Pt a xs H':=⟨k.s.mono fun o u z=>s _ _ z,k.t.same s⟩
theorem aN.ld {H : Hp} {p : Addr} (h : aN H p) : LD H p:=let ⟨a,b,e,_⟩:=h; .inl ⟨_,e⟩
theorem gL : aY ["_law_script", "_law_k", "_law_pot_here", "_law_outs", "_law_fars_here", "_law_homes", "_law_stand", "_law_stands", "_law_log", "_law_net_here", "_law_i"] ["_law_script"] (aI sLaw):=⟨rfl,rfl,rfl,by decide +kernel,rfl,by decide +kernel,by decide +kernel⟩
def sC (K : PySem.W.Frag) (Pt : Addr) : Sp:=fun vs H Q _=>∃ (a : Addr) (ns : List Int),vs = [.ref a]∧SqF K H a (ns.map V.int)∧ns.length ≤ 63∧Tab Pt H∧∀ H',Q (.bl true) H'
theorem aDC {f C Pt fI : Addr} {fd fdI : FuncData} (F : Fun K "law" "law" sLaw f fd) (B : Bl mg) (T : NT K mg C) (PO' : Cal P w K mg base CX0 1 "_law_pot" ["_law_script", "_law_k"] (xO K)) (NE : Cal P w K mg base CX0 3 "_law_net" ["_law_pot_here"] mL)
  (GR : Cal P w K mg base CX0 1 "_law_going_round" ["_law_outs"] spGR) (FA : Cal P w K mg base CX0 2 "_law_fars" ["_law_outs"] uM) (LE : Cal P w K mg base CX0 2 "_law_letters" ["_law_pot_here", "_law_outs", "_law_most"] xR)
  (LO : Cal P w K mg base CX0 4 "_law_any_log" ["_law_pot_here", "_law_outs", "_law_homes", "_law_stand", "_law_most"] xW) (TI : Cal P w K mg base CX0 1 "_law_ties" ["_law_outs"] qL)
  (M : Mk K C fI) (bI : gB K fdI ["self", "many", "ties"] []) (GI : FnOk P w K mg base CX0 7 fI fdI ["self", "many", "ties"] (oW C Pt))
  (LR : Cal P w K mg base CX0 7 "_law_letter_right" ["_law_pot_here", "_law_net_here", "_law_fars_here", "_law_homes", "_law_stands", "_law_log", "_law_i"] (spLR C)) :
  FnOk P w K mg base CX0 9 f fd ["_law_script"] (sC K Pt):=by
 refine F.ok gL (fun vs H Q E h=>?_) (fun cdv A outer s0 H vs Q E hr h=>?_)
 ·obtain ⟨a,ns,rfl,_⟩:=h
  rfl
 ·obtain ⟨a,ns,rfl,hS,hns,tb,q⟩:=h
  have h1 : Room 1 _:=hr.mono (by decide)
  have h2 : Room 2 _:=hr.mono (by decide)
  have h3 : Room 3 _:=hr.mono (by decide)
  have h4 : Room 4 _:=hr.mono (by decide)
  have h7 : Room 7 _:=hr.mono (by decide)
  refine ⟨_,aH (bW PassesOwn.never rfl (cB rfl B.range (aA (aQ (qO rfl) (by rfl) B.max PyProof.Rows.boot_max (aA aJ (aA (aQ (yL rfl) (by rfl) B.min PyProof.Rows.boot_min (aA (aQ aT (by rfl) B.len PySem.boot_len (aA (pv 0) aE)) (aA aJ aE))) aE))) aE)) (aM (i:=1) gL.nd rfl (Or.inl rfl))
    (aH (aV (i:=2) gL.nd rfl (Or.inl rfl) (aS PO' h1 aU (aA (pv 0) (aA (pv 1) aE))))
    (aH (aV (i:=3) gL.nd rfl (Or.inl rfl) (aS GR h1 aU (aA (aS NE h3 aU (aA (pv 2) aE)) aE)))
    (aH (aV (i:=4) gL.nd rfl (Or.inl rfl) (aS FA h2 aU (aA (pv 3) aE)))
    (aH (fH (aS LE h2 aU (aA (pv 2) (aA (pv 3) (aA aJ aE)))) (dE (n:=2) rfl (bD (aM (i:=5) gL.nd rfl (Or.inl rfl)) (bD (aM (i:=6) gL.nd rfl (Or.inl rfl)) cM))))
    (aH (fH (aS LO h4 aU (aA (pv 2) (aA (pv 3) (aA (pv 5) (aA (pv 6) (aA aJ aE)))))) (dE (n:=2) rfl (bD (aM (i:=7) gL.nd rfl (Or.inl rfl)) (bD (aM (i:=8) gL.nd rfl (Or.inl rfl)) cM))))
    (aH (aV (i:=9) gL.nd rfl (Or.inl rfl) (aBL M GI hr rfl T.mgC bI .nil aU (aA (aQ lV (by rfl) B.len PySem.boot_len (aA (pv 3) aE)) (aA (aS TI h1 aU (aA (pv 3) aE)) aE))))
    (aK (bW PassesOwn.never rfl (cB rfl B.range (aA (aQ aT (by rfl) B.len PySem.boot_len (aA (pv 5) aE)) aE)) (aM (i:=10) gL.nd rfl (Or.inl rfl))
     (aK (bN (dS (cV (aS LR h7 aU (aA (pv 2) (aA (pv 9) (aA (pv 4) (aA (pv 5) (aA (pv 7) (aA (pv 8) (aA (pv 10) aE)))))))))) cK bE)))))))))))
   (aK (bB hJ)),?_⟩
  refine ⟨_,rfl,a,_,rfl,.inl hS.seq,_,_,rfl,_,_,rfl,_,rfl,?_,?_,?_⟩
  ·split <;> split <;> omega
  ·split <;> split <;> omega
  have hcnt : (if (if (3 : Int) < (((ns.map V.int).length : Nat) : Int) then 3 else (((ns.map V.int).length : Nat) : Int)) > 1 then (if (3 : Int) < (((ns.map V.int).length : Nat) : Int) then 3 else (((ns.map V.int).length : Nat) : Int)) else 1).toNat ≤ 3:=by split <;> split <;> omega
  refine cW (lo:=0) (fun k σ Hc=>(∃ v1 v2 v3 v4 v5 v6 v7 v8 v9 v10,σ = [some (.ref a),v1,v2,v3,v4,v5,v6,v7,v8,v9,v10])∧Kp K Pt a (ns.map V.int) Hc) ⟨⟨_,_,_,_,_,_,_,_,_,_,rfl⟩,hS,tb⟩ ?_ ?_
  ·rintro k σ Hc hk ⟨⟨v1,v2,v3,v4,v5,v6,v7,v8,v9,v10,rfl⟩,kp⟩
   have k3 : k < 3:=Nat.lt_of_lt_of_le hk hcnt
   rw [Int.zero_add]
   refine ⟨_,rfl,_,rfl,a,ns,k,rfl,kp.s.seq,by omega,fun p H1 sm1 hp0 po1=>?_⟩
   have kp1:=kp.same sm1
   refine ⟨_,rfl,p,rfl,po1,fun O as n g H2 NN se2 po2=>?_⟩
   have kp2:=kp1.sameE se2 po1.ld
   obtain ⟨G,n2,n32,hO,hO1,hr1',gC⟩:=NN
   refine ⟨O,as,n,g,rfl,G,gC,n2,n32,hO,fun O' as' g' H3 NN3 se3 hO3=>?_⟩
   have kp3:=kp2.sameE se3 (.inr ⟨_,hO.dict⟩)
   obtain ⟨G',_,_,hO',hO'2,hr'2,gC'⟩:=NN3
   have npO : p ≠ O:=by rintro rfl; exact po1.some hO1
   have po3 : aN H3 p:=by obtain ⟨u,v,e,z⟩:=po2; exact ⟨u,v,se3 _ _ e npO,z⟩
   have offp : Off as' n p:=fun h hh z=>by
    have:=hr'2 h hh
    rw [← z] at this
    exact po2.some this
   have Fi:=aCD G' gC' n2 n32
   refine ⟨_,rfl,O',as',n,g',rfl,hO',Fi,fun r ds H4 FR4 OF4 se4 hr4=>?_⟩
   have kp4:=kp3.sameE se4 (.inr ⟨_,hO'.dict⟩)
   have npO' : p ≠ O':=by rintro rfl; obtain ⟨u,v,e,_⟩:=po3; have:=hO'.dict; rw [e] at this; cases this
   have po4 : aN H4 p:=by obtain ⟨u,v,e,z⟩:=po3; exact ⟨u,v,se4 _ _ e npO',z⟩
   refine ⟨_,rfl,_,rfl,p,O',as',n,g',rfl,po4,OF4,offp,n2,n32,fun t a4 b4 hs s H5 ht ha hb hl l16 R BH se5 po5=>?_⟩
   have kp5:=kp4.sameE se5 po4.ld
   have OF5:=OF4.sameE se5 po4 offp
   have FR5:=FR4.sameE se5 po4
   refine ⟨t,_,rfl,SqT.of ht,rfl,_,_,rfl,_,_,rfl,rfl,?_⟩
   refine ⟨_,rfl,_,rfl,_,rfl,_,rfl,p,O',a4,b4,as',n,g',hs,s,rfl,po5,OF5,offp,G',n2,n32,ha,hb,hl.symm,l16,R,fun t5 SA LA sas las L ss ls H6 ht5 LG SM LRx L30 se6 po6 hSA hLA=>?_⟩
   obtain ⟨nss,LRR⟩:=LRx
   have kp6:=kp5.sameE se6 po5.ld
   have OF6:=OF5.sameE se6 po5 offp
   have FR6:=FR5.sameE se6 po5
   refine ⟨t5,_,rfl,SqT.of ht5,rfl,_,_,rfl,_,_,rfl,rfl,?_⟩
   have nSp : SA ≠ p:=by rintro rfl; exact po5.some hSA
   have nLp : LA ≠ p:=by rintro rfl; exact po5.some hLA
   have na4p : a4 ≠ p:=by rintro rfl; obtain ⟨u,v,e,_⟩:=po5; rw [e] at ha; cases ha
   have ha6:=se6 _ _ ha na4p
   refine ⟨_,rfl,O',_,rfl,OF6.dict,_,rfl,O',as',n,g',rfl,OF6,G',n32,fun l zs H7 s7 hl7 hz7 po7 ez=>fun px dx nx ndx nex=>?_⟩
   have kp7:=kp6.same s7
   have sN : Same H7 (upd (upd H7 dx (.own px)) px (.ins C dx [])):=(aG (o:=.own px) ndx).trans (aG (D:=px) (o:=.ins C dx []) (by rw [aD nex.symm]; exact nx))
   have gpx : (upd (upd H7 dx (.own px)) px (.ins C dx [])) px = some (.ins C dx []):=aB
   generalize upd (upd H7 dx (.own px)) px (.ins C dx []) = HM at *
   have kpM:=kp7.same sN
   have sM : Same H6 HM:=s7.trans sN
   have TM : dI HM l n zs:=⟨by rw [ez]; exact Fi,sN _ _ hz7,fun z hz=>sN _ _ (po7 z hz)⟩
   refine ⟨px,dx,n,l,zs,by rw [cD]; rfl,gpx,TM,kpM.t,fun H8 N8 t8 s8=>⟨rfl,?_⟩⟩
   rw [ez] at N8
   have up8 : ∀ b o,H6 b = some o→(∀ ps,o ≠ .tbl ps)→H8 b = some o:=fun b o e z=>s8 _ _ (sM _ _ e) (aF (s7 _ _ e) nx) (kpM.t.not (sM _ _ e) z)
   have po8 : aN H8 p:=by obtain ⟨u,v,e,z⟩:=po6; exact ⟨u,v,up8 _ _ e (by intro ps w; cases w),z⟩
   have FR8 : kN H8 r ds n g':=⟨up8 _ _ FR6.dict (by intro ps w; cases w),fun j hj=>let ⟨Rr,x,y⟩:=FR6.rows j hj; ⟨Rr,up8 _ _ x (by intro ps w; cases w),y⟩⟩
   obtain ⟨g1,g2,g3,g4,g5,g6⟩:=LG
   have LG8 : cI H8 SA LA sas las s.length L ss ls:=⟨up8 _ _ g1 (by intro ps w; cases w),up8 _ _ g2 (by intro ps w; cases w),g3.mono fun j _ e=>up8 _ _ e (by intro ps w; cases w),g4.mono fun j _ e=>up8 _ _ e (by intro ps w; cases w),g5,g6⟩
   have ha8:=up8 _ _ ha6 (by intro ps w; cases w)
   have kp8 : Kp K Pt a (ns.map V.int) H8:=⟨kp6.s.mono fun o u z=>up8 _ _ z (by intro ps w; cases w),t8⟩
   have hLp : ¬ HM p = none:=(po6.same sM).some
   have hlen : (((HV hs).length : Nat) : Int) = ((s.length : Nat) : Int):=by rw [List.length_map,hl]
   refine ⟨_,rfl,a4,_,rfl,.inr (SqT.of ha8),(s.length : Nat),by rw [hlen],by omega,by omega,?_⟩
   refine cW (n:=s.length) (lo:=0) (fun i σ H9=>(∃ v,σ = [some (.ref a),some (.int k),some (.ref p),some (.ref O'),some (.ref r),some (.ref a4),some (.ref b4),some (.ref SA),some (.ref LA),some (.ref px),v])∧aL p H8 H9∧aN H9 p) ⟨⟨_,rfl⟩,aL.refl,po8⟩ ?_ ?_
   ·rintro i σ H9 hi ⟨⟨v,rfl⟩,se9,po9⟩
    rw [Int.zero_add]
    refine ⟨_,rfl,_,rfl,_,rfl,_,rfl,_,rfl,_,rfl,_,rfl,p,px,r,a4,SA,LA,ds,sas,las,s.length,L,n,g',ss,ls,hs,nss,i,_,rfl,po9,netE N8 hLp po8 se9,hLp,FR8.sameE se9 po8,se9 _ _ ha8 na4p,hl,LG8.sameE se9 po8 nSp nLp,LRR,hi,l16,L30,nSp,nLp,fun H10 se10 po10=>⟨_,rfl,iteF ⟨⟨_,rfl⟩,se9.trans se10,po10⟩⟩⟩
   ·rintro σ H9 ⟨⟨v,rfl⟩,se9,po9⟩
    exact ⟨⟨_,_,_,_,_,_,_,_,_,_,rfl⟩,kp8.sameE se9 po8.ld⟩
  ·rintro σ Hc _
   exact q Hc
end
end K61
namespace K61
open PySem L2
open K12 (NT MCal)
def FD (K : PySem.W.Frag) (n : Str) (st : Stmt) : Prop:=∃ (f : Addr) (oc : Value) (od an : Option Addr) (sl : Array (Option Value)) (kV dc pm cd ct : Value),PySem.W.nsIn K mainGlobals n = some (some (.ref f))∧K.lookup f = some ⟨oc,od,.func (PySem.W.fnOf n n (cP st) (cC st) (aI st) .none kV dc pm an cd ct),sl⟩∧PySem.W.codeIn K cd n = true∧PySem.W.keepIn K (.ref f) = true
def FC (K : PySem.W.Frag) (n : Str) (st : Stmt) (c : Addr) : Prop:=∃ (f : Addr) (oc : Value) (od an : Option Addr) (sl : Array (Option Value)) (kV dc pm ct : Value),PySem.W.nsIn K mainGlobals n = some (some (.ref f))∧K.lookup f = some ⟨oc,od,.func (PySem.W.fnOf n n (cP st) (cC st) (aI st) .none kV dc pm an (.ref c) ct),sl⟩∧PySem.W.codeIn K (.ref c) n = true∧PySem.W.keepIn K (.ref f) = true
def MD (K : PySem.W.Frag) (C : Addr) (n q : Str) (st : Stmt) : Prop:=∃ (f : Addr) (oc : Value) (od an : Option Addr) (sl : Array (Option Value)) (kV dc pm cd ct : Value),PySem.W.findIn K (.ref C) n = some (some (.ref f))∧PySem.W.isFn K (.ref f) = true∧K.lookup f = some ⟨oc,od,.func (PySem.W.fnOf n q (cP st) (cC st) (aI st) .none kV dc pm an cd ct),sl⟩∧PySem.W.codeIn K cd q = true∧PySem.W.keepIn K (.ref f) = true
section
variable {P : Program} {w : World} {K : PySem.W.Frag} {mg : Str→Option Value} {base h : Heap} {n q : Str} {st : Stmt} {f c C : Addr} {oc kV dc pm cd ct : Value} {od an : Option Addr} {sl : Array (Option Value)} {CX : CXT} {k : Nat} {ps : List Str} {sp : Sp}
theorem FD.mk (a : PySem.W.nsIn K mainGlobals n = some (some (.ref f))) (l : K.lookup f = some ⟨oc,od,.func (PySem.W.fnOf n n (cP st) (cC st) (aI st) .none kV dc pm an cd ct),sl⟩) (d : PySem.W.codeIn K cd n = true) (k : PySem.W.keepIn K (.ref f) = true) : FD K n st:=⟨f,oc,od,an,sl,kV,dc,pm,cd,ct,a,l,d,k⟩
theorem FC.mk (a : PySem.W.nsIn K mainGlobals n = some (some (.ref f))) (l : K.lookup f = some ⟨oc,od,.func (PySem.W.fnOf n n (cP st) (cC st) (aI st) .none kV dc pm an (.ref c) ct),sl⟩) (d : PySem.W.codeIn K (.ref c) n = true) (k : PySem.W.keepIn K (.ref f) = true) : FC K n st c:=⟨f,oc,od,an,sl,kV,dc,pm,ct,a,l,d,k⟩
theorem MD.mk (a : PySem.W.findIn K (.ref C) n = some (some (.ref f))) (i : PySem.W.isFn K (.ref f) = true) (l : K.lookup f = some ⟨oc,od,.func (PySem.W.fnOf n q (cP st) (cC st) (aI st) .none kV dc pm an cd ct),sl⟩) (d : PySem.W.codeIn K cd q = true) (k : PySem.W.keepIn K (.ref f) = true) : MD K C n q st:=⟨f,oc,od,an,sl,kV,dc,pm,cd,ct,a,i,l,d,k⟩
def BD (n q : Str) (st : Stmt) (ps : List Str) : Prop:=∀ (kV doc pm : Value) (an : Option Addr) (cdv ct : Value) (us : List Value),us.length = ps.length→bindArgs (PySem.W.fnOf n q (cP st) (cC st) (aI st) .none kV doc pm an cdv ct) ⟨us,[]⟩ = pure (ps.zip us)
theorem FD.cal (X : K.In h) (G : h.Ns mainGlobals mg) (D : FD K n st) (b : BD n n st ps) (o : ∀ {f fd},Fun K n n st f fd→FnOk P w K mg base CX k f fd ps sp) : Cal P w K mg base CX k n ps sp :=
 let ⟨f,_,_,_,_,_,_,_,_,_,a,l,d,kp⟩:=D
 have F:=oB (x:=n) (qual:=n) (st:=st) l d kp
 ⟨⟨f,_,PySem.W.mg_of X G a,kp,F.binds b,o F⟩⟩
theorem FC.cal (X : K.In h) (G : h.Ns mainGlobals mg) (D : FC K n st c) (b : BD n n st ps) (o : ∀ {f fd},FunC K n n st f fd c→FnOk P w K mg base CX k f fd ps sp) : Cal P w K mg base CX k n ps sp :=
 let ⟨f,_,_,_,_,_,_,_,_,a,l,d,kp⟩:=D
 have F:=aBV (x:=n) (qual:=n) (st:=st) l d kp
 ⟨⟨f,_,PySem.W.mg_of X G a,kp,F.fun.binds b,o F⟩⟩
theorem MD.cal (D : MD K C n q st) (b : BD n q st ps) (o : ∀ {f fd},Fun K n q st f fd→FnOk P w K mg base CX k f fd ps sp) : MCal P w K mg base CX k C n ps sp :=
 let ⟨f,_,_,_,_,_,_,_,_,_,a,i,l,d,kp⟩:=D
 have F:=oB (x:=n) (qual:=q) (st:=st) l d kp
 ⟨⟨f,_,⟨a,i,kp⟩,F.binds b,o F⟩⟩
end
theorem aDD {l : PySem.W.OpenLaw} {w : World} {K : PySem.W.Frag} {h : Heap} {mg : Str→Option Value} {fa : Addr} (X : K.In h) (G : h.Ns mainGlobals mg) (hfa : mg "law" = some (.ref fa)) {C cO Pt : Addr} {t_FEWEST_HOUSES t_MOST_HOUSES t_MOST_TIES_OUT : Tok} (aC : PySem.W.nsIn K mainGlobals "Net" = some (some (.ref C))) (h_whole : FD K "is_whole" K12.kG) (h_within : FD K "is_whole_within" K12.iU) (h_house : FD K "is_house" K12.tJ) (h_row : FD K "is_row" K12.sRow) (h_unl : FD K "are_unlike_houses" K12.sUnl) (h_tie : FD K "is_tie" K12.sTie) (h_cties : FD K "check_ties" K12.tQ) (h_bal : FD K "check_balance" K12.sBal) (h_outs : FC K "houses_out" K12.oQ cO) (h_dist : FD K "distances_from" K12.xK) (h_reach : FD K "check_reached" K12.tR) (h_handed : FD K "is_handed_on" qI) (h_chain : FD K "is_chain" pH) (h_sent : FD K "is_sent_from" xX) (h_str : FD K "is_straight" sStr) (h_pot : FD K "_law_pot" sPot) (h_take : FD K "_law_take" xM) (h_shuf : FD K "_law_shuffled" xN) (h_join : FD K "_law_joined" rY) (h_words : FD K "_law_words" pB) (h_net : FD K "_law_net" sNet) (h_gr : FD K "_law_going_round" sGR) (h_tiesL : FD K "_law_ties" pJ) (h_lfar : FD K "_law_far" sFar) (h_lfars : FD K "_law_fars" xZ) (h_let : FD K "_law_letters" sLet) (h_beh : FD K "_law_behind" sBeh) (h_any : FD K "_law_any_handing" sAny) (h_in : FD K "_law_let_in" sIn) (h_log : FD K "_law_any_log" sLog) (h_chainL : FD K "_law_is_chain" mQ) (h_walk : FD K "_law_walked" rZ) (h_lr : FD K "_law_letter_right" sLR) (h_law : FD K "law" sLaw) (m_init : MD K C "__init__" "Net.__init__" K12.rV) (m_check : MD K C "check_house" "Net.check_house" K12.tL) (m_far : MD K C "far" "Net.far" K12.sFar) (pg : PySem.W.plainGet K C Str.empty = true) (q_hd : PySem.W.hasDictIn K C = true) (po : PySem.W.plainOver K C = true) (sa : PySem.W.findIn K (.ref C) "__setattr__" = some (some (.builtin "object.__setattr__"))) (mk : PySem.W.makesIn K C = true) (kc : PySem.W.keepIn K (.ref C) = true) (nH : PySem.W.findIn K (.ref C) "house_count" = some none) (nT : PySem.W.findIn K (.ref C) "tie_list" = some none) (nO : PySem.W.findIn K (.ref C) "out_lists" = some none) (nD : PySem.W.findIn K (.ref C) "distances" = some none) (z_isinstance : PySem.W.nsIn K mainGlobals "isinstance" = some none) (z_int : PySem.W.nsIn K mainGlobals "int" = some none) (z_bool : PySem.W.nsIn K mainGlobals "bool" = some none) (z_list : PySem.W.nsIn K mainGlobals "list" = some none) (z_tuple : PySem.W.nsIn K mainGlobals "tuple" = some none) (z_dict : PySem.W.nsIn K mainGlobals "dict" = some none) (z_len : PySem.W.nsIn K mainGlobals "len" = some none) (z_range : PySem.W.nsIn K mainGlobals "range" = some none) (z_enumerate : PySem.W.nsIn K mainGlobals "enumerate" = some none) (z_all : PySem.W.nsIn K mainGlobals "all" = some none) (z_abs : PySem.W.nsIn K mainGlobals "abs" = some none) (z_max : PySem.W.nsIn K mainGlobals "max" = some none) (z_min : PySem.W.nsIn K mainGlobals "min" = some none) (z_repr : PySem.W.nsIn K mainGlobals "repr" = some none) (z_str : PySem.W.nsIn K mainGlobals "str" = some none) (z_set : PySem.W.nsIn K mainGlobals "set" = some none) (z_sorted : PySem.W.nsIn K mainGlobals "sorted" = some none) (z_any : PySem.W.nsIn K mainGlobals "any" = some none) (z_ValueError : PySem.W.nsIn K mainGlobals "ValueError" = some none) (g_FEWEST_HOUSES : PySem.W.nsIn K mainGlobals "FEWEST_HOUSES" = some (some (.int 2 t_FEWEST_HOUSES))) (g_MOST_HOUSES : PySem.W.nsIn K mainGlobals "MOST_HOUSES" = some (some (.int 32 t_MOST_HOUSES))) (g_MOST_TIES_OUT : PySem.W.nsIn K mainGlobals "MOST_TIES_OUT" = some (some (.int 8 t_MOST_TIES_OUT))) (q_outs : PySem.W.codeHdIn K cO Pt = true) :
  ∃ fd : FuncData,(∀ (s : Shared) (v : Value),BindsTo s fd ⟨[v],[]⟩ [("_law_script",v)])∧∀ base : Heap,K.In base→base.Ns mainGlobals mg→BmOk mg base→FnOk l.prog w K mg base CX0 9 fa fd ["_law_script"] (sC K Pt):=by
 obtain ⟨f_law,oc,od,an,sl,kV,dc,pm,cd,ct,a_law,l_law,d_law,k_law⟩:=h_law
 have e:=hfa.symm.trans (PySem.W.mg_of X G a_law)
 cases e
 have F_law:=oB (x := "law") (qual := "law") (st:=sLaw) l_law d_law k_law
 obtain ⟨f_i,oci,odi,ani,sli,kVi,dci,pmi,cdi,cti,a_i,i_i,l_i,d_i,k_i⟩:=m_init
 have F_m_init:=oB (x := "__init__") (qual := "Net.__init__") (st:=K12.rV) l_i d_i k_i
 have b_m_init:=F_m_init.binds (ps:=["self", "many", "ties"]) fun _ _ _ _ _ _ us hl=>match us,hl with | [_,_,_],_=>rfl
 have MK : Mk K C f_i:=⟨mk,a_i,i_i,kc⟩
 have B : Bl mg:=⟨PySem.W.mg_none_of X G z_isinstance,PySem.W.mg_none_of X G z_int,PySem.W.mg_none_of X G z_bool,PySem.W.mg_none_of X G z_list,PySem.W.mg_none_of X G z_tuple,PySem.W.mg_none_of X G z_dict,PySem.W.mg_none_of X G z_len,PySem.W.mg_none_of X G z_range,PySem.W.mg_none_of X G z_enumerate,PySem.W.mg_none_of X G z_all,PySem.W.mg_none_of X G z_abs,PySem.W.mg_none_of X G z_max,PySem.W.mg_none_of X G z_min,PySem.W.mg_none_of X G z_repr⟩
 have T : NT K mg C:=⟨⟨pg,q_hd,po,sa⟩,nH,nT,nO,nD,PySem.W.mg_of X G aC⟩
 have B12 : K12.Bl mg:=⟨PySem.W.mg_none_of X G z_isinstance,PySem.W.mg_none_of X G z_int,PySem.W.mg_none_of X G z_bool,PySem.W.mg_none_of X G z_tuple,PySem.W.mg_none_of X G z_list,PySem.W.mg_none_of X G z_str,PySem.W.mg_none_of X G z_set,PySem.W.mg_none_of X G z_len,PySem.W.mg_none_of X G z_range,PySem.W.mg_none_of X G z_sorted,PySem.W.mg_none_of X G z_any,PySem.W.mg_none_of X G z_max,PySem.W.mg_none_of X G z_min,PySem.W.mg_none_of X G z_ValueError,PySem.W.mg_none_of X G z_all⟩
 refine ⟨PySem.W.fnOf "law" "law" (cP sLaw) (cC sLaw) (aI sLaw) .none kV dc pm an cd ct,fun s v=>.of_eq rfl,fun base kb nb hb=>?_⟩
 have C_whole : Cal l.prog w K mg base CX0 1 "is_whole" ["thing"] (K12.gT K):=FD.cal X G h_whole (fun _ _ _ _ _ _ us hl=>match us,hl with | [_],_=>rfl) fun F_whole=>K12.nI F_whole B12
 have C_within : Cal l.prog w K mg base CX0 2 "is_whole_within" ["thing", "least", "most"] (K12.eV K):=FD.cal X G h_within (fun _ _ _ _ _ _ us hl=>match us,hl with | [_,_,_],_=>rfl) fun F_within=>K12.lR F_within C_whole
 have C_house : Cal l.prog w K mg base CX0 3 "is_house" ["many", "thing"] (K12.mI K):=FD.cal X G h_house (fun _ _ _ _ _ _ us hl=>match us,hl with | [_,_],_=>rfl) fun F_house=>K12.aAW F_house C_within
 have C_row : Cal l.prog w K mg base CX0 1 "is_row" ["thing", "length"] (K12.xH K):=FD.cal X G h_row (fun _ _ _ _ _ _ us hl=>match us,hl with | [_,_],_=>rfl) fun F_row=>K12.aDd F_row B12
 have C_unl : Cal l.prog w K mg base CX0 4 "are_unlike_houses" ["many", "one", "other"] K12.xI:=FD.cal X G h_unl (fun _ _ _ _ _ _ us hl=>match us,hl with | [_,_,_],_=>rfl) fun F_unl=>K12.aDe F_unl C_house
 have C_tie : Cal l.prog w K mg base CX0 5 "is_tie" ["many", "thing"] K12.xJ:=FD.cal X G h_tie (fun _ _ _ _ _ _ us hl=>match us,hl with | [_,_],_=>rfl) fun F_tie=>K12.aDf F_tie C_row C_unl
 have C_cties : Cal l.prog w K mg base CX0 6 "check_ties" ["many", "ties"] K12.iV:=FD.cal X G h_cties (fun _ _ _ _ _ _ us hl=>match us,hl with | [_,_],_=>rfl) fun F_cties=>K12.aA0 F_cties B12 ⟨_,PySem.W.mg_of X G g_FEWEST_HOUSES⟩ ⟨_,PySem.W.mg_of X G g_MOST_HOUSES⟩ C_within C_tie
 have C_bal : Cal l.prog w K mg base CX0 1 "check_balance" ["many", "ties"] K12.iV:=FD.cal X G h_bal (fun _ _ _ _ _ _ us hl=>match us,hl with | [_,_],_=>rfl) fun F_bal=>K12.aDg F_bal B12 ⟨_,PySem.W.mg_of X G g_MOST_TIES_OUT⟩
 have C_outs : Cal l.prog w K mg base CX0 1 "houses_out" ["many", "ties", "house"] (K12.oT Pt):=FC.cal X G h_outs (fun _ _ _ _ _ _ us hl=>match us,hl with | [_,_,_],_=>rfl) fun F_outs=>K12.aCj F_outs B12 kb hb q_outs
 have C_dist : Cal l.prog w K mg base CX0 1 "distances_from" ["out_lists", "start"] K12.oV:=FD.cal X G h_dist (fun _ _ _ _ _ _ us hl=>match us,hl with | [_,_],_=>rfl) fun F_dist=>K12.aCk F_dist B12
 have C_reach : Cal l.prog w K mg base CX0 1 "check_reached" ["distances"] K12.qB:=FD.cal X G h_reach (fun _ _ _ _ _ _ us hl=>match us,hl with | [_],_=>rfl) fun F_reach=>K12.aA2 F_reach B12
 have G_init : FnOk l.prog w K mg base CX0 7 f_i _ ["self", "many", "ties"] (K12.oW C Pt):=K12.aCm F_m_init T B12 C_cties C_bal C_outs C_dist C_reach
 have M_check : MCal l.prog w K mg base CX0 4 C "check_house" ["self", "thing"] (K12.nK C):=MD.cal m_check (fun _ _ _ _ _ _ us hl=>match us,hl with | [_,_],_=>rfl) fun F_m_check=>K12.aAj F_m_check T C_house
 have M_far : MCal l.prog w K mg base CX0 5 C "far" ["self", "one", "other"] (K12.tS C):=MD.cal m_far (fun _ _ _ _ _ _ us hl=>match us,hl with | [_,_,_],_=>rfl) fun F_m_far=>K12.aCn F_m_far T M_check
 have C_whole6 : Cal l.prog w K mg base CX0 1 "is_whole" ["thing"] gT:=FD.cal X G h_whole (fun _ _ _ _ _ _ us hl=>match us,hl with | [_],_=>rfl) fun F_whole=>nI F_whole B
 have C_within6 : Cal l.prog w K mg base CX0 2 "is_whole_within" ["thing", "least", "most"] eV:=FD.cal X G h_within (fun _ _ _ _ _ _ us hl=>match us,hl with | [_,_,_],_=>rfl) fun F_within=>lR F_within C_whole6
 have C_handed : Cal l.prog w K mg base CX0 3 "is_handed_on" ["stands", "log", "letter", "beat"] kY:=FD.cal X G h_handed (fun _ _ _ _ _ _ us hl=>match us,hl with | [_,_,_,_],_=>rfl) fun F_handed=>aAx F_handed B C_within6
 have C_sent : Cal l.prog w K mg base CX0 4 "is_sent_from" ["stands", "log", "letter", "beat", "house"] uG:=FD.cal X G h_sent (fun _ _ _ _ _ _ us hl=>match us,hl with | [_,_,_,_,_],_=>rfl) fun F_sent=>aCz F_sent C_handed
 have C_chain : Cal l.prog w K mg base CX0 5 "is_chain" ["homes", "stands", "log", "letter", "beat", "thing"] qJ:=FD.cal X G h_chain (fun _ _ _ _ _ _ us hl=>match us,hl with | [_,_,_,_,_,_],_=>rfl) fun F_chain=>aBh F_chain B C_handed C_sent
 have C_str : Cal l.prog w K mg base CX0 6 "is_straight" ["net", "homes", "stands", "log", "letter", "beat", "chain"] (yA C):=FD.cal X G h_str (fun _ _ _ _ _ _ us hl=>match us,hl with | [_,_,_,_,_,_,_],_=>rfl) fun F_str=>aDA F_str B T C_chain M_far
 have C_pot : Cal l.prog w K mg base CX0 1 "_law_pot" ["_law_script", "_law_k"] (xO K):=FD.cal X G h_pot (fun _ _ _ _ _ _ us hl=>match us,hl with | [_,_],_=>rfl) fun F_pot=>aDj F_pot B
 have C_take : Cal l.prog w K mg base CX0 1 "_law_take" ["_law_pot_here", "_law_many"] eW:=FD.cal X G h_take (fun _ _ _ _ _ _ us hl=>match us,hl with | [_,_],_=>rfl) fun F_take=>aCo F_take
 have C_shuf : Cal l.prog w K mg base CX0 2 "_law_shuffled" ["_law_pot_here", "_law_some"] (oX K):=FD.cal X G h_shuf (fun _ _ _ _ _ _ us hl=>match us,hl with | [_,_],_=>rfl) fun F_shuf=>aCp F_shuf B C_take
 have C_join : Cal l.prog w K mg base CX0 1 "_law_joined" ["_law_outs", "_law_row"] tV:=FD.cal X G h_join (fun _ _ _ _ _ _ us hl=>match us,hl with | [_,_],_=>rfl) fun F_join=>aCq F_join B
 have C_words : Cal l.prog w K mg base CX0 2 "_law_words" ["_law_pot_here"] mL:=FD.cal X G h_words (fun _ _ _ _ _ _ us hl=>match us,hl with | [_],_=>rfl) fun F_words=>aA9 F_words B C_take
 have C_net : Cal l.prog w K mg base CX0 3 "_law_net" ["_law_pot_here"] mL:=FD.cal X G h_net (fun _ _ _ _ _ _ us hl=>match us,hl with | [_],_=>rfl) fun F_net=>aDp F_net B C_take C_shuf C_join C_words
 have C_gr : Cal l.prog w K mg base CX0 1 "_law_going_round" ["_law_outs"] spGR:=FD.cal X G h_gr (fun _ _ _ _ _ _ us hl=>match us,hl with | [_],_=>rfl) fun F_gr=>aD5 F_gr B
 have C_tiesL : Cal l.prog w K mg base CX0 1 "_law_ties" ["_law_outs"] qL:=FD.cal X G h_tiesL (fun _ _ _ _ _ _ us hl=>match us,hl with | [_],_=>rfl) fun F_tiesL=>aBl F_tiesL
 have C_lfar : Cal l.prog w K mg base CX0 1 "_law_far" ["_law_outs", "_law_home"] sB:=FD.cal X G h_lfar (fun _ _ _ _ _ _ us hl=>match us,hl with | [_,_],_=>rfl) fun F_lfar=>aDy F_lfar B
 have C_lfars : Cal l.prog w K mg base CX0 2 "_law_fars" ["_law_outs"] uM:=FD.cal X G h_lfars (fun _ _ _ _ _ _ us hl=>match us,hl with | [_],_=>rfl) fun F_lfars=>aCJ F_lfars B C_lfar
 have C_let : Cal l.prog w K mg base CX0 2 "_law_letters" ["_law_pot_here", "_law_outs", "_law_most"] xR:=FD.cal X G h_let (fun _ _ _ _ _ _ us hl=>match us,hl with | [_,_,_],_=>rfl) fun F_let=>aDr F_let B C_take
 have C_beh : Cal l.prog w K mg base CX0 1 "_law_behind" ["_law_homes", "_law_stand", "_law_gone"] xS:=FD.cal X G h_beh (fun _ _ _ _ _ _ us hl=>match us,hl with | [_,_,_],_=>rfl) fun F_beh=>aDs F_beh B
 have C_any : Cal l.prog w K mg base CX0 3 "_law_any_handing" ["_law_pot_here", "_law_outs", "_law_stand"] xU:=FD.cal X G h_any (fun _ _ _ _ _ _ us hl=>match us,hl with | [_,_,_],_=>rfl) fun F_any=>aDu F_any B C_take C_shuf
 have C_in : Cal l.prog w K mg base CX0 2 "_law_let_in" ["_law_pot_here", "_law_outs", "_law_homes", "_law_stand", "_law_fresh"] spIn:=FD.cal X G h_in (fun _ _ _ _ _ _ us hl=>match us,hl with | [_,_,_,_,_],_=>rfl) fun F_in=>aEa F_in B C_take
 have C_log : Cal l.prog w K mg base CX0 4 "_law_any_log" ["_law_pot_here", "_law_outs", "_law_homes", "_law_stand", "_law_most"] xW:=FD.cal X G h_log (fun _ _ _ _ _ _ us hl=>match us,hl with | [_,_,_,_,_],_=>rfl) fun F_log=>aDw F_log B C_take C_any C_beh C_in
 have C_chainL : Cal l.prog w K mg base CX0 1 "_law_is_chain" ["_law_homes", "_law_stands", "_law_log", "_law_i", "_law_beat", "_law_thing"] nQ:=FD.cal X G h_chainL (fun _ _ _ _ _ _ us hl=>match us,hl with | [_,_,_,_,_,_],_=>rfl) fun F_chainL=>aAy F_chainL B
 have C_walk : Cal l.prog w K mg base CX0 2 "_law_walked" ["_law_pot_here", "_law_homes", "_law_stands", "_law_log", "_law_i", "_law_beat"] uH:=FD.cal X G h_walk (fun _ _ _ _ _ _ us hl=>match us,hl with | [_,_,_,_,_,_],_=>rfl) fun F_walk=>aCB F_walk B C_take
 have C_lr : Cal l.prog w K mg base CX0 7 "_law_letter_right" ["_law_pot_here", "_law_net_here", "_law_fars_here", "_law_homes", "_law_stands", "_law_log", "_law_i"] (spLR C):=FD.cal X G h_lr (fun _ _ _ _ _ _ us hl=>match us,hl with | [_,_,_,_,_,_,_],_=>rfl) fun F_lr=>aEd F_lr B C_walk C_chainL C_str
 exact aDC F_law B T C_pot C_net C_gr C_lfars C_let C_log C_tiesL MK b_m_init G_init C_lr
theorem aEe {K : PySem.W.Frag} {P : Addr} (h : ((List.range 2000).any fun c=>PySem.W.codeHdIn K c P) = true) : ∃ c,PySem.W.codeHdIn K c P = true :=
 let ⟨c,_,e⟩:=List.any_eq_true.mp h; ⟨c,e⟩
theorem aDE {K : PySem.W.Frag} {H : Hp} {a : Addr} {xs : List V} {ts : List Addr} (hO : rT ts H) (h : SqL K H a xs) : SqF K H a xs:=by
 rcases h with h | h
 ·rcases h with h | ⟨o,h⟩
  ·rcases hO.2 a with z | ⟨_,z⟩ | ⟨o,ys,z⟩ <;> · rw [h] at z; cases z
  ·exact .inl ⟨o,h⟩
 ·exact .inr fun H'=>.inr h
theorem walk {l : PySem.W.OpenLaw} {q : Program} {loose : List Str} {XP : (Str→Option Value)→Heap→Prop} {YP : World→Heap→Prop} {d : DefRec} {K : Params→PySem.W.Frag} {Pt : Addr} (hn : l.most = some 63) (hdf : d.params.defaults = [])
  (hY : ∀ (w : World) (h : Heap),YP w h→(K w.params).In h) (hT : ∀ (w : World) (h : Heap),YP w h→∀ P∈[Pt],h.get? P = some (PySem.W.tabObj #[]))
  (hcd : ∀ (w : World),((List.range 2000).any fun c=>PySem.W.codeHdIn (K w.params) c Pt) = true) (hkt : ∀ (w : World),(K w.params).lookup Pt = none)
  (F : ∀ (w : World) (mg : Str→Option Value) (fa : Addr) (h : Heap),(K w.params).In h→h.Ns mainGlobals mg→mg d.name = some (.ref fa) →
   ∃ fd : FuncData,(∀ (s : Shared) (u : Value),BindsTo s fd ⟨[u],[]⟩ [("_law_script",u)])∧∀ base : Heap,(K w.params).In base→base.Ns mainGlobals mg→BmOk mg base→FnOk l.prog w (K w.params) mg base CX0 9 fa fd ["_law_script"] (sC (K w.params) Pt)) :
  PySem.W.WalkO q loose XP YP l.row.toRowW d [] (fun f vs=>PySem.call f vs) :=
 aAQ (n:=63) (k:=9) (x := "_law_script") (ts:=[Pt]) (K:=K) (CX:=fun _=>CX0) (sp:=fun w=>(sC (K w.params) Pt)) hn (by decide) hdf ⟨rfl,by decide,by decide⟩ hY hT
  (fun w P hP=>by rw [List.mem_singleton.mp hP]; exact aEe (hcd w)) (fun w P hP=>by rw [List.mem_singleton.mp hP]; exact hkt w) F
  (fun w H a ns hl hO hS=>⟨a,ns,rfl,aDE hO hS,hl,.inl (hO.1 _ (by simp)),fun _=>rfl⟩) fun _ _ _ _ _ z=>z
end K61
open PySem PySem.W PyProof.Rows
namespace PySem.W.Fast
theorem tw12488927472314517444:True:=⟨⟩
theorem tw8958436427623814272:True:=⟨⟩
theorem tw13516539523099820530:True:=⟨⟩
theorem tw4704091651798801599:True:=⟨⟩
theorem tw11517238103820571904:True:=⟨⟩
theorem tw14018552596126136989:True:=⟨⟩
theorem tw2579507381396578830:True:=⟨⟩
theorem tw15151017119662941668:True:=⟨⟩
theorem tw6273525845053457454:True:=⟨⟩
theorem tw6879515147335656878:True:=⟨⟩
theorem tw5168524967780856907:True:=⟨⟩
theorem tw14184304613914217797:True:=⟨⟩
theorem tw11176890719876033440:True:=⟨⟩
theorem tw8276889492139105463:True:=⟨⟩
theorem tw11670991585221849911:True:=⟨⟩
theorem tw2287384272550579509:True:=⟨⟩
theorem tw8236640693269513585:True:=⟨⟩
theorem tw10897121529276446622:True:=⟨⟩
theorem tw823518821262282305:True:=⟨⟩
theorem tw4740237782532305390:True:=⟨⟩
theorem tw3173224962050413614:True:=⟨⟩
theorem tw9143518125467995244:True:=⟨⟩
theorem tw5332949063481361112:True:=⟨⟩
theorem tw11728785958039186190:True:=⟨⟩
theorem tw1943662866810397693:True:=⟨⟩
theorem tw6024098013327671858:True:=⟨⟩
theorem tw9653268475441978679:True:=⟨⟩
theorem tw11587132872383037983:True:=⟨⟩
theorem tw10860855761361455152:True:=⟨⟩
theorem tw17123318422638964428:True:=⟨⟩
theorem tw12835817069175954447:True:=⟨⟩
theorem tw4357544075430799234:True:=⟨⟩
theorem tw6344235090675570875:True:=⟨⟩
theorem tw3433203073746022902:True:=⟨⟩
theorem tw11077421936606503905:True:=⟨⟩
theorem tw16446332505250997977:True:=⟨⟩
theorem tw2675403965518290690:True:=⟨⟩
theorem tw2125873118332245281:True:=⟨⟩
theorem tw6229377799096505890:True:=⟨⟩
theorem tw374192134075896500:True:=⟨⟩
theorem tw11106801130346759547:True:=⟨⟩
theorem tw433606180124524786:True:=⟨⟩
theorem tw15287726084476932233:True:=⟨⟩
theorem tw648897324765862601:True:=⟨⟩
theorem tw17536582474599836782:True:=⟨⟩
theorem tw16197233925061416776:True:=⟨⟩
theorem tw15024117829910759826:True:=⟨⟩
theorem tw5106512496294776418:True:=⟨⟩
theorem tw9862390601132896886:True:=⟨⟩
theorem tw14803393362374881664:True:=⟨⟩
theorem tw11374402314330399981:True:=⟨⟩
theorem tw9232232231994339859:True:=⟨⟩
theorem tw8752724281391406772:True:=⟨⟩
theorem tw17504496662760191874:True:=⟨⟩
theorem tw7917431931134366796:True:=⟨⟩
theorem tw17717895682052553563:True:=⟨⟩
theorem tw3764472050718566091:True:=⟨⟩
theorem tw9526277405721888191:True:=⟨⟩
theorem tw3109557652720616191:True:=⟨⟩
theorem tw17764835002131269745:True:=⟨⟩
theorem tw6166765173252448428:True:=⟨⟩
theorem tw11261561245842396585:True:=⟨⟩
theorem tw1068108832964452183:True:=⟨⟩
theorem tw9990202118721070848:True:=⟨⟩
theorem tw1546907542889983349:True:=⟨⟩
theorem tw4087510313804768724:True:=⟨⟩
theorem tw17001746709469188820:True:=⟨⟩
theorem tw15928613097645131638:True:=⟨⟩
theorem tw18091261830707971681:True:=⟨⟩
theorem tw9526398116182923503:True:=⟨⟩
theorem tw2266838806459580436:True:=⟨⟩
theorem tw11486024388641530768:True:=⟨⟩
theorem tw6466126916103344904:True:=⟨⟩
theorem tw3783002950594987661:True:=⟨⟩
theorem tw4007436089652222868:True:=⟨⟩
theorem tw16990691326049392722:True:=⟨⟩
theorem tw4046598733184643893:True:=⟨⟩
theorem tw820426178918787336:True:=⟨⟩
theorem tw10857471045022343456:True:=⟨⟩
theorem tw10306806408597551194:True:=⟨⟩
theorem tw7317911094812311450:True:=⟨⟩
theorem tw12973780168098266773:True:=⟨⟩
theorem tw9140030898556398361:True:=⟨⟩
theorem tw12242160404143973782:True:=⟨⟩
theorem tw822804530261097127:True:=⟨⟩
theorem tw9837646204015707009:True:=⟨⟩
theorem tw8678739104565171173:True:=⟨⟩
theorem tw8005703881909561423:True:=⟨⟩
theorem tw7753536354558743110:True:=⟨⟩
theorem tw17122573954394543122:True:=⟨⟩
theorem tw4015708536553164719:True:=⟨⟩
theorem tw9278706899883638270:True:=⟨⟩
theorem tw14537919404754154312:True:=⟨⟩
theorem tw4401104131586992964:True:=⟨⟩
theorem tw17255415464975103673:True:=⟨⟩
theorem tw17537010055973953853:True:=⟨⟩
theorem tw2024144047342476354:True:=⟨⟩
theorem tw1330477608928202881:True:=⟨⟩
theorem tw3951149890938611985:True:=⟨⟩
theorem tw7496373957926340276:True:=⟨⟩
theorem tw11070044601314791104:True:=⟨⟩
theorem tw12468346428196974981:True:=⟨⟩
theorem tw12194818424377690118:True:=⟨⟩
theorem tw3304400060780225632:True:=⟨⟩
theorem tw7936631649286275151:True:=⟨⟩
theorem tw18164713614035937715:True:=⟨⟩
theorem tw3124987331992644395:True:=⟨⟩
theorem tw444375562337966478:True:=⟨⟩
theorem tw5375943150556843676:True:=⟨⟩
theorem tw14249303147248506185:True:=⟨⟩
theorem tw13493396720601447666:True:=⟨⟩
theorem tw3196234314504628595:True:=⟨⟩
theorem tw1772195533447663673:True:=⟨⟩
theorem tw5918577499934188517:True:=⟨⟩
theorem tw11263841257266057107:True:=⟨⟩
theorem tw1026832922373821941:True:=⟨⟩
theorem tw10162349312240732897:True:=⟨⟩
theorem tw14668745403773986274:True:=⟨⟩
theorem tw3319114158903914060:True:=⟨⟩
theorem tw8429490553518776343:True:=⟨⟩
theorem tw17737000274385671230:True:=⟨⟩
theorem tw8469998525147275920:True:=⟨⟩
theorem tw16200794774250214437:True:=⟨⟩
theorem tw8867906974234779443:True:=⟨⟩
theorem tw5201336327353333066:True:=⟨⟩
theorem tw15507778970681197164:True:=⟨⟩
theorem tw13248889209879077769:True:=⟨⟩
theorem tw4713592468223037954:True:=⟨⟩
theorem tw12055218700523977261:True:=⟨⟩
theorem tw12680168088378349391:True:=⟨⟩
theorem tw18140331981406947063:True:=⟨⟩
theorem tw8427892118487028360:True:=⟨⟩
theorem tw7267897742640494993:True:=⟨⟩
theorem tw1339286618484804343:True:=⟨⟩
theorem tw7275721975383392097:True:=⟨⟩
theorem tw13304777138208952704:True:=⟨⟩
theorem tw16785032677580013265:True:=⟨⟩
theorem tw8276053672754013544:True:=⟨⟩
theorem tw3623909067617301100:True:=⟨⟩
theorem tw4361925105066153172:True:=⟨⟩
theorem tw231688750598379047:True:=⟨⟩
theorem tw6087015058844364904:True:=⟨⟩
theorem tw14493095807235483605:True:=⟨⟩
theorem tw16348291370891888362:True:=⟨⟩
theorem tw13068850927115690012:True:=⟨⟩
theorem tw18441608366979854276:True:=⟨⟩
theorem tw14409503013444067630:True:=⟨⟩
theorem tw4722352828701164066:True:=⟨⟩
theorem tw10085002720198608097:True:=⟨⟩
theorem tw2181955868619038486:True:=⟨⟩
theorem tw5528683579725948610:True:=⟨⟩
theorem tw17487723503832865056:True:=⟨⟩
theorem tw14422343590151782387:True:=⟨⟩
theorem tw7739832969136254363:True:=⟨⟩
theorem tw6992310446795051126:True:=⟨⟩
theorem tw15221980310293424915:True:=⟨⟩
theorem tw8811382711289816762:True:=⟨⟩
theorem tw15021809804632280622:True:=⟨⟩
theorem tw8620194139742127577:True:=⟨⟩
theorem tw13917717679719234798:True:=⟨⟩
theorem tw10738212760915383385:True:=⟨⟩
theorem tw6363503837093343406:True:=⟨⟩
theorem tw16276727438866775917:True:=⟨⟩
theorem tw1264036075098939534:True:=⟨⟩
theorem tw5265366444107962301:True:=⟨⟩
theorem tw12966801725996365901:True:=⟨⟩
theorem tw11885336879981205031:True:=⟨⟩
theorem tw6865222517327770910:True:=⟨⟩
theorem tw9952323712835326232:True:=⟨⟩
theorem tw12800277874466784901:True:=⟨⟩
theorem tw15009405856061038147:True:=⟨⟩
theorem tw16409145572701728107:True:=⟨⟩
theorem tw401172232222090170:True:=⟨⟩
theorem tw15845245234121529857:True:=⟨⟩
theorem tw7797662915021794351:True:=⟨⟩
theorem tw4690234091621264168:True:=⟨⟩
theorem tw10111077619717480958:True:=⟨⟩
theorem tw1953901942001194893:True:=⟨⟩
theorem tw374242485535555093:True:=⟨⟩
theorem tw4713913908444019630:True:=⟨⟩
theorem tw9206413741207717687:True:=⟨⟩
theorem tw4801741743577299992:True:=⟨⟩
theorem tw2558792825680867966:True:=⟨⟩
theorem tw3535221369689340608:True:=⟨⟩
theorem tw1237722982805987783:True:=⟨⟩
theorem tw53276627032299677:True:=⟨⟩
theorem tw3018971238126020121:True:=⟨⟩
theorem tw1988389797532814006:True:=⟨⟩
theorem tw13298065712304961973:True:=⟨⟩
theorem tw12220500871385426865:True:=⟨⟩
theorem tw9500628732449537324:True:=⟨⟩
theorem tw9307520542186481366:True:=⟨⟩
theorem tw15326735240771963441:True:=⟨⟩
theorem tw10736562622161344318:True:=⟨⟩
theorem tw2784373996627478984:True:=⟨⟩
theorem tw14101615766711029992:True:=⟨⟩
theorem tw13950886964240831510:True:=⟨⟩
theorem tw2910556315312609494:True:=⟨⟩
theorem tw12374766257725430882:True:=⟨⟩
theorem tw7036791824939051754:True:=⟨⟩
theorem tw12519476732663942203:True:=⟨⟩
theorem tw7438222215148193144:True:=⟨⟩
theorem tw2458512099915804447:True:=⟨⟩
theorem tw3619990287944927193:True:=⟨⟩
theorem tw12512194921955222828:True:=⟨⟩
theorem tw4795967893500022681:True:=⟨⟩
theorem tw17115176911209849832:True:=⟨⟩
theorem tw10578561601629220137:True:=⟨⟩
theorem tw13113736233899007334:True:=⟨⟩
theorem tw11030653178039701811:True:=⟨⟩
theorem tw12492824595412363216:True:=⟨⟩
theorem tw6856317081429184009:True:=⟨⟩
theorem tw12121047944561916713:True:=⟨⟩
theorem tw16467604623055718848:True:=⟨⟩
theorem tw11275736150793881683:True:=⟨⟩
theorem tw6335011131854142623:True:=⟨⟩
theorem tw4115110596347972855:True:=⟨⟩
theorem tw12359610491533092189:True:=⟨⟩
theorem tw7982904810111094802:True:=⟨⟩
theorem tw6888528956713892003:True:=⟨⟩
theorem tw14430000378593566172:True:=⟨⟩
theorem tw9708819408604672878:True:=⟨⟩
theorem tw4803565679550016689:True:=⟨⟩
theorem tw12251757416780903077:True:=⟨⟩
theorem tw2009892193944871977:True:=⟨⟩
theorem tw18028003170739434563:True:=⟨⟩
theorem tw5847814548648403348:True:=⟨⟩
theorem tw13880096393904757467:True:=⟨⟩
theorem tw3868482012458122739:True:=⟨⟩
theorem tw3926713298262527713:True:=⟨⟩
theorem tw14740585729599755704:True:=⟨⟩
theorem tw9183384048480700957:True:=⟨⟩
theorem tw18126848326142376562:True:=⟨⟩
theorem tw18051094970247727568:True:=⟨⟩
theorem tw17777361591680301125:True:=⟨⟩
theorem tw15560438394485588736:True:=⟨⟩
theorem tw475174050807204879:True:=⟨⟩
theorem tw13292226855470732480:True:=⟨⟩
theorem tw620072502613990452:True:=⟨⟩
theorem tw5592565601877277785:True:=⟨⟩
theorem tw17910735488709667261:True:=⟨⟩
theorem tw10770475441553811198:True:=⟨⟩
theorem tw9969669370298112686:True:=⟨⟩
theorem tw11389083719158014437:True:=⟨⟩
theorem tw6303163521634606761:True:=⟨⟩
theorem tw11221305884345940578:True:=⟨⟩
theorem tw15883292306483577210:True:=⟨⟩
theorem tw4958809081050209572:True:=⟨⟩
theorem tw13462925382836746851:True:=⟨⟩
theorem tw6921531673088750745:True:=⟨⟩
theorem tw4196210625250827893:True:=⟨⟩
theorem tw8552754068927895070:True:=⟨⟩
theorem tw3512301587963013315:True:=⟨⟩
theorem tw2787788905466594229:True:=⟨⟩
theorem tw2895485510303084344:True:=⟨⟩
theorem tw12590543905500566385:True:=⟨⟩
theorem tw14533106213328397219:True:=⟨⟩
theorem tw10692344347123020915:True:=⟨⟩
theorem tw14148253865219861785:True:=⟨⟩
theorem tw15030384284193574429:True:=⟨⟩
theorem tw6280572253035715616:True:=⟨⟩
theorem tw15220573181588800869:True:=⟨⟩
theorem tw14890715709449469530:True:=⟨⟩
theorem tw8586644299887825174:True:=⟨⟩
theorem tw17353722179948025281:True:=⟨⟩
theorem tw5790950149876626:True:=⟨⟩
theorem tw4962519058997992066:True:=⟨⟩
theorem tw12289622183491934803:True:=⟨⟩
theorem tw13549897440465749996:True:=⟨⟩
theorem tw18269381835138330421:True:=⟨⟩
theorem tw17287479328034779675:True:=⟨⟩
theorem tw756495795429683926:True:=⟨⟩
theorem tw18240552901598203456:True:=⟨⟩
theorem tw2427051639269247066:True:=⟨⟩
theorem tw6314369701988296757:True:=⟨⟩
theorem tw71973473005140691:True:=⟨⟩
theorem tw2176386450614498159:True:=⟨⟩
theorem tw7181498472807100658:True:=⟨⟩
theorem tw10437565382500471691:True:=⟨⟩
theorem tw12537553363980551265:True:=⟨⟩
theorem tw12553861731090707350:True:=⟨⟩
theorem tw4622746688523950597:True:=⟨⟩
theorem tw10932362699623749014:True:=⟨⟩
theorem tw1438119013799977093:True:=⟨⟩
theorem tw5011365148339519274:True:=⟨⟩
theorem tw9027987254082075945:True:=⟨⟩
theorem tw7921154061488694150:True:=⟨⟩
theorem tw3438813325488031440:True:=⟨⟩
theorem tw10328494659396253241:True:=⟨⟩
theorem tw15256539800539545655:True:=⟨⟩
theorem tw823818409477015150:True:=⟨⟩
theorem tw7039291533201200586:True:=⟨⟩
theorem tw10601382925169750593:True:=⟨⟩
theorem tw6437315344535956845:True:=⟨⟩
theorem tw17381292291948918635:True:=⟨⟩
theorem tw1717305539627492787:True:=⟨⟩
theorem tw14027121671940404713:True:=⟨⟩
theorem tw14595163019669223357:True:=⟨⟩
theorem tw3945504641598022110:True:=⟨⟩
theorem tw7915015319547855648:True:=⟨⟩
theorem tw4717122426563401588:True:=⟨⟩
theorem tw15198351890333478894:True:=⟨⟩
theorem tw4885650286009512644:True:=⟨⟩
theorem tw5727157238448490484:True:=⟨⟩
theorem tw3279753436032962858:True:=⟨⟩
theorem tw4785403492486629587:True:=⟨⟩
theorem tw12268404664977838112:True:=⟨⟩
theorem tw12919541414634535851:True:=⟨⟩
theorem tw12026715219824260373:True:=⟨⟩
theorem tw17749451682948449716:True:=⟨⟩
theorem tw17562279168756967707:True:=⟨⟩
theorem tw15612157806735668475:True:=⟨⟩
theorem tw13725401279582914044:True:=⟨⟩
theorem tw1632272088637056487:True:=⟨⟩
theorem tw4450912695080390541:True:=⟨⟩
end PySem.W.Fast
set_option maxRecDepth 100000 in
set_option maxHeartbeats 0 in
theorem PySem.Challenge.cw_neverwait_k62_straight_judged_holds : PySem.Challenge.rw_neverwait_k62_straight_judged.Holds := by
 w_on; o_law; k_head; (case hw=>w_witness2)
 k_fill
 refine K61.walk (l:=PySem.Challenge.rw_neverwait_k62_straight_judged) (Pt:=_) rfl rfl (fun w h Y=>PySem.W.km_in_of Y) (fun w h Y=>PySem.W.km_tabs_of Y) ?cd ?kt ?F
 case F =>
  intro w mg fa h KX G hmg
  refine' K61.aDD (Pt:=_) KX G hmg ?_ ?_ ?_ ?_ ?_ ?_ ?_ ?_ ?_ ?_ ?_ ?_ ?_ ?_ ?_ ?_ ?_ ?_ ?_ ?_ ?_ ?_ ?_ ?_ ?_ ?_ ?_ ?_ ?_ ?_ ?_ ?_ ?_ ?_ ?_ ?_ ?_ ?_ ?_ ?_ ?_ ?_ ?_ ?_ ?_ ?_ ?_ ?_ ?_ ?_ ?_ ?_ ?_ ?_ ?_ ?_ ?_ ?_ ?_ ?_ ?_ ?_ ?_ ?_ ?_ ?_ ?_ ?_ ?_ ?_ ?_
  all_goals first
   | (refine' K61.FD.mk ?a ?l ?d ?k; (case a=>k_is); (case l=>k_is); (case d=>k_is); (case k=>k_is))
   | (refine' K61.FC.mk ?a ?l ?d ?k; (case a=>k_is); (case l=>k_is); (case d=>k_is); (case k=>k_is))
   | (refine' K61.MD.mk ?a ?i ?l ?d ?k; (case a=>k_is); (case i=>k_is); (case l=>k_is); (case d=>k_is); (case k=>k_is))
   | k_is
   | kernel_rfl
   | skip
 case kt=>intro w; kernel_rfl
 case cd=>intro w; kernel_rfl
